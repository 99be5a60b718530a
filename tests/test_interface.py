"""The interface: calls in one list, answers in one list, nothing changed, kept or printed."""

import contextlib
import io
import unittest

import solidsdrawn.picture
from helper import (
    ONE, ask, clear, depth, fade, flat, fog, init, light, marks, matrix, normals, points, read, soften, split, sprite,
    texture, told, view,
)

LONG = [
    init(8, 8), clear(0xFF00FF00, 2.0), texture(1, 2), texture(9, 2), matrix(), view([4, 4, 2, 2]),
    points([1, 1, 1, 2, 2, 2]), light([0, 0, 1]), normals([0, 0, 4]), init(0, 0), points([1, 1, 1]), init(256, 256),
    points([1, 1, 1]), normals([0, 0, 4]), points([], 300), points([]), normals([]),
    init(2, 1), texture(0, 0, [64, 32, 16, 255]), fog(0x00202020, 0.0, 1.0), flat(z=0.5), flat(k=1), flat(k=9),
    read(0), sprite(x=1, z=-1.5), sprite(k=4), sprite(how=5), depth(1, 0), depth(2, 0), fade(0, 64), fade(0, 200),
    read(0), soften(), read(0), marks([0.5, 0.25, 9.0, 9.0], 0x04030201), marks([], 0, -1), read(0), read(1),
]
LONG_ANSWERS = [
    [0], [0], [0], [-1], [0], [0],
    [2, 6 * ONE, 6 * ONE, ONE, ONE, 8 * ONE, 8 * ONE, 2 * ONE, ONE], [0], [0, 0, 0, ONE, ONE], [-1],
    [1, 6 * ONE, 6 * ONE, ONE, ONE], [0],
    [1, ONE, ONE, ONE, ONE], [0, 0, 0, ONE, 0], [-1], [0], [0],
    [0], [0], [0], [1], [-2], [-1],
    [2, 48, 32, 24, 255, 0, 0, 0, 0], [1], [-2], [-1], [0, -3 * ONE // 2], [-1], [0], [-1],
    [2, 24, 16, 12, 127, 32, 16, 8, 127], [0], [2, 28, 16, 10, 127, 32, 16, 8, 127], [1], [-1],
    [2, 1, 2, 3, 4, 32, 16, 8, 127], [-1],
]


def joined(calls):
    return [number for call in calls for number in call]


class Lists(unittest.TestCase):
    def test_calls_by_their_numbers(self):
        one = 0x3F800000
        two = 0x40000000
        calls = [
            0, 2, 1,
            1, 4278190335, one,
            2, 0, 0, 4, 1, 2, 3, 4,
            3, 16, two, 0, 0, 0, 0, two, 0, 0, 0, 0, two, 0, 0, 0, 0, one,
            4, 4, 0, 0, one, one,
            5, 1, 3, one, one, two,
            6, 3, one, 0, 0,
            7, 1, 3, two, 0, 0,
        ]
        expected = [
            1, 0, 1, 0, 1, 0, 1, 0, 1, 0,
            5, 1, told(2.0), told(2.0), told(4.0), told(1.0),
            1, 0,
            5, 0, told(1.0), 0, 0, told(1.0),
        ]
        self.assertEqual(solidsdrawn.picture.answers(calls), expected)

    def test_the_other_calls_by_their_numbers(self):
        one = 0x3F800000
        two = 0x40000000
        calls = [
            0, 2, 1,
            2, 3, 0, 4, 200, 100, 50, 255,
            8, 0, 0, two,
            9, 3, 4, 21,
            0, 0, one, one, 0, 0, one,
            two, 0, one, one, 0, 0, one,
            0, one, one, one, 0, 0, one,
            1, 0x04030201, two,
            9, 3, 4, 21,
            0, 0, one, one, 0, 0, one,
            two, 0, one, one, 0, 0, one,
            0, one, one, one, 0, 0, one,
            10, 3, 0, 1, 0, 0xBF800000,
            14, 0,
            15, 1, 0,
            11, 0, 64,
            12,
            13, 2, 0xFFFFFFFF, 4, 0x3FF0000000000000, 0, 0x4000000000000000, 0,
            14, 0,
        ]
        expected = [
            1, 0, 1, 0, 1, 0, 1, 0, 1, 0, 1, 1, 1, 1,
            9, 2, 100, 50, 25, 255, 200, 100, 50, 255,
            2, 0, told(-1.0),
            1, 0, 1, 0, 1, 1,
            9, 2, 75, 38, 19, 127, 255, 255, 255, 255,
        ]
        self.assertEqual(solidsdrawn.picture.answers(calls), expected)

    def test_several_calls_in_one_list(self):
        self.assertEqual(ask(*LONG), LONG_ANSWERS)

    def test_the_counts_in_the_list_that_is_given_back(self):
        expected = joined([len(answer)] + answer for answer in LONG_ANSWERS)
        self.assertEqual(solidsdrawn.picture.answers(joined(LONG)), expected)

    def test_counts_of_refusals_and_of_empty_rows(self):
        calls = joined([init(), points([]), normals([]), points([], -1), normals([], 257), texture(0, 7), init(257, 1)])
        self.assertEqual(solidsdrawn.picture.answers(calls), [1, 0, 1, 0, 1, 0, 1, -1, 1, -1, 1, -1, 1, -1])

    def test_one_call_alone(self):
        self.assertEqual(solidsdrawn.picture.answers([0, 1, 1]), [1, 0])

    def test_a_hundred_calls(self):
        calls = [init()] + [init(256, 256), clear(1, 1.0), matrix(), points([1, 2, 3])] * 24 + [view()] * 3
        self.assertEqual(len(calls), 100)
        expected = [[0]] + [[0], [0], [0], [1, ONE, 2 * ONE, 3 * ONE, ONE]] * 24 + [[0]] * 3
        self.assertEqual(ask(*calls), expected)

    def test_a_long_list(self):
        calls = joined([init()] + [points([1, 2, 3] * 256), normals([0, 0, 4] * 256)] * 10 + [texture(0, 3)])
        self.assertLessEqual(len(calls), 16000)
        given_back = split(solidsdrawn.picture.answers(calls))
        self.assertEqual([len(answer) for answer in given_back], [1] + [1025] * 20 + [1])

    def test_any_order(self):
        calls = [
            init(), normals([0, 0, 4]), light([0, 0, 1]), points([1, 1, 1]), normals([0, 0, 4]), view([1, 1, 1, 1])]
        expected = [[0], [0, 0, 0, ONE, 0], [0], [1, ONE, ONE, ONE, ONE], [0, 0, 0, ONE, ONE], [0]]
        self.assertEqual(ask(*calls), expected)


class Kinds(unittest.TestCase):
    def test_whole_numbers_and_lists_alone(self):
        given_back = solidsdrawn.picture.answers(joined(LONG))
        self.assertIs(type(given_back), list)
        self.assertEqual({type(number) for number in given_back}, {int})


class NothingKept(unittest.TestCase):
    def test_what_is_handed_in_is_not_changed(self):
        calls = joined(LONG)
        before = list(calls)
        solidsdrawn.picture.answers(calls)
        self.assertEqual(calls, before)

    def test_it_is_not_changed_for_a_while_either(self):
        class Unchanging(list):
            def refuse(self, *given):
                raise AssertionError("changed")
            __setitem__ = __delitem__ = __iadd__ = append = extend = insert = pop = remove = refuse
            sort = reverse = clear = refuse

        calls = Unchanging(joined(LONG))
        self.assertEqual(split(solidsdrawn.picture.answers(calls)), LONG_ANSWERS)

    def test_the_same_when_asked_twice(self):
        calls = joined(LONG)
        first = solidsdrawn.picture.answers(calls)
        kept = list(first)
        ask(init(), matrix([2] * 16), light([1, 1, 1]), view([9, 9, 9, 9]), texture(1, 0))
        self.assertEqual(solidsdrawn.picture.answers(calls), kept)
        ask(init(), fog(0xFFFFFFFF), texture(0, 0, [9, 9, 9, 9]), clear(7, 0.25), flat())
        self.assertEqual(solidsdrawn.picture.answers(calls), kept)
        first.clear()
        self.assertEqual(solidsdrawn.picture.answers(calls), kept)

    def test_a_new_object_each_time(self):
        ask(init(), matrix([2] * 16), view([9, 9, 9, 9]), light([1, 1, 1]))
        self.assertEqual(
            ask(init(), points([1, 2, 3]), normals([0, 0, 4])),
            [[0], [1, ONE, 2 * ONE, 3 * ONE, ONE], [0, 0, 0, ONE, 0]])
        ask(init(1, 1), fog(0xFFFFFFFF), texture(0, 0, [9, 9, 9, 9]), clear(7, 0.25), sprite())
        self.assertEqual(
            ask(init(1, 1), sprite(), read(0), depth(0, 0), texture(0, 0, [4, 4, 4, 4]), flat(z=0.5), read(0)),
            [[0], [-2], [1, 0, 0, 0, 0], [0, ONE], [0], [1], [1, 4, 4, 4, 4]])

    def test_nothing_is_printed(self):
        out, err = io.StringIO(), io.StringIO()
        with contextlib.redirect_stdout(out), contextlib.redirect_stderr(err):
            solidsdrawn.picture.answers(joined(LONG))
        self.assertEqual((out.getvalue(), err.getvalue()), ("", ""))


if __name__ == "__main__":
    unittest.main()
