"""Solids drawn with textures, fog and sprites; picture.answers is the way in."""
