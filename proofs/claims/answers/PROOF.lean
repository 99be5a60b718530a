import PyProof.Rows.All
import Wide.All
import OpenK.AllK
import Wide.FinOn
import PyProof.EqAt
import PyProof.EqKinds
import PyProof.TupleCall
import KE.BitLaws
import Open.SpecLaws
import KE.OsHead
import KE.OsGo
import PyProof.Rows.RuleDivmod
import PyProof.Rows.Chain
import PyProof.Walk
import PyProof.WalkLemmas
import Sb20Neutral
import PyProof.Rows.RuleB_or
import PySb20
import PyFlatLaws
import PySem.Challenge.RW_solidsdrawn_s01_answers
set_option Elab.async false
set_option linter.all false
set_option maxRecDepth 100000
set_option exponentiation.threshold 8000
set_option compiler.extract_closed false
namespace L2
open PySem PySem.Spec PyProof.Rows
abbrev Key:=Sum Int Str
def ZcP:Key→Value→Bool
 | .inl k,v=>Value.isInt k v
 | .inr x,v=>Value.isStrOf x v
def ZnQ (w:World):Key→Int
 | .inl k=>hashInt k
 | .inr x=>hashStr w x
theorem Ya:∀ {k:Key}{v:Value},ZcP k v=true→(∃ i t,k=Sum.inl i∧v=Value.int i t)∨(∃ x t,k=Sum.inr x∧v=Value.str x t)
 | .inl i,v,h=>by
  obtain ⟨t,e⟩:=Value.isInt_shape (k:=i) (v:=v) h
  exact .inl ⟨i,t,rfl,e⟩
 | .inr x,v,h=>by
  obtain ⟨t,e⟩:=Value.isStrOf_shape (x:=x) (v:=v) h
  exact .inr ⟨x,t,rfl,e⟩
theorem ZhF (i:Int) (t:Tok):ZcP (.inl i) (.int i t)=true:=by simp [ZcP,Value.isInt]
theorem ZhY (x:Str) (t:Tok):ZcP (.inr x) (.str x t)=true:=by simp [ZcP,Value.isStrOf]
theorem Zmk (a b:Int):decide ((Sum.inl a:Key)=Sum.inl b)=(a==b):=by
 by_cases e:a=b
 ·subst e;simp
 ·have h:¬ (Sum.inl a:Key)=Sum.inl b:=fun q=>e (Sum.inl.inj q)
  rw [decide_eq_false h]
  exact (beq_eq_false_iff_ne.mpr e).symm
theorem ZlY (a b:Str):decide ((Sum.inr a:Key)=Sum.inr b)=decide (a=b):=by
 by_cases e:a=b
 ·subst e;simp
 ·have h:¬ (Sum.inr a:Key)=Sum.inr b:=fun q=>e (Sum.inr.inj q)
  rw [decide_eq_false h,decide_eq_false e]
theorem ZmS (a:Int) (b:Str):decide ((Sum.inl a:Key)=Sum.inr b)=false:=decide_eq_false (fun q=>nomatch q)
theorem ZmJ (a:Str) (b:Int):decide ((Sum.inr a:Key)=Sum.inl b)=false:=decide_eq_false (fun q=>nomatch q)
def Yw (prog:Program) (w:World):PySem.KeyKind prog w Key where
 is:=ZcP
 hash:=ZnQ w
 inj:=fun v a b ha hb=>by
  rcases Ya ha with ⟨i,t,rfl,rfl⟩ | ⟨x,t,rfl,rfl⟩
  ·rcases Ya hb with ⟨j,u,rfl,e⟩ | ⟨y,u,rfl,e⟩
   ·injection e with e1 _;rw [e1]
   ·exact nomatch e
  ·rcases Ya hb with ⟨j,u,rfl,e⟩ | ⟨y,u,rfl,e⟩
   ·exact nomatch e
   ·injection e with e1 _;rw [e1]
 byValue:=fun k v h=>by
  rcases Ya h with ⟨i,t,rfl,rfl⟩ | ⟨x,t,rfl,rfl⟩ <;> rfl
 pyHash:=fun hv h=>by
  rcases Ya hv with ⟨i,t,rfl,rfl⟩ | ⟨x,t,rfl,rfl⟩
  ·exact wpAny_pyHash_int h
  ·exact wpAny_pyHash_str h
 eqBool:=fun hu hv h=>by
  rcases Ya hu with ⟨i,t,rfl,rfl⟩ | ⟨x,t,rfl,rfl⟩
  ·rcases Ya hv with ⟨j,u,rfl,rfl⟩ | ⟨y,u,rfl,rfl⟩
   ·rw [Zmk] at h;exact wpAny_eqBool_int h
   ·rw [ZmS] at h;exact SeqAt.EqAt.int_str i t y u _ _ _ _ h
  ·rcases Ya hv with ⟨j,u,rfl,rfl⟩ | ⟨y,u,rfl,rfl⟩
   ·rw [ZmJ] at h;exact SeqAt.EqAt.str_int x t j u _ _ _ _ h
   ·rw [ZlY] at h;exact wpAny_eqBool_str h
 «strs»:=fun k x t v h=>by
  rcases Ya h with ⟨i,u,rfl,e⟩ | ⟨y,u,rfl,e⟩
  ·exact nomatch e
  ·injection e with e1 _
   subst e1
   cases v <;> rfl
theorem ZeK (prog:Program) (w:World) (i:Int) (t:Tok):(Yw prog w).is (.inl i) (.int i t)=true:=ZhF i t
theorem Zfo (prog:Program) (w:World) (x:Str) (t:Tok):(Yw prog w).is (.inr x) (.str x t)=true:=ZhY x t
end L2
namespace L2
open PySem PySem.Spec PyProof.Rows
inductive V where
 | non | bl (b:Bool) | int (i:Int) | str (x:Str) | byt (b:Array UInt8) | flt (b:UInt64) | ref (a:Addr) | ty (n:String)
 deriving DecidableEq
def RelV:V→Value→Prop
 | .non,u=>u=Value.none
 | .bl b,u=>u=Value.bool b
 | .int i,u=>∃ t,u=Value.int i t
 | .str x,u=>∃ t,u=Value.str x t
 | .byt b,u=>∃ t,u=Value.bytes b t
 | .flt b,u=>∃ t,u=Value.float b t
 | .ref a,u=>u=Value.ref a
 | .ty n,u=>u=Value.type n
abbrev Vals:List V→List Value→Prop:=Paired RelV
theorem Vals.length {xs:List V}{us:List Value}(r:Vals xs us):xs.length=us.length:=Paired.length r
theorem Vals.get:∀ {xs:List V}{us:List Value}{i:Nat}{x:V},Vals xs us→xs[i]?=some x→∃ u,us[i]?=some u∧RelV x u
 | _,_,_,_,.nil,e=>by simp at e
 | _,_,0,_,.cons r _,e=>by simp at e;subst e;exact ⟨_,rfl,r⟩
 | _,_,i+1,x,.cons _ t,e=>by
  obtain ⟨u,h1,h2⟩:=Vals.get (i:=i) (x:=x) t (by simpa using e)
  exact ⟨u,by simpa using h1,h2⟩
theorem Vals.set {x:V}{u:Value}(r:RelV x u):∀ {xs:List V}{us:List Value}(i:Nat),Vals xs us→Vals (xs.set i x) (us.set i u)
 | _,_,_,.nil=>.nil
 | _,_,0,.cons _ t=>.cons r t
 | _,_,i+1,.cons q t=>.cons q (Vals.set r i t)
theorem Vals.append:∀ {xs ys:List V}{us ws:List Value},Vals xs us→Vals ys ws→Vals (xs++ys) (us++ws)
 | _,_,_,_,.nil,s=>s
 | _,_,_,_,.cons r t,s=>.cons r (Vals.append t s)
theorem Vals.take:∀ {xs:List V}{us:List Value}(n:Nat),Vals xs us→Vals (xs.take n) (us.take n)
 | _,_,0,_=>.nil
 | _,_,_+1,.nil=>.nil
 | _,_,n+1,.cons r t=>.cons r (Vals.take n t)
theorem Vals.drop:∀ {xs:List V}{us:List Value}(n:Nat),Vals xs us→Vals (xs.drop n) (us.drop n)
 | _,_,0,r=>r
 | _,_,_+1,.nil=>.nil
 | _,_,n+1,.cons _ t=>Vals.drop n t
def QY:Option V→Option Value→Prop
 | some v,some u=>RelV v u
 | none,none=>True
 | _,_=>False
def KV {κ:Type}:List (κ×V)→List (κ×Value)→Prop:=Paired fun (p:κ×V) (q:κ×Value)=>p.1=q.1∧RelV p.2 q.2
def kV:Key→V
 | .inl i=>.int i
 | .inr x=>.str x
inductive HO where
 | lst (xs:List V)
 | tup (xs:List V)
 | dK (kvs:List (Key×V)) | dT (kvs:List (List Key×V))
 | set (S:Int→Bool) (n:Nat)
 | ins (C dx:Addr) (fs:List (Str×V))
 | own (x:Addr)
 | xd (fs:List (Str×V))
 | met (f x:Addr)
 | rng (lo hi:Int)
 | frz (o:Obj) (u:HO)
 | tbl (ps:Array Value)
 | ext (φ:Heap→Prop)
abbrev Hp:=Addr→Option HO
def upd (H:Hp) (a:Addr) (o:HO):Hp:=fun b=>if b=a then some o else H b
theorem Ze {H:Hp}{a:Addr}{o:HO}:upd H a o a=some o:=by unfold upd;rw [if_pos rfl]
theorem Zn {H:Hp}{a b:Addr}{o:HO}(h:b≠a):upd H a o b=H b:=by unfold upd;rw [if_neg h]
theorem Yt {H:Hp}{a:Addr}{o u:HO}:upd (upd H a o) a u=upd H a u:=by
 funext b;unfold upd;split <;> rfl
theorem Xm {H:Hp}{a b:Addr}{o u:HO}(h:H a=some o) (h':H b=some u) (d:o≠u):a≠b:=by
 intro e;subst e;rw [h] at h';exact d (Option.some.inj h')
theorem Zs {H:Hp}{a b:Addr}{o:HO}(h:H a=some o) (h':H b=none):a≠b:=by
 intro e;subst e;rw [h] at h';cases h'
section
variable (P:Program) (w:World)
def Yb (H:Hp) (h:Heap) (a:Addr):HO→Prop
 | .lst xs=>xs.length≤sizeLine∧∃ (its:List Value) (n:Nat),Vals xs its∧h.get? a=some { cls:=.type "list",data:=.seq its.toArray n }
 | .tup xs=>xs.length≤sizeLine∧∃ its:List Value,Vals xs its∧IsTup h a its.toArray
 | .dK kvs=>kvs.length≤sizeLine∧(a==sysModules)=false∧∃ vs,KV kvs vs∧h.DictOf (Yw P w) a vs
 | .dT kvs=>kvs.length≤sizeLine∧(a==sysModules)=false∧∃ xs:List (List Key×Addr×Value),
   Paired (fun (p:List Key×V) (q:List Key×Addr×Value)=>p.1=q.1∧H q.2.1=some (.tup (p.1.map kV))∧RelV p.2 q.2.2) kvs xs ∧
   ∃ o es ep,h.get? a=some o∧o.ExactDict∧o.data=.dict es ep∧es.toList=xs.map (entryOfKey (tupleKind (Yw P w)))∧(xs.map (·.1)).Nodup
 | .set S n=>h.SetOf (intKind P w) a S n
 | .ins C dx fs=>H dx=some (.own a)∧fs.length≤1000∧dx≠a∧h.get? a=some (PySem.W.instObj C dx) ∧
   ∃ mA,h.Ns1 dx mA∧(∀ f,QY (fs.lookup f) (mA f))∧PySem.Within mA (fs.map (·.1))
 | .own _=>∃ o,h.get? a=some o
 | .xd fs=>∃ mA,h.Ns1 a mA∧∀ f,QY (fs.lookup f) (mA f)
 | .rng lo hi=>∃ t u v,h.get? a=some { cls:=.type "range",data:=.fields #[.int lo t,.int hi u,.int 1 v] }
 | .frz o u=>h.get? a=some o∧Yb H h a u
 | .tbl ps=>h.get? a=some { cls:=.none,data:=.fields ps }
 | .met f x=>h.get? a=some (PySem.W.methodObj (.ref f) (.ref x))
 | .ext φ=>φ h∧(∃ o,h.get? a=some o)∧∀ h1 h2:Heap,φ h1→(∀ o,h1.get? a=some o→h2.get? a=some o)→φ h2
def HOk (H:Hp) (h:Heap):Prop:=∀ a o,H a=some o→Yb P w H h a o
end
section
variable {P:Program}{w:World}{H H':Hp}{h h':Heap}{a:Addr}{o:HO}
theorem Yb.lt (x:Yb P w H h a o):a<h.objs.size:=by
 cases o with
 | lst xs=>obtain ⟨_,_,_,_,e⟩:=x;exact Heap.lt_size e
 | tup xs=>obtain ⟨_,_,_,p⟩:=x;exact p.lt
 | dK kvs=>obtain ⟨_,_,_,_,o,_,_,e,_⟩:=x;exact Heap.lt_size e
 | dT kvs=>obtain ⟨_,_,_,_,o,_,_,e,_⟩:=x;exact Heap.lt_size e
 | set S n=>obtain ⟨o,_,_,_,e,_⟩:=x;exact Heap.lt_size e
 | ins C dx fs=>obtain ⟨_,_,_,e,_⟩:=x;exact Heap.lt_size e
 | own y=>obtain ⟨_,e⟩:=x;exact Heap.lt_size e
 | xd fs=>obtain ⟨_,⟨_,_,_,e,_⟩,_⟩:=x;exact Heap.lt_size e
 | rng lo hi=>obtain ⟨_,_,_,e⟩:=x;exact Heap.lt_size e
 | frz ob u=>obtain ⟨e,_⟩:=x;exact Heap.lt_size e
 | tbl ps=>exact Heap.lt_size (show h.get? a=some _ from x)
 | met f y=>exact Heap.lt_size (show h.get? a=some _ from x)
 | ext φ=>obtain ⟨_,⟨_,e⟩,_⟩:=x;exact Heap.lt_size e
theorem Paired.Zmh {α β:Type}{F G:α→β→Prop}:∀ {l₁:List α}{l₂:List β},Paired F l₁ l₂→(∀ a b,F a b→G a b)→Paired G l₁ l₂
 | _,_,.nil,_=>.nil
 | _,_,.cons r t,f=>.cons (f _ _ r) (Paired.Zmh t f)
theorem Yb.stay (x:Yb P w H h a o) (k:∀ b u,(b=a∨H b=some (.own a))→h.get? b=some u→h'.get? b=some u)
  (ho:∀ b,H b=some (.own a)→H' b=some (.own a)) (ht:∀ b xs,H b=some (.tup xs)→H' b=some (.tup xs)):Yb P w H' h' a o:=by
 induction o with
 | lst xs=>obtain ⟨z,its,n,r,e⟩:=x;exact ⟨z,its,n,r,k _ _ (.inl rfl) e⟩
 | tup xs=>obtain ⟨z,its,r,ob,e,c⟩:=x;exact ⟨z,its,r,ob,k _ _ (.inl rfl) e,c⟩
 | dK kvs=>obtain ⟨z,y,vs,r,ob,es,ep,e,c⟩:=x;exact ⟨z,y,vs,r,ob,es,ep,k _ _ (.inl rfl) e,c⟩
 | dT kvs =>
  obtain ⟨z,y,xs,r,ob,es,ep,e,c⟩:=x
  exact ⟨z,y,xs,Paired.Zmh r fun p q z=>⟨z.1,ht _ _ z.2.1,z.2.2⟩,ob,es,ep,k _ _ (.inl rfl) e,c⟩
 | set S n=>obtain ⟨ob,es,ep,t,e,c⟩:=x;exact ⟨ob,es,ep,t,k _ _ (.inl rfl) e,c⟩
 | ins C dx fs =>
  obtain ⟨d,z,ne,e,mA,⟨od,es,ep,e2,c⟩,r⟩:=x
  exact ⟨ho _ d,z,ne,k _ _ (.inl rfl) e,mA,⟨od,es,ep,k _ _ (.inr d) e2,c⟩,r⟩
 | own y=>obtain ⟨ob,e⟩:=x;exact ⟨ob,k _ _ (.inl rfl) e⟩
 | xd fs=>obtain ⟨mA,⟨od,es,ep,e,c⟩,r⟩:=x;exact ⟨mA,⟨od,es,ep,k _ _ (.inl rfl) e,c⟩,r⟩
 | rng lo hi=>obtain ⟨t,u,v,e⟩:=x;exact ⟨t,u,v,k _ _ (.inl rfl) e⟩
 | frz ob u ih=>obtain ⟨e,q⟩:=x;exact ⟨k _ _ (.inl rfl) e,ih q⟩
 | tbl ps =>
  have e:h.get? a=some { cls:=.none,data:=.fields ps }:=x
  show h'.get? a=some { cls:=.none,data:=.fields ps }
  exact k a _ (.inl rfl) e
 | met f y =>
  have e:h.get? a=some (PySem.W.methodObj (.ref f) (.ref y)):=x
  show h'.get? a=some (PySem.W.methodObj (.ref f) (.ref y))
  exact k a _ (.inl rfl) e
 | ext φ=>obtain ⟨p,⟨o,e⟩,st⟩:=x;exact ⟨st _ _ p fun o q=>k _ _ (.inl rfl) q,⟨o,k _ _ (.inl rfl) e⟩,st⟩
theorem HOk.lt (x:HOk P w H h) (e:H a=some o):a<h.objs.size:=(x a o e).lt
theorem HOk.fresh (x:HOk P w H h) (e:h.objs.size≤a):H a=none:=by
 cases q:H a with
 | none=>rfl
 | some u=>exact absurd (Nat.lt_of_lt_of_le (x.lt q) e) (Nat.lt_irrefl _)
theorem HOk.kept (x:HOk P w H h) (k:∀ b u,h.get? b=some u→h'.get? b=some u):HOk P w H h':=fun a o e =>
 (x a o e).stay (fun b u _ q=>k b u q) (fun _ q=>q) fun _ _ q=>q
theorem HOk.laid (x:HOk P w H h) (k:∀ b u,h.get? b=some u→h'.get? b=some u) (hp:h.objs.size≤a) (new:Yb P w (upd H a o) h' a o):HOk P w (upd H a o) h':=fun b u e=>by
 have hn:=x.fresh hp
 by_cases hb:b=a
 ·subst hb;rw [Ze] at e;cases e;exact new
 ·rw [Zn hb] at e
  exact (x b u e).stay (fun c v _ q=>k c v q) (fun c q=>by rw [Zn (Zs q hn)];exact q) fun c xs q=>by rw [Zn (Zs q hn)];exact q
end
def Rd (H:Hp) (a:Addr) (u:HO):Prop:=H a=some u∨∃ o,H a=some (.frz o u)
theorem Rd.ok {P:Program}{w:World}{H:Hp}{h:Heap}{a:Addr}{u:HO}(r:Rd H a u) (x:HOk P w H h):Yb P w H h a u:=by
 rcases r with r | ⟨o,r⟩
 ·exact x a u r
 ·obtain ⟨_,q⟩:=x a _ r
  exact q
def Mut:Option HO→Prop
 | some (.lst _)=>True
 | some (.dK _)=>True
 | some (.dT _)=>True
 | some (.set _ _)=>True
 | some (.ins _ _ _)=>True
 | some (.ext _)=>True
 | _=>False
section
variable {P:Program}{w:World}{H:Hp}{h h':Heap}{x e:Addr}{o':HO}
theorem HOk.write (ok:HOk P w H h) (mu:Mut (H x)) (he:e=x∨H e=some (.own x)) (k:∀ b u,b≠e→h.get? b=some u→h'.get? b=some u) (heo:∃ u,h'.get? e=some u)
  (new:Yb P w (upd H x o') h' x o'):HOk P w (upd H x o') h':=fun b u q=>by
 have nown:∀ c y,H c=some (.own y)→c≠x:=fun c y r z=>by subst z;rw [r] at mu;exact mu
 have ntup:∀ c xs,H c=some (.tup xs)→c≠x:=fun c xs r z=>by subst z;rw [r] at mu;exact mu
 by_cases hb:b=x
 ·subst hb;rw [Ze] at q;cases q;exact new
 ·rw [Zn hb] at q
  by_cases hbe:b=e
  ·have q':H b=some (.own x):=by
    rcases he with z | z
    ·exact absurd (hbe.trans z) hb
    ·rw [hbe];exact z
   rw [q] at q';cases q'
   obtain ⟨v,hv⟩:=heo
   exact ⟨v,by rw [hbe];exact hv⟩
  ·refine (ok b u q).stay (fun c v hc r=>k c v ?_ r) (fun c r=>by rw [Zn (nown c b r)];exact r) fun c xs r=>by rw [Zn (ntup c xs r)];exact r
   rcases hc with rfl | hc
   ·exact hbe
   ·rintro rfl
    rcases he with z | z
    ·exact nown c b hc z
    ·rw [hc] at z;cases z;exact hb rfl
end
structure Un (fs ex:List Addr) (H H':Hp) (h h':Heap):Prop where
 keep:∀ b o,h.get? b=some o→H b=none→b∉fs→b∉ex→h'.get? b=some o
 slot:∀ b o,h.get? b=some o→H b=none→b∈fs→b∉ex→∃ sl,h'.get? b=some { o with slots:=sl }
 free:∀ b o,h.get? b=some o→H b=none→b∉ex→H' b=none
 there:∀ b o,h.get? b=some o→b∉ex→∃ o',h'.get? b=some o'
 tups:∀ b xs,H b=some (.tup xs)→H' b=some (.tup xs)
 frzs:∀ b o u,H b=some (.frz o u)→H' b=some (.frz o u)
 tbls:∀ b ps,H b=some (.tbl ps)→∃ more,H' b=some (.tbl (ps++more))
section
variable {fs fs' ex ex':List Addr}{H H1 H2:Hp}{h h1 h2 h':Heap}{a x e:Addr}{o:HO}
theorem Un.any (u:Un fs ex H H1 h h1){b:Addr}{ob:Obj}(q:h.get? b=some ob) (n:H b=none) (hx:b∉ex):∃ sl,h1.get? b=some { ob with slots:=sl }:=by
 by_cases hb:b∈fs
 ·exact u.slot b ob q n hb hx
 ·exact ⟨ob.slots,u.keep b ob q n hb hx⟩
theorem Un.kept (k:∀ b u,h.get? b=some u→h'.get? b=some u):Un fs ex H H h h' :=
 ⟨fun b ob q _ _ _=>k b ob q,fun b ob q _ _ _=>⟨ob.slots,k b ob q⟩,fun _ _ _ n _=>n,fun b ob q _=>⟨ob,k b ob q⟩,fun _ _ q=>q,fun _ _ _ q=>q,fun _ ps q=>⟨#[],by rw [q];simp⟩⟩
theorem Un.refl:Un fs ex H H h h:=Un.kept fun _ _ q=>q
theorem Un.laid (k:∀ b u,h.get? b=some u→h'.get? b=some u) (hp:h.objs.size≤a) (hn:H a=none):Un fs ex H (upd H a o) h h' where
 keep:=fun b u q _ _ _=>k b u q
 slot:=fun b u q _ _ _=>⟨u.slots,k b u q⟩
 free:=fun b u q n _=>by rw [Zn (Nat.ne_of_lt (Nat.lt_of_lt_of_le (Heap.lt_size q) hp))];exact n
 there:=fun b u q _=>⟨u,k b u q⟩
 tups:=fun b xs q=>by rw [Zn (Zs q hn)];exact q
 frzs:=fun b u xs q=>by rw [Zn (Zs q hn)];exact q
 tbls:=fun b ps q=>⟨#[],by rw [Zn (Zs q hn),q];simp⟩
theorem Un.write (mu:Mut (H x)) (he:e=x∨H e=some (.own x)) (k:∀ b u,b≠e→h.get? b=some u→h'.get? b=some u) (heo:∃ u,h'.get? e=some u):Un fs ex H (upd H x o) h h':=by
 have hx:∀ b,H b=none→b≠x:=fun b n z=>by subst z;rw [n] at mu;exact mu
 have hb:∀ b,H b=none→b≠e:=fun b n z=>by
  subst z
  rcases he with r | r
  ·exact hx b n r
  ·rw [n] at r;cases r
 have hm:∀ b u,H b=some u→¬ Mut (some u)→b≠x:=fun b u q nm z=>by subst z;rw [q] at mu;exact nm mu
 refine ⟨fun b u q n _ _=>k b u (hb b n) q,fun b u q n _ _=>⟨u.slots,k b u (hb b n) q⟩,fun b u q n _=>by rw [Zn (hx b n)];exact n,fun b u q _=>?_,
  fun b xs q=>by rw [Zn (hm b _ q fun z=>z)];exact q,fun b u xs q=>by rw [Zn (hm b _ q fun z=>z)];exact q,fun b ps q=>⟨#[],by rw [Zn (hm b _ q fun z=>z),q];simp⟩⟩
 by_cases hbe:b=e
 ·subst hbe;exact heo
 ·exact ⟨u,k b u hbe q⟩
end
def trk (h:Heap) (H:Hp):List Addr:=(List.range h.objs.size).filter fun a=>(H a).isSome
def ZdZ (h:Heap) (H:Hp):Heap:=PySem.W.hideAll h (trk h H)
theorem ZhO (h:Heap) (H:Hp):(ZdZ h H).objs.size=h.objs.size:=PySem.W.hideAll_size _ _
theorem ZiA {h:Heap}{H:Hp}{b:Addr}{o:Obj}(e:h.get? b=some o) (n:H b=none):(ZdZ h H).get? b=some o :=
 PySem.W.hideAll_get _ e fun hm=>by
  have q:(H b).isSome=true:=(List.mem_filter.mp hm).2
  rw [n] at q;simp at q
theorem Zlh {h:Heap}{H:Hp}{b:Addr}{o:Obj}(e:(ZdZ h H).get? b=some o):h.get? b=some o∧H b=none:=by
 have e':h.get? b=some o:=PySem.W.of_hideAll (trk h H) e
 refine ⟨e',?_⟩
 cases q:H b with
 | none=>rfl
 | some x =>
  have hm:b∈trk h H:=List.mem_filter.mpr ⟨List.mem_range.mpr (Heap.lt_size e'),by simp [q]⟩
  have z:(ZdZ h H).get? b=none:=PySem.W.hideAll_none (trk h H) hm
  rw [z] at e;cases e
end L2
namespace L2
open PySem PySem.Spec PyProof.Rows
structure Mod (K:PySem.W.Frag) (mg:Str→Option Value) (base:Heap):Prop where
 kin:K.In base
 glob:base.Ns mainGlobals mg
 blt:∃ mb,base.Ns builtinsNs mb∧∀ x:Str,x≠"__name__"→mb x=bootBuiltins x
 nolimit:base.NoLimit
structure Cx where
 prog:Program
 w:World
 K:PySem.W.Frag
 mg:Str→Option Value
 base:Heap
 A:Around
 N:List Str
 s_0:Shared
 H_0:Hp
 env:Env
 outer:List Env
 stack:List Env
 ex:List Addr
 fn:Str→Bool
 calm:Bool
 pn:List (Addr×Obj)
 xe:Value→Shared→Prop
def frs (l:List Env):List Addr:=l.filterMap (·.frame)
abbrev Cx.fs (X:Cx):List Addr:=frs X.outer
def Vis (sc:Scope) (x:Str):Prop:=sc.names.lookup x=some .local∨sc.names.lookup x=some .cell∨sc.names.lookup x=some .free
def Loc (sc:Scope) (x:Str):Prop:=sc.names.lookup x=some .local∨sc.names.lookup x=some .cell
def Look (env:Env) (h:Heap) (m:Str→Option Value) (x:Str) (u:Value):Prop :=
 (env.kindOf x=some .local∧m x=some u)∨((env.kindOf x=some .cell∨env.kindOf x=some .free)∧∃ c,env.cells.lookup x=some c∧h.IsCell c (some u))
structure Cx.Ok (X:Cx):Prop where
 mod:Mod X.K X.mg X.base
 kind:X.env.scope.kind=.function
 glob:X.env.globals=mainGlobals
 blt:X.env.builtins=builtinsNs
 above:X.s_0.heap.objs.size≤X.env.locals
 inj:∀ x y c,X.env.cells.lookup x=some c→X.env.cells.lookup y=some c→x=y
 has:∀ x,(X.env.kindOf x=some .cell∨X.env.kindOf x=some .free)→∃ c,X.env.cells.lookup x=some c
 cab:∀ x c,X.fn x=true→X.env.cells.lookup x=some c→X.s_0.heap.objs.size≤c
 hd:X.calm=true→X.A.handled=none
 frames:X.A.frames=some X.stack
 stk:X.stack=X.outer∨(X.stack=X.env::X.outer∧X.env.frame=some X.env.locals)
 exf:∀ b∈X.ex,b≠X.env.locals∧∀ x c,X.env.cells.lookup x=some c→c≠b
 bs:∀ b o,X.base.get? b=some o→X.s_0.heap.get? b=some o∧X.H_0 b=none
 bsz:X.base.objs.size≤X.s_0.heap.objs.size
 noex:∀ b o,X.base.get? b=some o→b∉X.ex
 exfs:∀ b∈X.ex,b∉X.fs
 funs:X.s_0.heap.FunFrames X.base X.outer
 frf:∀ b∈X.fs,X.H_0 b=none
structure Inv (X:Cx) (pins:List (Addr×Obj)) (σ:List (Option V)) (H:Hp) (s:Shared):Prop where
 ok:X.Ok
 os:s.os=X.s_0.os
 bare:AllBare s.gens
 base:Un X.fs X.ex X.H_0 H X.s_0.heap s.heap
 loc:∃ m,s.heap.Ns X.env.locals m∧∀ (i:Nat) (x:Str) (v:V),X.N[i]?=some x→σ[i]?=some (some v)→Vis X.env.scope x→∃ u,RelV v u∧Look X.env s.heap m x u
 cell:∀ x c,X.env.cells.lookup x=some c→∃ v,s.heap.IsCell c v
 free:H X.env.locals=none
 freeC:∀ x c,X.env.cells.lookup x=some c→H c=none
 pin:∀ p∈X.pn++pins,s.heap.get? p.1=some p.2∧H p.1=none∧p.1≠X.env.locals∧p.1∉X.fs∧∀ v,p.2.data≠.cell v
 hok:HOk X.prog X.w H s.heap
 len:σ.length=X.N.length
section
variable {X:Cx}{pins:List (Addr×Obj)}{σ:List (Option V)}{H H':Hp}{s:Shared}{h':Heap}
theorem Cx.Ok.Zom (ok:X.Ok){b:Addr}{o:Obj}(e:X.base.get? b=some o):b∉X.fs:=fun hb=>by
 have:=(ok.funs.mem hb).1
 rw [e] at this;cases this
theorem Inv.bs (I:Inv X pins σ H s):∀ b o,X.base.get? b=some o→s.heap.get? b=some o∧H b=none:=fun b o e =>
 ⟨I.base.keep b o (I.ok.bs b o e).1 (I.ok.bs b o e).2 (I.ok.Zom e) (I.ok.noex b o e),I.base.free b o (I.ok.bs b o e).1 (I.ok.bs b o e).2 (I.ok.noex b o e)⟩
theorem Inv.bk (I:Inv X pins σ H s):∀ b o,X.base.get? b=some o→s.heap.get? b=some o:=fun b o e=>(I.bs b o e).1
theorem Inv.mod (I:Inv X pins σ H s):Mod X.K X.mg X.base:=I.ok.mod
theorem Inv.kIn (I:Inv X pins σ H s):X.K.In s.heap:=I.ok.mod.kin.keeps I.bk
theorem Inv.lt (I:Inv X pins σ H s):X.env.locals<s.heap.objs.size:=let ⟨_,hn,_⟩:=I.loc;hn.lt
theorem Inv.sz (I:Inv X pins σ H s):X.s_0.heap.objs.size≤s.heap.objs.size:=Nat.le_trans I.ok.above (Nat.le_of_lt I.lt)
theorem Inv.Zol (I:Inv X pins σ H s){a:Addr}(h:s.heap.objs.size≤a):a∉X.fs:=fun hb=>by
 obtain ⟨_,o,ho,_⟩:=I.ok.funs.mem hb
 exact absurd (Nat.lt_of_lt_of_le (Heap.lt_size ho) (Nat.le_trans I.sz h)) (Nat.lt_irrefl _)
theorem Inv.cne (I:Inv X pins σ H s):∀ x c,X.env.cells.lookup x=some c→c≠X.env.locals:=fun x c e z=>by
 obtain ⟨v,o,ho,hd⟩:=I.cell x c e
 obtain ⟨m,⟨o',es,ep,ho',hd',_⟩,_⟩:=I.loc
 rw [z,ho'] at ho;cases ho;rw [hd'] at hd;cases hd
theorem Inv.funs (I:Inv X pins σ H s):s.heap.FunFrames X.base X.outer:=by
 have all:∀ (l:List Env),(∀ b∈frs l,b∈X.fs)→X.s_0.heap.FunFrames X.base l→s.heap.FunFrames X.base l:=by
  intro l
  induction l with
  | nil=>intro _ _;trivial
  | cons env r ih =>
   intro hs hl
   obtain ⟨hk,⟨L,o,hf,hn,ho,hd⟩,hr⟩:=hl
   have hL:L∈X.fs:=hs L (by unfold frs;rw [List.filterMap_cons,hf];exact List.mem_cons_self)
   obtain ⟨sl,e⟩:=I.base.slot L o ho (I.ok.frf L hL) hL fun z=>I.ok.exfs L z hL
   exact ⟨hk,⟨L,_,hf,hn,e,hd⟩,ih (fun b hb=>hs b (by unfold frs;rw [List.filterMap_cons,hf];exact List.mem_cons_of_mem _ hb)) hr⟩
 exact all X.outer (fun _ hb=>hb) I.ok.funs
theorem Inv.stack (I:Inv X pins σ H s):s.heap.FunFrames X.base X.stack:=by
 rcases I.ok.stk with e | ⟨e,hf⟩
 ·rw [e];exact I.funs
 ·rw [e]
  obtain ⟨m,hn,_⟩:=I.loc
  refine .cons (by rw [I.ok.kind];decide) hf hn ?_ I.funs
  exact Heap.get?_none_of_le (Nat.le_trans I.ok.bsz I.ok.above)
theorem Inv.Zbp (I:Inv X pins σ H s):∀ b∈frs X.stack,b∈X.env.locals::X.fs:=fun b hb=>by
 rcases I.ok.stk with e | ⟨e,hf⟩
 ·rw [e] at hb;exact List.mem_cons_of_mem _ hb
 ·rw [e] at hb
  unfold frs at hb
  rw [List.filterMap_cons,hf] at hb
  exact hb
theorem Inv.ZaW (I:Inv X pins σ H s):∀ b∈frs X.stack,H b=none:=fun b hb=>by
 rcases List.mem_cons.mp (I.Zbp b hb) with e | hb
 ·rw [e];exact I.free
 ·obtain ⟨_,o,ho,_⟩:=I.ok.funs.mem hb
  exact I.base.free b o ho (I.ok.frf b hb) fun z=>I.ok.exfs b z hb
theorem Inv.step {g':Array GenState}{t':Nat}{d':Drawn}{ch:List Addr}(I:Inv X pins σ H s)
  (hch:∀ b∈ch,(b∈X.ex∨X.s_0.heap.objs.size≤b)∧b≠X.env.locals∧(∀ x c,X.env.cells.lookup x=some c→c≠b)∧∀ p∈X.pn++pins,p.1≠b)
  (keep:∀ b o,b≠X.env.locals→b∉X.fs→b∉ch→s.heap.get? b=some o→H b=none→h'.get? b=some o)
  (slot:∀ b o,b≠X.env.locals→b∈X.fs→b∉ch→s.heap.get? b=some o→H b=none→∃ sl,h'.get? b=some { o with slots:=sl }) (free:∀ b o,b∉ch→s.heap.get? b=some o→H b=none→H' b=none)
  (there:∀ b o,b∉ch→s.heap.get? b=some o→∃ o',h'.get? b=some o')
  (tups:∀ b xs,H b=some (.tup xs)→H' b=some (.tup xs)) (frzs:∀ b o u,H b=some (.frz o u)→H' b=some (.frz o u)) (tbls:∀ b ps,H b=some (.tbl ps)→∃ more,H' b=some (.tbl (ps++more)))
  (ns:∀ m,s.heap.Ns X.env.locals m→h'.Ns X.env.locals m) (hok:HOk X.prog X.w H' h') (hg:AllBare g') :
  Inv X pins σ H' { s with heap:=h',gens:=g',drawn:=d',toks:=t' }:=by
 have neL:∀ b o,X.s_0.heap.get? b=some o→b≠X.env.locals:=fun b o e=>Nat.ne_of_lt (Nat.lt_of_lt_of_le (Heap.lt_size e) I.ok.above)
 have neC:∀ b o,X.s_0.heap.get? b=some o→b∉X.ex→b∉ch:=fun b o e hx hb=>by
  rcases (hch b hb).1 with z | z
  ·exact hx z
  ·exact absurd (Nat.lt_of_lt_of_le (Heap.lt_size e) z) (Nat.lt_irrefl _)
 have cellK:∀ x c,X.env.cells.lookup x=some c→∀ v,s.heap.IsCell c v→h'.IsCell c v:=fun x c e v ⟨o,ho,hd⟩=>by
  have nch:c∉ch:=fun z=>(hch c z).2.2.1 x c e rfl
  by_cases hc:c∈X.fs
  ·obtain ⟨sl,q⟩:=slot c o (I.cne x c e) hc nch ho (I.freeC x c e)
   exact ⟨_,q,hd⟩
  ·exact ⟨o,keep c o (I.cne x c e) hc nch ho (I.freeC x c e),hd⟩
 refine ⟨I.ok,I.os,hg,⟨fun b o e n hb hx=>?_,fun b o e n hb hx=>?_,fun b o e n hx=>?_,fun b o e hx=>?_,fun b xs e=>tups b xs (I.base.tups b xs e),fun b o xs e=>frzs b o xs (I.base.frzs b o xs e),fun b ps e=>?_⟩,?_,fun x c e=>?_,?_,fun x c e=>?_,fun p hp=>?_,hok,I.len⟩
 ·exact keep b o (neL b o e) hb (neC b o e hx) (I.base.keep b o e n hb hx) (I.base.free b o e n hx)
 ·obtain ⟨sl,e1⟩:=I.base.slot b o e n hb hx
  obtain ⟨sl',e2⟩:=slot b _ (neL b o e) hb (neC b o e hx) e1 (I.base.free b o e n hx)
  exact ⟨sl',e2⟩
 ·obtain ⟨o',e1⟩:=I.base.there b o e hx
  exact free b o' (neC b o e hx) e1 (I.base.free b o e n hx)
 ·obtain ⟨o',e1⟩:=I.base.there b o e hx
  exact there b o' (neC b o e hx) e1
 ·obtain ⟨m1,e1⟩:=I.base.tbls b ps e
  obtain ⟨m2,e2⟩:=tbls b _ e1
  exact ⟨m1++m2,by rw [e2,Array.append_assoc]⟩
 ·obtain ⟨m,hn,hl⟩:=I.loc
  refine ⟨m,ns m hn,fun i x v e1 e2 e3=>?_⟩
  obtain ⟨u,r,l⟩:=hl i x v e1 e2 e3
  refine ⟨u,r,?_⟩
  rcases l with l | ⟨k,c,e,z⟩
  ·exact .inl l
  ·exact .inr ⟨k,c,e,cellK x c e _ z⟩
 ·obtain ⟨v,z⟩:=I.cell x c e
  exact ⟨v,cellK x c e v z⟩
 ·obtain ⟨m,⟨o,_,_,ho,_⟩,_⟩:=I.loc
  exact free _ o (fun z=>(hch _ z).2.1 rfl) ho I.free
 ·obtain ⟨v,o,ho,hd⟩:=I.cell x c e
  exact free c o (fun z=>(hch c z).2.2.1 x c e rfl) ho (I.freeC x c e)
 ·obtain ⟨e,n,ne,nf,d⟩:=I.pin p hp
  have nch:p.1∉ch:=fun z=>(hch p.1 z).2.2.2 p hp rfl
  exact ⟨keep p.1 p.2 ne nf nch e n,free p.1 p.2 nch e n,ne,nf,d⟩
theorem Inv.un {t':Nat}(I:Inv X pins σ H s) (u:Un X.fs [] H H' s.heap h') (hok:HOk X.prog X.w H' h'):Inv X pins σ H' { s with heap:=h',toks:=t' }:=by
 obtain ⟨m,⟨o,es,ep,ho,r⟩,_⟩:=id I.loc
 obtain ⟨sl,hL⟩:=u.any ho I.free (by simp)
 exact I.step (g':=s.gens) (d':=s.drawn) (ch:=[]) (fun _ z=>nomatch z) (fun b o _ hb _ e n=>u.keep b o e n hb (by simp)) (fun b o _ hb _ e n=>u.slot b o e n hb (by simp)) (fun b o _ e n=>u.free b o e n (by simp)) (fun b o _ e=>u.there b o e (by simp)) u.tups u.frzs u.tbls (fun m' hm=>by
  obtain ⟨o',es',ep',ho',r'⟩:=hm
  rw [ho] at ho';cases ho'
  exact ⟨_,es',ep',hL,r'⟩) hok I.bare
theorem Inv.call {g':Array GenState}{t':Nat}{d':Drawn}{ch:List Addr}(I:Inv X pins σ H s) (u:Un (frs X.stack) ch H H' s.heap h') (hok:HOk X.prog X.w H' h') (hg:AllBare g')
  (hch:∀ b∈ch,(b∈X.ex∨X.s_0.heap.objs.size≤b)∧b≠X.env.locals∧(∀ x c,X.env.cells.lookup x=some c→c≠b)∧∀ p∈X.pn++pins,p.1≠b) :
  Inv X pins σ H' { s with heap:=h',gens:=g',drawn:=d',toks:=t' }:=by
 obtain ⟨m,⟨o,es,ep,ho,r⟩,_⟩:=id I.loc
 obtain ⟨sl,hL⟩:=u.any ho I.free fun z=>(hch _ z).2.1 rfl
 exact I.step (ch:=ch) hch (fun b o hL hb hc e n=>u.keep b o e n (fun z=>(List.mem_cons.mp (I.Zbp b z)).elim hL hb) hc) (fun b o _ _ hc e n=>u.any e n hc) (fun b o hc e n=>u.free b o e n hc) (fun b o hc e=>u.there b o e hc) u.tups u.frzs u.tbls (fun m' hm=>by
  obtain ⟨o',es',ep',ho',r'⟩:=hm
  rw [ho] at ho';cases ho'
  exact ⟨_,es',ep',hL,r'⟩) hok hg
theorem Inv.turned {t':Nat}{it:Addr}(I:Inv X pins σ H s) (k:∀ b o,b≠it→s.heap.get? b=some o→h'.get? b=some o) (hn:H it=none) (hL:it≠X.env.locals)
  (h1:it∈X.ex∨X.s_0.heap.objs.size≤it) (h2:∀ x c,X.env.cells.lookup x=some c→c≠it) (h3:∀ p∈X.pn++pins,p.1≠it):Inv X pins σ H { s with heap:=h',toks:=t' }:=by
 have nit:∀ b u,H b=some u→b≠it:=fun b u e z=>by rw [z,hn] at e;cases e
 refine I.step (g':=s.gens) (d':=s.drawn) (ch:=[it]) (fun b hb=>?_) (fun b o _ _ hc e _=>k b o (fun z=>hc (by simp [z])) e) (fun b o _ _ hc e _=>⟨o.slots,k b o (fun z=>hc (by simp [z])) e⟩) (fun _ _ _ _ n=>n)
  (fun b o hc e=>⟨o,k b o (fun z=>hc (by simp [z])) e⟩) (fun _ _ e=>e) (fun _ _ _ e=>e) (fun b ps e=>⟨#[],by rw [e];simp⟩) (fun m hm=>?_) (fun b u e=>?_) I.bare
 ·have e:b=it:=by simpa using hb
  subst e
  exact ⟨h1,hL,h2,h3⟩
 ·obtain ⟨o,es,ep,ho,r⟩:=hm
  exact ⟨o,es,ep,k _ o (Ne.symm hL) ho,r⟩
 ·refine (I.hok b u e).stay (fun c v hc q=>k c v ?_ q) (fun _ q=>q) fun _ _ q=>q
  rcases hc with z | z
  ·rw [z];exact nit b u e
  ·exact nit c _ z
theorem Inv.tok (I:Inv X pins σ H s) (t:Nat):Inv X pins σ H { s with toks:=t }:=I.un (h':=s.heap) (t':=t) Un.refl I.hok
theorem Inv.kept {t':Nat}(I:Inv X pins σ H s) (k:∀ b u,s.heap.get? b=some u→h'.get? b=some u):Inv X pins σ H { s with heap:=h',toks:=t' }:=I.un (Un.kept k) (I.hok.kept k)
theorem Inv.laid {a:Addr}{o:HO}{t':Nat}(I:Inv X pins σ H s) (k:∀ b u,s.heap.get? b=some u→h'.get? b=some u) (hp:s.heap.objs.size≤a) (new:Yb X.prog X.w (upd H a o) h' a o) :
  Inv X pins σ (upd H a o) { s with heap:=h',toks:=t' }:=I.un (Un.laid k hp (I.hok.fresh hp)) (I.hok.laid k hp new)
theorem Inv.write {x e:Addr}{o:HO}{t':Nat}(I:Inv X pins σ H s) (mu:Mut (H x)) (he:e=x∨H e=some (.own x)) (k:∀ b u,b≠e→s.heap.get? b=some u→h'.get? b=some u) (heo:∃ u,h'.get? e=some u)
  (new:Yb X.prog X.w (upd H x o) h' x o):Inv X pins σ (upd H x o) { s with heap:=h',toks:=t' }:=I.un (Un.write mu he k heo) (I.hok.write mu he k heo new)
theorem Inv.weak {σ':List (Option V)}(I:Inv X pins σ H s) (hl:σ'.length=σ.length) (w:∀ (i:Nat) v,σ'[i]?=some (some v)→σ[i]?=some (some v)):Inv X pins σ' H s :=
 ⟨I.ok,I.os,I.bare,I.base,let ⟨m,hn,hl'⟩:=I.loc;⟨m,hn,fun i x v e1 e2 e3=>hl' i x v e1 (w i v e2) e3⟩,I.cell,I.free,I.freeC,I.pin,I.hok,hl.trans I.len⟩
theorem Inv.Zhn {pins':List (Addr×Obj)}(I:Inv X pins σ H s) (h:∀ p∈pins',s.heap.get? p.1=some p.2∧H p.1=none∧p.1≠X.env.locals∧p.1∉X.fs∧∀ v,p.2.data≠.cell v):Inv X pins' σ H s :=
 ⟨I.ok,I.os,I.bare,I.base,I.loc,I.cell,I.free,I.freeC,fun p hp=>(List.mem_append.mp hp).elim (fun z=>I.pin p (List.mem_append_left _ z)) (h p),I.hok,I.len⟩
theorem ZbU {N:List Str}(hN:N.Nodup){i j:Nat}{x:Str}(a:N[i]?=some x) (b:N[j]?=some x):i=j:=by
 obtain ⟨h1,e1⟩:=List.getElem?_eq_some_iff.mp a
 obtain ⟨h2,e2⟩:=List.getElem?_eq_some_iff.mp b
 exact (List.getElem_inj hN).mp (e1.trans e2.symm)
theorem Zac {M:Model}{A:Around}{E:Value→Shared→Prop}{i:Nat}{x:Str}{v:V}{u:Value}{Q:Unit→Shared→Prop}(I:Inv X pins σ H s) (hN:X.N.Nodup) (hi:X.N[i]?=some x) (hx:Loc X.env.scope x) (r:RelV v u)
  (h:∀ s',Inv X pins (σ.set i (some v)) H s'→(∃ a,Heap.SameBut a s.heap s'.heap∧(a=X.env.locals∨X.env.cells.lookup x=some a))→Q () s') (hf:X.fn x=true∨X.env.scope.names.lookup x=some .local:=by first | exact .inl rfl | exact .inr rfl | assumption):wpAny M A (storeName X.env x u) Q E s:=by
 obtain ⟨m,hn,hl⟩:=id I.loc
 have hcls:(X.env.scope.kind==.class || (X.env.scope.kind==.module&&X.env.locals != X.env.globals))=false:=by rw [I.ok.kind];rfl
 have hiσ:i<σ.length:=by rw [I.len];exact (List.getElem?_eq_some_iff.mp hi).1
 have cne:=I.cne
 have tracked:∀ {a:Addr}{h':Heap},(∃ o,s.heap.get? a=some o∧H a=none)→Heap.SameBut a s.heap h'→HOk X.prog X.w H h':=fun {a h'} ha hs b ob e=>by
  obtain ⟨_,_,hfree⟩:=ha
  refine (I.hok b ob e).stay (fun c w' hc q=>(hs.2 c ?_).trans q) (fun _ q=>q) fun _ _ q=>q
  rintro rfl
  rcases hc with rfl | hc
  ·rw [hfree] at e;cases e
  ·rw [hfree] at hc;cases hc
 rcases hx with hk | hk
 ·refine wpAny_storeName_local hk hn (fun h' hn' hs=>?_) hcls
  obtain ⟨oL,_,_,hoL,_⟩:=id hn
  refine h _ ⟨I.ok,I.os,I.bare,⟨fun b o e n hb hx=>?_,fun b o e n hb hx=>?_,I.base.free,fun b o e hx=>?_,I.base.tups,I.base.frzs,I.base.tbls⟩,⟨_,hn',fun j y v' e1 e2 e3=>?_⟩,fun y c e=>?_,I.free,I.freeC,fun p hp=>?_,tracked ⟨oL,hoL,I.free⟩ hs,by simpa using I.len⟩ ⟨_,hs,.inl rfl⟩
  ·exact (hs.2 b (Nat.ne_of_lt (Nat.lt_of_lt_of_le (Heap.lt_size e) I.ok.above))).trans (I.base.keep b o e n hb hx)
  ·obtain ⟨sl,e1⟩:=I.base.slot b o e n hb hx
   exact ⟨sl,(hs.2 b (Nat.ne_of_lt (Nat.lt_of_lt_of_le (Heap.lt_size e) I.ok.above))).trans e1⟩
  ·obtain ⟨o',e1⟩:=I.base.there b o e hx
   exact ⟨o',(hs.2 b (Nat.ne_of_lt (Nat.lt_of_lt_of_le (Heap.lt_size e) I.ok.above))).trans e1⟩
  ·by_cases hj:j=i
   ·subst hj
    rw [hi] at e1;cases e1
    rw [List.getElem?_set_self hiσ] at e2
    cases e2
    exact ⟨u,r,.inl ⟨hk,by simp⟩⟩
   ·rw [List.getElem?_set_ne (Ne.symm hj)] at e2
    obtain ⟨u',r',q⟩:=hl j y v' e1 e2 e3
    refine ⟨u',r',?_⟩
    rcases q with ⟨k,e⟩ | ⟨k,c,e,z⟩
    ·refine .inl ⟨k,?_⟩
     have:y≠x:=fun e=>hj (ZbU hN e1 (e▸hi))
     simp [this,e]
    ·exact .inr ⟨k,c,e,z.sameBut hs (cne y c e)⟩
  ·obtain ⟨w',z⟩:=I.cell y c e
   exact ⟨w',z.sameBut hs (cne y c e)⟩
  ·obtain ⟨e,n,ne,nf,d⟩:=I.pin p hp
   exact ⟨(hs.2 p.1 ne).trans e,n,ne,nf,d⟩
 ·have hfn:X.fn x=true:=by
   rcases hf with z | z
   ·exact z
   ·rw [z] at hk;cases hk
  obtain ⟨c,hc⟩:=I.ok.has x (.inl hk)
  obtain ⟨w',z⟩:=I.cell x c hc
  refine wpAny_storeName_cell I.ok.kind hk hc z (fun h' hc' hs=>?_)
  obtain ⟨oc,hoc,hocd⟩:=id z
  refine h { s with heap:=h' } ⟨I.ok,I.os,I.bare,⟨fun b o e n hb hx=>?_,fun b o e n hb hx=>?_,I.base.free,fun b o e hx=>?_,I.base.tups,I.base.frzs,I.base.tbls⟩,⟨m,hn.sameBut hs (Ne.symm (cne x c hc)),fun j y v' e1 e2 e3=>?_⟩,fun y c' e=>?_,I.free,I.freeC,fun p hp=>?_,tracked ⟨oc,hoc,I.freeC x c hc⟩ hs,by simpa using I.len⟩ ⟨c,hs,.inr hc⟩
  ·exact (hs.2 b (Nat.ne_of_lt (Nat.lt_of_lt_of_le (Heap.lt_size e) (I.ok.cab x c hfn hc)))).trans (I.base.keep b o e n hb hx)
  ·obtain ⟨sl,e1⟩:=I.base.slot b o e n hb hx
   exact ⟨sl,(hs.2 b (Nat.ne_of_lt (Nat.lt_of_lt_of_le (Heap.lt_size e) (I.ok.cab x c hfn hc)))).trans e1⟩
  ·obtain ⟨o',e1⟩:=I.base.there b o e hx
   exact ⟨o',(hs.2 b (Nat.ne_of_lt (Nat.lt_of_lt_of_le (Heap.lt_size e) (I.ok.cab x c hfn hc)))).trans e1⟩
  ·by_cases hj:j=i
   ·subst hj
    rw [hi] at e1;cases e1
    rw [List.getElem?_set_self hiσ] at e2
    cases e2
    exact ⟨u,r,.inr ⟨.inl hk,c,hc,hc'⟩⟩
   ·rw [List.getElem?_set_ne (Ne.symm hj)] at e2
    obtain ⟨u',r',q⟩:=hl j y v' e1 e2 e3
    refine ⟨u',r',?_⟩
    rcases q with q | ⟨k,c',e,z'⟩
    ·exact .inl q
    ·refine .inr ⟨k,c',e,z'.sameBut hs ?_⟩
     rintro rfl
     exact hj (ZbU hN e1 (I.ok.inj _ _ _ e hc▸hi))
  ·by_cases hcc:c'=c
   ·subst hcc;exact ⟨_,hc'⟩
   ·obtain ⟨w2,z2⟩:=I.cell y c' e
    exact ⟨w2,z2.sameBut hs hcc⟩
  ·obtain ⟨e,n,ne,nf,d⟩:=I.pin p hp
   refine ⟨(hs.2 p.1 ?_).trans e,n,ne,nf,d⟩
   intro q
   rw [q,hoc] at e
   have q':oc=p.2:=Option.some.inj e
   exact d w' (by rw [← q'];exact hocd)
theorem ZeX {M:Model}{A:Around}{E:Value→Shared→Prop}{i:Nat}{x:Str}{v:V}{u:Value}{Q:Unit→Shared→Prop}(I:Inv X pins σ H s) (hN:X.N.Nodup) (hi:X.N[i]?=some x) (hx:Loc X.env.scope x) (r:RelV v u)
  (h:∀ s',Inv X pins (σ.set i (some v)) H s'→Q () s') (hf:X.fn x=true∨X.env.scope.names.lookup x=some .local:=by first | exact .inl rfl | exact .inr rfl | assumption):wpAny M A (storeName X.env x u) Q E s :=
 Zac I hN hi hx r (fun s' I' _=>h s' I') hf
theorem Inv.Zix {s':Shared}{ch:List Addr}(I:Inv X pins σ H s) (ho:s'.os=s.os) (u:Un (frs X.stack) ch H H' s.heap s'.heap) (hok:HOk X.prog X.w H' s'.heap) (hg:AllBare s'.gens)
  (hch:∀ b∈ch,(b∈X.ex∨X.s_0.heap.objs.size≤b)∧b≠X.env.locals∧(∀ x c,X.env.cells.lookup x=some c→c≠b)∧∀ p∈X.pn++pins,p.1≠b):Inv X pins σ H' s':=by
 obtain ⟨h',g',d',t',o'⟩:=s'
 have e:o'=s.os:=ho
 subst e
 exact I.call (g':=g') (t':=t') (d':=d') u hok hg hch
end
abbrev XK:=Value→Option Addr→Hp→Prop
abbrev St:=List (Option V)
abbrev VK:=V→Hp→Prop
abbrev TE:=St→Hp→VK→Prop
abbrev TT:=St→Hp→(Bool→Hp→Prop)→Prop
abbrev TA:=St→Hp→(List V→Hp→Prop)→Prop
structure Ends where
 nx:St→Hp→Prop
 rt:VK
 bk:St→Hp→Prop:=fun _ _=>False
 ct:St→Hp→Prop:=fun _ _=>False
abbrev TS:=Ends→St→Hp→Prop
def EP (X:Cx) (pins:List (Addr×Obj)) (σ:St) (Q:VK) (u:Value) (s':Shared):Prop:=∃ v H',Inv X pins σ H' s'∧RelV v u∧Q v H'
def TP (X:Cx) (pins:List (Addr×Obj)) (σ:St) (Q:Bool→Hp→Prop) (b:Bool) (s':Shared):Prop:=∃ H',Inv X pins σ H' s'∧Q b H'
def AP (X:Cx) (pins:List (Addr×Obj)) (σ:St) (Q:List V→Hp→Prop) (us:List Value) (s':Shared):Prop:=∃ vs H',Inv X pins σ H' s'∧Vals vs us∧Q vs H'
def SP (X:Cx) (pins:List (Addr×Obj)) (D:Ends) (f:Flow) (s':Shared):Prop :=
 match f with
 | .next=>∃ σ' H',Inv X pins σ' H' s'∧D.nx σ' H'
 | .brk=>∃ σ' H',Inv X pins σ' H' s'∧D.bk σ' H'
 | .cont=>∃ σ' H',Inv X pins σ' H' s'∧D.ct σ' H'
 | .ret u=>∃ v σ' H',Inv X pins σ' H' s'∧RelV v u∧D.rt v H'
def PE (X:Cx) (e:Expr) (t:TE):Prop :=
 ∀ (pins:List (Addr×Obj)) (s:Shared) (σ:St) (H:Hp) (Q:VK),Inv X pins σ H s→t σ H Q→wpAny (model X.prog X.w) X.A (eval e X.env) (EP X pins σ Q) X.xe s
def PT (X:Cx) (e:Expr) (t:TT):Prop :=
 ∀ (pins:List (Addr×Obj)) (s:Shared) (σ:St) (H:Hp) (Q:Bool→Hp→Prop),Inv X pins σ H s→t σ H Q→wpAny (model X.prog X.w) X.A (isTrue e X.env (eval e X.env)) (TP X pins σ Q) X.xe s
def PW (X:Cx) (e:Expr) (t:TT):Prop :=
 ∀ (whole:Sem Value) (pins:List (Addr×Obj)) (s:Shared) (σ:St) (H:Hp) (Q:Bool→Hp→Prop),Inv X pins σ H s→t σ H Q→wpAny (model X.prog X.w) X.A (isTrue e X.env whole) (TP X pins σ Q) X.xe s
theorem PW.pt {X:Cx}{e:Expr}{t:TT}(h:PW X e t):PT X e t:=h _
def PA (X:Cx) (es:List Expr) (t:TA):Prop :=
 ∀ (pos:Pos) (pins:List (Addr×Obj)) (s:Shared) (σ:St) (H:Hp) (Q:List V→Hp→Prop),Inv X pins σ H s→t σ H Q→wpAny (model X.prog X.w) X.A (spliced (backTo pos (starEach es X.env))) (AP X pins σ Q) X.xe s
def PS (X:Cx) (st:Stmt) (t:TS):Prop :=
 ∀ (pins:List (Addr×Obj)) (s:Shared) (σ:St) (H:Hp) (D:Ends),Inv X pins σ H s→t D σ H→wpAny (model X.prog X.w) X.A (exec st X.env) (SP X pins D) X.xe s
def PSs (X:Cx) (st:List Stmt) (t:TS):Prop :=
 ∀ (pins:List (Addr×Obj)) (s:Shared) (σ:St) (H:Hp) (D:Ends),Inv X pins σ H s→t D σ H→wpAny (model X.prog X.w) X.A (execs st X.env) (SP X pins D) X.xe s
theorem thn {α:Type}{t:Sem α}{Q Q':α→Shared→Prop}{M:Model}{A:Around}{E:Value→Shared→Prop}{s:Shared}(h:wpAny M A t Q E s) (hQ:∀ a s,Q a s→Q' a s):wpAny M A t Q' E s:=wpAny_mono h hQ fun _ _ x=>x
end L2
namespace L2
open PySem PySem.Spec PyProof.Rows
section
variable {X:Cx}
def ZH (i:Nat):TE:=fun σ H Q=>∃ v,σ[i]?=some (some v)∧Q v H
def tC (v:V):TE:=fun _ H Q=>Q v H
theorem ZmQ {i:Nat}{x:Str}{pos:Pos}(hN:X.N[i]?=some x) (hv:Vis X.env.scope x) (hd:(x==("__debug__":Str))=false:=by decide) (hcd:(x==("__classdict__":Str))=false:=by decide):PE X (.Name x pos) (ZH i):=by
 intro pins s σ H Q I h
 obtain ⟨v,e,h⟩:=h
 obtain ⟨m,hn,hl⟩:=I.loc
 obtain ⟨u,r,l⟩:=hl i x v hN e hv
 have fin:EP X pins σ Q u s:=⟨v,H,I,r,h⟩
 rcases l with ⟨hk,hm⟩ | ⟨hk,c,hc,hcell⟩
 ·exact wpAny_Name (wpAny_loadName_local I.ok.kind hk hn hm fin) hd
 ·rcases hk with hk | hk
  ·exact wpAny_Name (wpAny_loadName_cell I.ok.kind hk hc hcell fin) hd
  ·exact wpAny_Name (wpAny_loadName_free I.ok.kind hk hc hcell fin hcd) hd
theorem Zd {i j pos}:PE X (.Constant (.int i) j pos) (tC (.int i)):=fun _ _ _ H _ I h=>wpAny_Constant_int ⟨.int i,H,I.tok _,⟨_,rfl⟩,h⟩
theorem ZlQ {j pos}:PE X (.Constant .none j pos) (tC .non):=fun _ _ _ H _ I h=>Constant_none ⟨.non,H,I,rfl,h⟩
def Gl (X:Cx) (x:Str):Prop:=X.env.kindOf x=some .globalImplicit
theorem XZ {E:Value→Shared→Prop}{pins:List (Addr×Obj)}{s:Shared}{σ:St}{H:Hp}{x:Str}{u:Value}{pos:Pos}{Q:Value→Shared→Prop}(I:Inv X pins σ H s) (hg:Gl X x) (hm:X.mg x=some u) (h:Q u s)
  (hd:(x==("__debug__":Str))=false:=by decide):wpAny (model X.prog X.w) X.A (eval (.Name x pos) X.env) Q E s :=
 Calls.Name_function_global I.ok.kind hg (Calls.loadGlobal_global (by rw [I.ok.glob];exact I.mod.glob.keeps I.bk) hm h) hd
theorem QN {E:Value→Shared→Prop}{pins:List (Addr×Obj)}{s:Shared}{σ:St}{H:Hp}{x:Str}{u:Value}{pos:Pos}{Q:Value→Shared→Prop}(I:Inv X pins σ H s) (hg:Gl X x) (hm:X.mg x=none) (hv:bootBuiltins x=some u) (h:Q u s)
  (hn:x≠"__name__":=by decide) (hd:(x==("__debug__":Str))=false:=by decide):wpAny (model X.prog X.w) X.A (eval (.Name x pos) X.env) Q E s:=by
 obtain ⟨mb,h1,h2⟩:=I.mod.blt
 exact Calls.Name_function_global I.ok.kind hg (Calls.loadGlobal_builtin (by rw [I.ok.glob];exact I.mod.glob.keeps I.bk) hm (by rw [I.ok.blt];exact h1.keeps I.bk) ((h2 x hn).trans hv) h) hd
theorem Zko {x:Str}{v:V}{u:Value}{pos:Pos}(hg:Gl X x) (hm:X.mg x=some u) (r:RelV v u) (hd:(x==("__debug__":Str))=false:=by decide):PE X (.Name x pos) (tC v) :=
 fun _ _ _ H _ I h=>XZ I hg hm ⟨v,H,I,r,h⟩ hd
variable {a b:Expr}{ta tb:TE}{pos:Pos}
def PC (X:Cx) (op:CmpOp) (a b:Expr) (t:TE):Prop :=
 ∀ (pins:List (Addr×Obj)) (s:Shared) (σ:St) (H:Hp) (Q:VK),Inv X pins σ H s→t σ H Q →
  wpAny (model X.prog X.w) X.A (eval a X.env) (fun v s₁=>wpAny (model X.prog X.w) X.A (eval b X.env) (fun u s₂=>wpAny (model X.prog X.w) X.A (compareOp op v u) (EP X pins σ Q) X.xe s₂) X.xe s₁) X.xe s
theorem ZiC (b:Expr){op:CmpOp}(h:op≠.In) (h2:op≠.NotIn):behindInMarks op b=false:=by
 have e1:(op==CmpOp.In)=false:=by cases op <;> first | rfl | exact absurd rfl h
 have e2:(op==CmpOp.NotIn)=false:=by cases op <;> first | rfl | exact absurd rfl h2
 cases b <;> simp [behindInMarks,e1,e2]
def Zoh (ta:TE):TE:=fun σ H Q=>ta σ H fun x H1=>Q (.bl (decide (x=.non))) H1
theorem RelV.ZiP {x:V}{v:Value}(r:RelV x v):(v==Value.none)=decide (x=.non):=by
 cases x with
 | non=>cases r;rfl
 | bl _=>cases r;rfl
 | int _=>obtain ⟨t,rfl⟩:=r;rfl
 | str _=>obtain ⟨t,rfl⟩:=r;rfl
 | byt _=>obtain ⟨t,rfl⟩:=r;rfl
 | flt _=>obtain ⟨t,rfl⟩:=r;rfl
 | ref _=>cases r;rfl
 | ty _=>cases r;rfl
theorem ZmB {j pos'} (ha:PE X a ta):PC X .Is a (.Constant .none j pos') (Zoh ta):=by
 intro pins s σ H Q I h
 refine thn (ha pins s σ H _ I h) fun v s1 ⟨x,H1,I1,r1,q1⟩=>?_
 exact Constant_none (is_none_gen ⟨.bl _,H1,I1,by rw [r1.ZiP];rfl,q1⟩)
def tB (t:TE):TT:=fun σ H Q=>t σ H fun x H1=>∃ c,x=.bl c∧Q c H1
theorem Zjj {op:CmpOp}{t:TE}(h:PC X op a b t) (h1:behindInMarks op b=false:=by first | exact ZiC _ (by decide) (by decide) | rfl):PT X (.Compare a [op] [b] pos) (tB t):=by
 intro pins s σ H Q I hw
 refine wpAny_isTrue_Compare1 (thn (h pins s σ H _ I hw) fun v s1 h1=>thn h1 fun u s2 h2=>thn h2 fun c s3 ⟨x,H1,I1,r1,q1⟩=>?_) h1
 obtain ⟨d,rfl,q⟩:=q1
 cases r1
 exact wpAny_truthy_bool ⟨H1,I1,q⟩
theorem XU {e:Expr}{t:TE}(h:PE X e t) (he:∀ whole,isTrue e X.env whole=(do let v ← whole;standAt e.pos;holding [v] (truthy v)):=by intro _;rfl):PT X e (tB t):=by
 intro pins s σ H Q I hw
 refine isTrue_plain (thn (h pins s σ H _ I hw) fun v s1 ⟨x,H1,I1,r1,q1⟩=>?_) (he _)
 obtain ⟨d,rfl,q⟩:=q1
 cases r1
 exact wpAny_truthy_bool ⟨H1,I1,q⟩
variable {tA tB':TT}{rest:List Expr}
def ZnN (t u:TT):TT:=fun σ H Q=>t σ H fun c H1=>if c=true then u σ H1 Q else Q false H1
def tOr (t u:TT):TT:=fun σ H Q=>t σ H fun c H1=>if c=true then Q true H1 else u σ H1 Q
def Zoe (t:TT):TT:=fun σ H Q=>t σ H fun c H1=>Q (!c) H1
theorem Zba (ha:PT X a tA):PW X (.BoolOp .And [a] pos) tA:=by
 intro wh pins s σ H Q I h
 refine isTrue_and (thn (ha pins s σ H Q I h) fun c s1 e=>?_)
 cases c with
 | true=>exact isTrue_and_nil e
 | false=>exact e
theorem ZfR (ha:PT X a tA):PW X (.BoolOp .Or [a] pos) tA:=by
 intro wh pins s σ H Q I h
 refine isTrue_or (thn (ha pins s σ H Q I h) fun c s1 e=>?_)
 cases c with
 | false=>exact isTrue_or_nil e
 | true=>exact e
theorem Zdy (ha:PT X a tA) (hb:PW X (.BoolOp .And (b::rest) pos) tB'):PW X (.BoolOp .And (a::b::rest) pos) (ZnN tA tB'):=by
 intro wh pins s σ H Q I h
 refine isTrue_and (thn (ha pins s σ H _ I h) fun c s1 ⟨H1,I1,q1⟩=>?_)
 cases c with
 | true=>exact hb wh pins s1 σ H1 Q I1 q1
 | false=>exact ⟨H1,I1,q1⟩
theorem ZjP (ha:PT X a tA) (hb:PW X (.BoolOp .Or (b::rest) pos) tB'):PW X (.BoolOp .Or (a::b::rest) pos) (tOr tA tB'):=by
 intro wh pins s σ H Q I h
 refine isTrue_or (thn (ha pins s σ H _ I h) fun c s1 ⟨H1,I1,q1⟩=>?_)
 cases c with
 | true=>exact ⟨H1,I1,q1⟩
 | false=>exact hb wh pins s1 σ H1 Q I1 q1
theorem ZiH (ha:PT X a tA):PT X (.UnaryOp .Not a pos) (Zoe tA):=by
 intro pins s σ H Q I h
 exact isTrue_not (ha pins s σ H (fun c H1=>Q (!c) H1) I h)
def Znc (ta tb:TE):TE:=fun σ H Q=>ta σ H fun x H1=>∃ c,x=.bl c∧if c=true then tb σ H1 Q else Q (.bl false) H1
def Zof (ta tb:TE):TE:=fun σ H Q=>ta σ H fun x H1=>∃ c,x=.bl c∧if c=true then Q (.bl true) H1 else tb σ H1 Q
theorem Zgr {op} {t:TE}(h:PE X a t):PE X (.BoolOp op [a] pos) t:=fun pins s σ H Q I hw=>BoolOp_one (h pins s σ H Q I hw)
theorem ZjW (ha:PE X a ta) (hb:PE X (.BoolOp .And (b::rest) pos) tb):PE X (.BoolOp .And (a::b::rest) pos) (Znc ta tb):=by
 intro pins s σ H Q I h
 refine BoolOp_and (thn (ha pins s σ H _ I h) fun v s1 ⟨x,H1,I1,r1,q1⟩=>?_)
 obtain ⟨c,rfl,q1⟩:=q1
 cases r1
 refine wpAny_truthy_bool ?_
 cases c with
 | true=>exact hb pins s1 σ H1 Q I1 q1
 | false=>exact ⟨.bl false,H1,I1,rfl,q1⟩
theorem Znp (ha:PE X a ta) (hb:PE X (.BoolOp .Or (b::rest) pos) tb):PE X (.BoolOp .Or (a::b::rest) pos) (Zof ta tb):=by
 intro pins s σ H Q I h
 refine BoolOp_or (thn (ha pins s σ H _ I h) fun v s1 ⟨x,H1,I1,r1,q1⟩=>?_)
 obtain ⟨c,rfl,q1⟩:=q1
 cases r1
 refine wpAny_truthy_bool ?_
 cases c with
 | false=>exact hb pins s1 σ H1 Q I1 q1
 | true=>exact ⟨.bl true,H1,I1,rfl,q1⟩
def tIf (t:TT) (ta tb:TE):TE:=fun σ H Q=>t σ H fun c H1=>if c=true then ta σ H1 Q else tb σ H1 Q
theorem Qp {c:Expr}(hc:PT X c tA) (ha:PE X a ta) (hb:PE X b tb):PE X (.IfExp c a b pos) (tIf tA ta tb):=by
 intro pins s σ H Q I h
 refine wpAny_IfExp (thn (hc pins s σ H _ I h) fun d s1 ⟨H1,I1,q1⟩=>?_)
 cases d with
 | true=>exact ha pins s1 σ H1 Q I1 q1
 | false=>exact hb pins s1 σ H1 Q I1 q1
end
end L2
namespace L2
open PySem PySem.Spec PyProof.Rows
def SqL (K:PySem.W.Frag) (H:Hp) (a:Addr) (xs:List V):Prop :=
 Rd H a (.lst xs) ∨
  ∃ (o:Obj) (its:Array Value) (n:Nat),K.lookup a=some o∧o.cls=.type "list"∧o.dict=none∧o.data=.seq its n∧its.size≤sizeLine∧Vals xs its.toList
def SqT (K:PySem.W.Frag) (H:Hp) (a:Addr) (xs:List V):Prop :=
 Rd H a (.tup xs) ∨
  ∃ (o:Obj) (its:Array Value) (n:Nat),K.lookup a=some o∧o.cls=.type "tuple"∧o.data=.seq its n∧its.size≤sizeLine∧Vals xs its.toList
def Zoo:Value→Option V
 | .none=>some .non
 | .bool b=>some (.bl b)
 | .int i _=>some (.int i)
 | .str x _=>some (.str x)
 | .bytes b _=>some (.byt b)
 | .float b _=>some (.flt b)
 | .ref a=>some (.ref a)
 | .type n=>some (.ty n)
 | _=>none
theorem RelV.abs {x:V}{u:Value}(r:RelV x u):Zoo u=some x:=by
 cases x with
 | non=>cases r;rfl
 | bl _=>cases r;rfl
 | int _=>obtain ⟨t,rfl⟩:=r;rfl
 | str _=>obtain ⟨t,rfl⟩:=r;rfl
 | byt _=>obtain ⟨t,rfl⟩:=r;rfl
 | flt _=>obtain ⟨t,rfl⟩:=r;rfl
 | ref _=>cases r;rfl
 | ty _=>cases r;rfl
theorem RelV.inj {x y:V}{u:Value}(r:RelV x u) (q:RelV y u):x=y:=Option.some.inj (r.abs.symm.trans q.abs)
theorem Vals.inj:∀ {xs ys:List V}{us:List Value},Vals xs us→Vals ys us→xs=ys
 | _,_,_,.nil,.nil=>rfl
 | _,_,_,.cons r t,.cons r' t'=>by rw [r.inj r',Vals.inj t t']
section
variable {X:Cx}{pins:List (Addr×Obj)}{σ:St}{H:Hp}{s:Shared}{a:Addr}{xs ys:List V}
theorem SqL.of {K:PySem.W.Frag}(h:H a=some (.lst xs)):SqL K H a xs:=.inl (.inl h)
theorem SqT.of {K:PySem.W.Frag}(h:H a=some (.tup xs)):SqT K H a xs:=.inl (.inl h)
theorem Inv.list (I:Inv X pins σ H s) (h:SqL X.K H a xs):∃ its:List Value,Vals xs its∧PlainL s.heap a its.toArray∧xs.length≤sizeLine:=by
 rcases h with h | ⟨o,its,n,hk,hc,hd,hs,hz,r⟩
 ·obtain ⟨z,its,n,r,e⟩:=h.ok I.hok
  exact ⟨its,r,⟨_,n,e,rfl,rfl,rfl⟩,z⟩
 ·refine ⟨its.toList,r,⟨o,n,I.kIn a o hk,hc,hd,by simpa using hs⟩,?_⟩
  have e:=r.length
  simp only [Array.length_toList] at e
  lia
theorem Inv.tuple (I:Inv X pins σ H s) (h:SqT X.K H a xs):∃ its:List Value,Vals xs its∧IsTup s.heap a its.toArray∧xs.length≤sizeLine:=by
 rcases h with h | ⟨o,its,n,hk,hc,hs,hz,r⟩
 ·obtain ⟨z,its,r,p⟩:=h.ok I.hok
  exact ⟨its,r,p,z⟩
 ·refine ⟨its.toList,r,⟨o,I.kIn a o hk,hc,n,by simpa using hs⟩,?_⟩
  have e:=r.length
  simp only [Array.length_toList] at e
  lia
theorem Inv.JO (I:Inv X pins σ H s) (h:SqL X.K H a xs) (h':SqL X.K H a ys):xs=ys:=by
 obtain ⟨its,r,⟨o,n,e,_,_,d⟩,_⟩:=I.list h
 obtain ⟨its',r',⟨o',n',e',_,_,d'⟩,_⟩:=I.list h'
 rw [e] at e';cases e'
 rw [d] at d'
 injection d' with d1 _
 have:its=its':=by simpa using congrArg Array.toList d1
 subst this
 exact r.inj r'
theorem Inv.ZhL (I:Inv X pins σ H s) (h:SqT X.K H a xs) (h':SqT X.K H a ys):xs=ys:=by
 obtain ⟨its,r,⟨o,e,_,n,d⟩,_⟩:=I.tuple h
 obtain ⟨its',r',⟨o',e',_,n',d'⟩,_⟩:=I.tuple h'
 rw [e] at e';cases e'
 rw [d] at d'
 injection d' with d1 _
 have:its=its':=by simpa using congrArg Array.toList d1
 subst this
 exact r.inj r'
end
abbrev Cx.Qm (X:Cx) (E:Value→Shared→Prop):Cx:={ X with xe:=E }
abbrev Cx.nox (X:Cx):Cx:=X.Qm fun _ _=>False
theorem Cx.Ok.Qm {X:Cx}(ok:X.Ok) (E:Value→Shared→Prop):(X.Qm E).Ok :=
 ⟨ok.mod,ok.kind,ok.glob,ok.blt,ok.above,ok.inj,ok.has,ok.cab,ok.hd,ok.frames,ok.stk,ok.exf,ok.bs,ok.bsz,ok.noex,ok.exfs,ok.funs,ok.frf⟩
theorem Cx.Ok.YS {X:Cx}{E:Value→Shared→Prop}(ok:(X.Qm E).Ok):X.Ok :=
 ⟨ok.mod,ok.kind,ok.glob,ok.blt,ok.above,ok.inj,ok.has,ok.cab,ok.hd,ok.frames,ok.stk,ok.exf,ok.bs,ok.bsz,ok.noex,ok.exfs,ok.funs,ok.frf⟩
section
variable {X:Cx}{pins:List (Addr×Obj)}{σ:St}{H:Hp}{s:Shared}{E:Value→Shared→Prop}
theorem Inv.Qm (I:Inv X pins σ H s) (E:Value→Shared→Prop):Inv (X.Qm E) pins σ H s:=⟨I.ok.Qm E,I.os,I.bare,I.base,I.loc,I.cell,I.free,I.freeC,I.pin,I.hok,I.len⟩
theorem Inv.YS (I:Inv (X.Qm E) pins σ H s):Inv X pins σ H s:=⟨I.ok.YS,I.os,I.bare,I.base,I.loc,I.cell,I.free,I.freeC,I.pin,I.hok,I.len⟩
theorem SP.YS {D:Ends}{f:Flow}{s':Shared}(h:SP (X.Qm E) pins D f s'):SP X pins D f s':=by
 cases f with
 | next=>obtain ⟨σ',H',I,q⟩:=h;exact ⟨σ',H',I.YS,q⟩
 | brk=>obtain ⟨σ',H',I,q⟩:=h;exact ⟨σ',H',I.YS,q⟩
 | cont=>obtain ⟨σ',H',I,q⟩:=h;exact ⟨σ',H',I.YS,q⟩
 | ret u=>obtain ⟨v,σ',H',I,r,q⟩:=h;exact ⟨v,σ',H',I.YS,r,q⟩
theorem PSs.nox {st:List Stmt}{t:TS}(h:PSs X.nox st t):PSs X st t:=fun pins s σ H D I hw =>
 wpAny_mono (h pins s σ H D (I.Qm _) hw) (fun _ _ q=>q.YS) fun _ _ z=>False.elim z
end
section
variable {X:Cx}{st:Stmt}{rest:List Stmt}{t u:TS}{e:Expr}{te:TE}{pos:Pos}
def ZjU:TS:=fun D σ H=>D.nx σ H
def ZbI (t u:TS):TS:=fun D σ H=>t { D with nx:=u D } σ H
theorem ZJ:PSs X [] ZjU:=fun _ _ σ H _ I h=>wpAny_execs_nil ⟨σ,H,I,h⟩
theorem Zc (h1:PS X st t) (h2:PSs X rest u):PSs X (st::rest) (ZbI t u):=by
 intro pins s σ H D I h
 refine wpAny_execs_cons (thn (h1 pins s σ H { D with nx:=u D } I h) fun f s1 q=>?_)
 cases f with
 | next =>
  obtain ⟨σ',H',I',q⟩:=q
  exact h2 pins s1 σ' H' D I' q
 | ret v=>exact q
 | brk=>exact q
 | cont=>exact q
theorem Zf (h1:PS X st t):PSs X [st] t:=by
 intro pins s σ H D I h
 refine wpAny_execs_cons (thn (h1 pins s σ H D I h) fun f s1 q=>?_)
 cases f with
 | next=>exact wpAny_execs_nil q
 | ret v=>exact q
 | brk=>exact q
 | cont=>exact q
theorem Inv.quiet {pins:List (Addr×Obj)}{σ:St}{H:Hp}{s:Shared}(I:Inv X pins σ H s):interactive X.env=false:=by simp [interactive,I.ok.kind]
def ZmT (te:TE):TS:=fun D σ H=>te σ H fun _ H1=>D.nx σ H1
theorem ZU (he:PE X e te) (hs:swapsWith e none pos.line X.env=pure false:=by rfl):PS X (.Expr e pos) (ZmT te):=by
 intro pins s σ H D I h
 exact wpAny_Expr_any (thn (he pins s σ H _ I h) fun v s1 ⟨x,H1,I1,r1,q1⟩=>⟨σ,H1,I1,q1⟩) I.quiet hs
def ZcF (te:TE):TS:=fun D σ H=>te σ H D.rt
theorem Zm (he:PE X e te):PS X (.Return (some e) pos) (ZcF te):=by
 intro pins s σ H D I h
 exact wpAny_Return_some (thn (he pins s σ H _ I h) fun v s1 ⟨x,H1,I1,r1,q1⟩=>⟨x,σ,H1,I1,r1,q1⟩)
def Zmo (c:TT) (t u:TS):TS:=fun D σ H=>c σ H fun b H1=>if b=true then t D σ H1 else u D σ H1
theorem Yg {c:Expr}{a b:List Stmt}{tc:TT}(hc:PT X c tc) (ha:PSs X a t) (hb:PSs X b u):PS X (.If c a b pos) (Zmo tc t u):=by
 intro pins s σ H D I h
 refine wpAny_If (thn (hc pins s σ H _ I h) fun d s1 ⟨H1,I1,q1⟩=>?_)
 cases d with
 | true=>exact ha pins s1 σ H1 D I1 q1
 | false=>exact hb pins s1 σ H1 D I1 q1
end
abbrev TG:=V→St→Hp→(St→Hp→Prop)→Prop
abbrev TGs:=List V→St→Hp→(St→Hp→Prop)→Prop
def PG (X:Cx) (target:Expr) (t:TG):Prop :=
 ∀ (pins:List (Addr×Obj)) (s:Shared) (σ:St) (H:Hp) (v:V) (u:Value) (Q:St→Hp→Prop),Inv X pins σ H s→RelV v u→t v σ H Q →
  wpAny (model X.prog X.w) X.A (assign target X.env u) (fun _ s'=>∃ σ' H',Inv X pins σ' H' s'∧Q σ' H') X.xe s
def PGs (X:Cx) (ts:List Expr) (t:TGs):Prop :=
 ∀ (pins:List (Addr×Obj)) (s:Shared) (σ:St) (H:Hp) (vs:List V) (us:List Value) (Q:St→Hp→Prop),Inv X pins σ H s→Vals vs us→t vs σ H Q →
  wpAny (model X.prog X.w) X.A (assignInOrder ((assignEach ts X.env).map (·.2)) us) (fun _ s'=>∃ σ' H',Inv X pins σ' H' s'∧Q σ' H') X.xe s
abbrev Zme:=V→V→V→Hp→(Hp→Prop)→Prop
def Znn (X:Cx) (t:Zme):Prop :=
 ∀ (pins:List (Addr×Obj)) (s:Shared) (σ:St) (H:Hp) (o i v:V) (ov iv u:Value) (Q:Hp→Prop),Inv X pins σ H s→RelV o ov→RelV i iv→RelV v u→t o i v H Q →
  wpAny (model X.prog X.w) X.A (setItem ov iv u) (fun _ s'=>∃ H',Inv X pins σ H' s'∧Q H') X.xe s
section
variable {X:Cx}{pos:Pos}
def YF (i:Nat):TG:=fun v σ H Q=>Q (σ.set i (some v)) H
theorem ZO {i:Nat}{x:Str}(hN:X.N.Nodup) (hi:X.N[i]?=some x) (hx:Loc X.env.scope x) (hf:X.fn x=true∨X.env.scope.names.lookup x=some .local:=by first | exact .inl rfl | exact .inr rfl | assumption):PG X (.Name x pos) (YF i):=by
 intro pins s σ H v u Q I r h
 exact wpAny_assign_Name (ZeX I hN hi hx r (fun s' I'=>⟨_,H,I',h⟩) hf)
def Znj:TGs:=fun vs σ H Q=>vs=[]∧Q σ H
def Zjp (t:TG) (u:TGs):TGs:=fun vs σ H Q=>∃ v r,vs=v::r∧t v σ H fun σ' H'=>u r σ' H' Q
theorem Zln:PGs X [] Znj:=by
 intro pins s σ H vs us Q I r h
 obtain ⟨e,h⟩:=h
 subst e
 cases r
 exact assignInOrder_nil ⟨σ,H,I,h⟩
theorem Zfh {e:Expr}{es:List Expr}{t:TG}{u:TGs}(h1:PG X e t) (h2:PGs X es u)
  (hs:(assignEach (e::es) X.env).map (·.2)=assign e X.env::(assignEach es X.env).map (·.2):=by rfl):PGs X (e::es) (Zjp t u):=by
 intro pins s σ H vs us Q I r h
 obtain ⟨v,vr,e1,h⟩:=h
 subst e1
 cases r with
 | cons r rr =>
  rw [hs]
  refine assignInOrder_cons (thn (h1 pins s σ H _ _ _ I r h) fun _ s1 ⟨σ1,H1,I1,q1⟩=>?_)
  exact h2 pins s1 σ1 H1 _ _ Q I1 rr q1
def Zne (K:PySem.W.Frag) (n:Nat) (t:TGs):TG:=fun v σ H Q=>∃ a xs,v=.ref a∧SqT K H a xs∧xs.length=n∧t xs σ H Q
theorem ZmL {es:List Expr}{k:Nat}{t:TGs}{n:Nat}(hc:X.calm=true) (h:PGs X es t)
  (hn:(assignEach es X.env).length=n:=by rfl) (hst:(assignEach es X.env).findIdx? (·.1)=none:=by rfl):PG X (.Tuple es k pos) (Zne X.K n t):=by
 intro pins s σ H v u Q I r hw
 obtain ⟨a,xs,e1,hq,hl,hw⟩:=hw
 subst e1
 cases r
 obtain ⟨its,rv,ht,hz⟩:=I.tuple hq
 refine assign_Tuple_tuple (I.ok.hd hc) ht (by simp [hn,← hl,rv.length]) hst fun h' hx=>?_
 have I1:Inv X pins σ H { s with heap:=h' }:=I.kept (t':=s.toks) fun b o e=>hx b o (Nat.ne_of_lt (Heap.lt_size e)) e
 exact h pins _ σ H xs _ Q I1 (by simpa using rv) hw
def ZkH (to ti:TE) (t:Zme):TG:=fun v σ H Q=>to σ H fun o H1=>ti σ H1 fun i H2=>t o i v H2 fun H3=>Q σ H3
theorem ZfW {o i:Expr}{to ti:TE}{t:Zme}(ho:PE X o to) (hi:PE X i ti) (hs:Znn X t)
  (ha:∀ v,assign (.Subscript o i pos) X.env v=(do
   let ov ← holding [v] (eval o X.env)
   let iv ← holding [v,ov] (eval i X.env)
   standAt pos
   holding [v,ov,iv] (setItem ov iv v)
   release [v,ov,iv] []):=by intro _;rfl):PG X (.Subscript o i pos) (ZkH to ti t):=by
 intro pins s σ H v u Q I r h
 rw [ha]
 refine wpAny_bind (wpAny_holding (thn (ho pins s σ H _ I h) fun ov s1 ⟨x,H1,I1,r1,q1⟩=>?_))
 refine wpAny_bind (wpAny_holding (thn (hi pins s1 σ H1 _ I1 q1) fun iv s2 ⟨y,H2,I2,r2,q2⟩=>?_))
 refine wpAny_bind (wpAny_standAt (wpAny_bind (wpAny_holding (thn (hs pins s2 σ H2 x y v ov iv u _ I2 r1 r2 r q2) fun _ s3 ⟨H3,I3,q3⟩=>?_))))
 exact wpAny_release ⟨σ,H3,I3,q3⟩
def JQ (te:TE) (g:TG):TS:=fun D σ H=>te σ H fun x H1=>g x σ H1 D.nx
theorem Zgb {tg e:Expr}{te:TE}{g:TG}(he:PE X e te) (hg:PG X tg g) (hs:swapsWithSole [tg] e pos.line X.env=pure false:=by rfl) (hw:swappedStores [tg] e X.env=pure none:=by rfl)
  (h1:(assignEach [tg] X.env).map (·.2)=[assign tg X.env]:=by rfl):PS X (.Assign [tg] e pos) (JQ te g):=by
 intro pins s σ H D I h
 refine wpAny_Assign_stores (thn (he pins s σ H _ I h) fun v s1 ⟨x,H1,I1,r1,q1⟩=>?_) hs hw
 rw [h1]
 exact thn (hg pins s1 σ H1 x v _ I1 r1 q1) fun _ s2 q=>q
theorem Zl {i:Nat}{x:Str}{e:Expr}{te:TE}{pos':Pos}(hN:X.N.Nodup) (hi:X.N[i]?=some x) (hx:Loc X.env.scope x) (he:PE X e te) (hs:swapsWith e (some (.Name x pos')) pos.line X.env=pure false:=by rfl) (hf:X.fn x=true∨X.env.scope.names.lookup x=some .local:=by first | exact .inl rfl | exact .inr rfl | assumption) :
  PS X (.Assign [.Name x pos'] e pos) (JQ te (YF i)):=by
 intro pins s σ H D I h
 refine wpAny_Assign_Name (thn (he pins s σ H _ I h) fun v s1 ⟨y,H1,I1,r1,q1⟩=>?_) hs
 exact ZeX I1 hN hi hx r1 (fun s2 I2=>⟨_,H1,I2,q1⟩) hf
end
section
variable {X:Cx}{pos:Pos}
def Zjm (c:TT) (tb:TS):TS:=fun D σ H=>∃ W:Nat→St→Hp→Prop,(∃ m,W m σ H)∧∀ m σ H,W m σ H →
 c σ H fun b H1=>if b=true then ∃ N:St→Hp→Prop,(∀ σ' H',N σ' H'→∃ m',m'<m∧W m' σ' H')∧tb { D with nx:=N,ct:=N,bk:=D.nx } σ H1 else D.nx σ H1
theorem Zer {c:Expr}{body:List Stmt}{tc:TT}{tb:TS}(hp:PassesOwn (model X.prog X.w) X.A X.env X.xe) (hc:PT X c tc) (hb:PSs X body tb):PS X (.While c body [] pos) (Zjm tc tb):=by
 intro pins s σ H D I h
 obtain ⟨W,⟨m0,w0⟩,turn⟩:=h
 refine wpAny_While (codeAny_whileLoop (fun n s'=>∃ σ' H',Inv X pins σ' H' s'∧W n σ' H') ?_ m0 ⟨σ,H,I,w0⟩)
 rintro n s1 ⟨σ1,H1,I1,w1⟩
 refine wpAny_passesOwn hp (thn (hc pins s1 σ1 H1 _ I1 (turn n σ1 H1 w1)) fun b s2 ⟨H2,I2,q2⟩=>?_)
 cases b with
 | true =>
  obtain ⟨N,hN,q2⟩:=q2
  rw [if_pos rfl]
  refine wpAny_passesOwn hp (thn (hb pins s2 σ1 H2 _ I2 q2) fun f s3 q3=>?_)
  cases f with
  | next =>
   obtain ⟨σ3,H3,I3,n3⟩:=q3
   obtain ⟨m',hm,w3⟩:=hN σ3 H3 n3
   exact ⟨m',hm,σ3,H3,I3,w3⟩
  | cont =>
   obtain ⟨σ3,H3,I3,n3⟩:=q3
   obtain ⟨m',hm,w3⟩:=hN σ3 H3 n3
   exact ⟨m',hm,σ3,H3,I3,w3⟩
  | brk=>exact q3
  | ret v=>exact q3
 | false =>
  rw [if_neg Bool.false_ne_true]
  exact wpAny_execs_nil ⟨σ1,H2,I2,q2⟩
end
structure It where
 go:Nat→Hp→Prop
 yld:Nat→Hp→V→Hp→Prop
 stop:Nat→Hp→Prop
def QX (X:Cx) (pins:List (Addr×Obj)) (H:Hp) (b:Addr):Prop :=
 H b=none∧b≠X.env.locals∧b∉X.fs∧(b∈X.ex∨X.s_0.heap.objs.size≤b)∧(∀ x c,X.env.cells.lookup x=some c→c≠b)∧∀ p∈X.pn++pins,p.1≠b
theorem Inv.ZdQ {X:Cx}{pins:List (Addr×Obj)}{σ:St}{H H':Hp}{s:Shared}{b:Addr}(I:Inv X pins σ H s) (hb:s.heap.objs.size≤b) (hn:H' b=none):QX X pins H' b:=by
 refine ⟨hn,Nat.ne_of_gt (Nat.lt_of_lt_of_le I.lt hb),I.Zol hb,.inr (Nat.le_trans I.sz hb),fun x c e z=>?_,fun p hp z=>?_⟩
 ·obtain ⟨v,q⟩:=I.cell x c e
  exact absurd (Nat.lt_of_lt_of_le q.lt (by rw [z];exact hb)) (Nat.lt_irrefl _)
 ·exact absurd (Nat.lt_of_lt_of_le (Heap.lt_size (I.pin p hp).1) (by rw [z];exact hb)) (Nat.lt_irrefl _)
structure Turn (P:Program) (w:World) (K:PySem.W.Frag) (tg:Expr) (J:It) (fp:List Addr) (it:Addr) (tn:Nat→Heap→Prop):Prop where
 mem:it∈fp
 obj:∀ i h,tn i h→∀ b∈fp,∃ o,h.get? b=some o∧∀ v,o.data≠.cell v
 keep:∀ i h h',tn i h→(∀ b∈fp,∀ o,h.get? b=some o→h'.get? b=some o)→tn i h'
 item:∀ (X:Cx),X.prog=P→X.w=w→X.K=K→X.calm=true→∀ (i:Nat) (pins:List (Addr×Obj)) (s:Shared) (σ:St) (H:Hp) (E:Value→Shared→Prop),Inv X pins σ H s→(∀ b∈fp,QX X pins H b)→tn i s.heap→J.go i H →
  wpAny (model P w) X.A (pyNext (.ref it)) (fun r s1=>∃ u,r=some u ∧
   wpAny (model P w) X.A (letOwnedTupleGo tg (.ref it) u) (fun _ s2=>∃ x H',Inv X pins σ H' s2∧RelV x u∧J.yld i H x H'∧tn (i+1) s2.heap∧∀ b∈fp,H' b=none) E s1) E s
 done:∀ (X:Cx),X.prog=P→X.w=w→X.K=K→X.calm=true→∀ (i:Nat) (pins:List (Addr×Obj)) (s:Shared) (σ:St) (H:Hp) (E:Value→Shared→Prop),Inv X pins σ H s→(∀ b∈fp,QX X pins H b)→tn i s.heap→J.stop i H →
  wpAny (model P w) X.A (pyNext (.ref it)) (fun r s1=>r=none∧Inv X pins σ H s1) E s
 self:∀ (A:Around) (i:Nat) (s:Shared) (Q:Value→Shared→Prop) (E:Value→Shared→Prop),tn i s.heap→Q (.ref it) s→wpAny (model P w) A (pyIter (.ref it)) Q E s
abbrev TI:=St→Hp→(It→Hp→Prop)→Prop
def PIE (X:Cx) (pins:List (Addr×Obj)) (σ:St) (tg:Expr) (R:It→Hp→Prop) (itv:Value) (s2:Shared):Prop :=
 ∃ (it:Addr) (fp:List Addr) (tn:Nat→Heap→Prop) (J:It) (H':Hp),itv=.ref it∧Inv X pins σ H' s2∧Turn X.prog X.w X.K tg J fp it tn∧tn 0 s2.heap∧(∀ b∈fp,QX X pins H' b)∧R J H'
def PI (X:Cx) (tg iter:Expr) (wi:TI):Prop :=
 ∀ (pins:List (Addr×Obj)) (s:Shared) (σ:St) (H:Hp) (R:It→Hp→Prop),Inv X pins σ H s→wi σ H R →
  wpAny (model X.prog X.w) X.A (eval iter X.env) (fun v s1=>wpAny (model X.prog X.w) X.A (pyIter v) (PIE X pins σ tg R) X.xe s1) X.xe s
theorem Zhj {M:Model}{A:Around}{E:Value→Shared→Prop}{s:Shared}{tg:Expr}{it:Addr}{u:Value}{o:Obj}{n:String}{vs:Array Value}{Q:Unit→Shared→Prop}(ho:s.heap.get? it=some o) (hc:o.cls=.type n) (hd:o.data=.fields vs)
  (hn:["enumerate","zip","dict_itemiterator","dict_reverseitemiterator","odict_iterator","itertools.zip_longest","itertools.pairwise"].contains n=false) (hQ:Q () s):wpAny M A (letOwnedTupleGo tg (.ref it) u) Q E s:=by
 unfold letOwnedTupleGo
 cases tg <;> first
  | exact wpAny_pure hQ
  | (cases u <;> first
    | exact wpAny_pure hQ
    | (refine wpAny_bind (wpAny_load ho ?_);rw [hc,hd];show wpAny M A (if (["enumerate","zip","dict_itemiterator","dict_reverseitemiterator","odict_iterator","itertools.zip_longest","itertools.pairwise"].contains n&&vs[0]?==some (rawInt _))=true then _ else _) Q E s;rw [if_neg (by intro h;rw [hn,Bool.false_and] at h;cases h)];exact wpAny_pure hQ))
def Itl (K:PySem.W.Frag) (a:Addr):It :=
 ⟨fun i H=>∃ xs x,SqL K H a xs∧xs[i]?=some x,fun i H x H'=>H'=H∧∀ xs,SqL K H a xs→xs[i]?=some x,fun i H=>∃ xs,SqL K H a xs∧xs.length≤i⟩
def Itt (K:PySem.W.Frag) (a:Addr):It :=
 ⟨fun i H=>∃ xs x,SqT K H a xs∧xs[i]?=some x,fun i H x H'=>H'=H∧∀ xs,SqT K H a xs→xs[i]?=some x,fun i H=>∃ xs,SqT K H a xs∧xs.length≤i⟩
def Itr (lo:Int) (n:Nat):It:=⟨fun i _=>i<n,fun i H x H'=>H'=H∧x=.int (lo+i),fun i _=>n≤i⟩
theorem Zif {P:Program}{w:World}{K:PySem.W.Frag}{tg:Expr}(a it:Addr):Turn P w K tg (Itl K a) [it] it (fun i h=>h.IsListIter it a i) where
 mem:=by simp
 obj:=fun i h st b hb=>by
  have e:b=it:=by simpa using hb
  subst e
  obtain ⟨o,e,c,d⟩:=st
  exact ⟨o,e,fun v z=>by rw [d] at z;cases z⟩
 keep:=fun i h h' st k=>st.at fun o e=>k it (by simp) o e
 item:=by
  intro X hP hw hK hc i pins s σ H E I hf st hg
  subst hP hw hK
  obtain ⟨xs,x,hq,hx⟩:=hg
  obtain ⟨its,rv,p,hz⟩:=I.list hq
  obtain ⟨u,hu,ru⟩:=rv.get hx
  obtain ⟨f0,f1,f2,f3,f4,f5⟩:=hf it (by simp)
  refine wpAny_pyNext_list_item st p.isList (x:=u) (by simpa using hu) fun h' st' sb=>?_
  have I1:Inv X pins σ H { s with heap:=h' }:=I.turned (t':=s.toks) (fun b o hb e=>(sb.2 b hb).trans e) f0 f1 f3 f4 f5
  obtain ⟨o,e,c,d⟩:=id st'
  exact ⟨u,rfl,Zhj (s:={ s with heap:=h' }) e c d (by decide) ⟨x,H,I1,ru,⟨rfl,fun ys hy=>by rw [I.JO hy hq];exact hx⟩,st',fun b hb=>(hf b hb).1⟩⟩
 done:=by
  intro X hP hw hK hc i pins s σ H E I hf st hg
  subst hP hw hK
  obtain ⟨xs,hq,hx⟩:=hg
  obtain ⟨its,rv,p,hz⟩:=I.list hq
  obtain ⟨f0,f1,f2,f3,f4,f5⟩:=hf it (by simp)
  have hl:=rv.length
  exact wpAny_pyNext_list_end (I.ok.hd hc) st p.isList (by simp;lia) fun h' eb=>⟨rfl,I.turned (t':=s.toks) (fun b o hb e=>eb b o hb e) f0 f1 f3 f4 f5⟩
 self:=fun _ _ _ _ _ st h=>wpAny_pyIter_listiter st h
theorem ZgA {P:Program}{w:World}{K:PySem.W.Frag}{tg:Expr}(a it:Addr):Turn P w K tg (Itt K a) [it] it (fun i h=>h.IsTupleIter it a i) where
 mem:=by simp
 obj:=fun i h st b hb=>by
  have e:b=it:=by simpa using hb
  subst e
  obtain ⟨o,e,c,d⟩:=st
  exact ⟨o,e,fun v z=>by rw [d] at z;cases z⟩
 keep:=fun i h h' st k=>st.at fun o e=>k it (by simp) o e
 item:=by
  intro X hP hw hK hc i pins s σ H E I hf st hg
  subst hP hw hK
  obtain ⟨xs,x,hq,hx⟩:=hg
  obtain ⟨its,rv,p,hz⟩:=I.tuple hq
  obtain ⟨u,hu,ru⟩:=rv.get hx
  obtain ⟨f0,f1,f2,f3,f4,f5⟩:=hf it (by simp)
  refine wpAny_pyNext_tuple_item st (show s.heap.IsTuple a its.toArray from p) (x:=u) (by simpa using hu) fun h' st' sb=>?_
  have I1:Inv X pins σ H { s with heap:=h' }:=I.turned (t':=s.toks) (fun b o hb e=>(sb.2 b hb).trans e) f0 f1 f3 f4 f5
  obtain ⟨o,e,c,d⟩:=id st'
  exact ⟨u,rfl,Zhj (s:={ s with heap:=h' }) e c d (by decide) ⟨x,H,I1,ru,⟨rfl,fun ys hy=>by rw [I.ZhL hy hq];exact hx⟩,st',fun b hb=>(hf b hb).1⟩⟩
 done:=by
  intro X hP hw hK hc i pins s σ H E I hf st hg
  subst hP hw hK
  obtain ⟨xs,hq,hx⟩:=hg
  obtain ⟨its,rv,p,hz⟩:=I.tuple hq
  obtain ⟨f0,f1,f2,f3,f4,f5⟩:=hf it (by simp)
  have hl:=rv.length
  exact wpAny_pyNext_tuple_end (I.ok.hd hc) st (show s.heap.IsTuple a its.toArray from p) (by simp;lia) fun h' eb=>⟨rfl,I.turned (t':=s.toks) (fun b o hb e=>eb b o hb e) f0 f1 f3 f4 f5⟩
 self:=fun _ _ _ _ _ st h=>wpAny_pyIter_tupleiter st h
theorem Zge {P:Program}{w:World}{K:PySem.W.Frag}{tg:Expr}(it:Addr) (lo:Int) (n:Nat):Turn P w K tg (Itr lo n) [it] it (fun i h=>IsRangeIter h it (lo+(i:Nat)*1) ((n:Int)-(i:Nat)) 1) where
 mem:=by simp
 obj:=fun i h st b hb=>by
  have e:b=it:=by simpa using hb
  subst e
  exact ⟨_,st,fun v z=>by
   have z':Data.fields _=Data.cell v:=z
   cases z'⟩
 keep:=fun i h h' st k=>k it (by simp) _ st
 item:=by
  intro X hP hw hK hc i pins s σ H E I hf st hg
  subst hP hw hK
  obtain ⟨f0,f1,f2,f3,f4,f5⟩:=hf it (by simp)
  have W:=Walks.range (prog:=X.prog) (w:=X.w) (I.ok.hd hc) it lo 1 n
  refine W.item i s _ _ hg st fun v h' tk hv st' kk=>?_
  obtain ⟨t,rfl⟩:=hv
  have I1:Inv X pins σ H { s with heap:=h',toks:=tk }:=I.turned (fun b o hb e=>kk b o (by simpa using hb) e) f0 f1 f3 f4 f5
  refine ⟨_,rfl,Zhj (s:={ s with heap:=h',toks:=tk }) (n:="range_iterator") st' rfl rfl (by decide) ⟨.int (lo+i),H,I1,⟨t,?_⟩,⟨rfl,rfl⟩,st',fun b hb=>(hf b hb).1⟩⟩
  rw [Int.mul_one]
 done:=by
  intro X hP hw hK hc i pins s σ H E I hf st hg
  subst hP hw hK
  obtain ⟨f0,f1,f2,f3,f4,f5⟩:=hf it (by simp)
  exact wpAny_pyNext_range_end (I.ok.hd hc) st (by have:n≤i:=hg;lia) fun h' eb=>⟨rfl,I.turned (t':=s.toks) (fun b o hb e=>eb b o hb e) f0 f1 f3 f4 f5⟩
 self:=fun _ _ _ _ _ st h=>wpAny_pyIter_rangeiter st h
end L2
namespace L2
open PySem PySem.Spec PyProof.Rows
section
variable {X:Cx}{tg:Expr}
def Znh (K:PySem.W.Frag) (tl:TE):TI:=fun σ H R=>tl σ H fun x H1=>∃ a,x=.ref a∧(∃ xs,SqL K H1 a xs)∧R (Itl K a) H1
def Zoa (K:PySem.W.Frag) (tl:TE):TI:=fun σ H R=>tl σ H fun x H1=>∃ a,x=.ref a∧(∃ xs,SqT K H1 a xs)∧R (Itt K a) H1
theorem Yu {l:Expr}{tl:TE}(hl:PE X l tl):PI X tg l (Znh X.K tl):=by
 intro pins s σ H R I h
 refine thn (hl pins s σ H _ I h) fun v s1 ⟨x,H1,I1,r1,q1⟩=>?_
 obtain ⟨a,e,⟨xs,hq⟩,q⟩:=q1
 subst e
 cases r1
 obtain ⟨its,rv,p,hz⟩:=I1.list hq
 refine wpAny_pyIter_list p.isList ?_
 refine ⟨s1.heap.objs.size,[s1.heap.objs.size],_,_,H1,rfl,I1.kept (t':=s1.toks) fun b o e=>Heap.get?_push_of_some _ e,Zif a _,⟨_,Heap.get?_push_size _ rfl,rfl,rfl⟩,fun b hb=>?_,q⟩
 have e:b=s1.heap.objs.size:=by simpa using hb
 subst e
 exact I1.ZdQ (Nat.le_refl _) (I1.hok.fresh (Nat.le_refl _))
theorem ZlC {l:Expr}{tl:TE}(hl:PE X l tl):PI X tg l (Zoa X.K tl):=by
 intro pins s σ H R I h
 refine thn (hl pins s σ H _ I h) fun v s1 ⟨x,H1,I1,r1,q1⟩=>?_
 obtain ⟨a,e,⟨xs,hq⟩,q⟩:=q1
 subst e
 cases r1
 obtain ⟨its,rv,p,hz⟩:=I1.tuple hq
 refine wpAny_pyIter_tuple (show s1.heap.IsTuple a its.toArray from p) ?_
 refine ⟨s1.heap.objs.size,[s1.heap.objs.size],_,_,H1,rfl,I1.kept (t':=s1.toks) fun b o e=>Heap.get?_push_of_some _ e,ZgA a _,⟨_,Heap.get?_push_size _ rfl,rfl,rfl⟩,fun b hb=>?_,q⟩
 have e:b=s1.heap.objs.size:=by simpa using hb
 subst e
 exact I1.ZdQ (Nat.le_refl _) (I1.hok.fresh (Nat.le_refl _))
theorem ZeB {pins:List (Addr×Obj)}{σ:St}{H:Hp}{s:Shared}{R:It→Hp→Prop}{E:Value→Shared→Prop}{lo hi:Int}{t u v:Tok}{tk:Nat}(I:Inv X pins σ H s) (h1 : -(2^62)≤lo) (h2:lo<2^62) (h3 : -(2^62)≤hi) (h4:hi<2^62)
  (q:R (Itr lo (hi-lo).toNat) H):wpAny (model X.prog X.w) X.A (pyIter (.ref s.heap.objs.size)) (PIE X pins σ tg R) E { s with heap:=s.heap.push { cls:=.type "range",data:=.fields #[.int lo t,.int hi u,.int 1 v] },toks:=tk }:=by
 refine wpAny_pyIter_range (IsRange.new ..) (small_one h1 h2 h3 h4) ?_
 have I1:Inv X pins σ H { s with heap:=s.heap.push { cls:=.type "range",data:=.fields #[.int lo t,.int hi u,.int 1 v] },toks:=tk }:=I.kept fun b o e=>Heap.get?_push_of_some _ e
 refine ⟨(s.heap.push { cls:=.type "range",data:=.fields #[.int lo t,.int hi u,.int 1 v] }).objs.size,[(s.heap.push { cls:=.type "range",data:=.fields #[.int lo t,.int hi u,.int 1 v] }).objs.size],_,_,H,rfl,
  I1.kept (t':=tk) fun b o e=>Heap.get?_push_of_some _ e,Zge _ lo (hi-lo).toNat,?_,fun b hb=>?_,q⟩
 ·have e1:lo+((0:Nat):Int)*1=lo:=by simp
  have e2:(((hi-lo).toNat:Nat):Int)-((0:Nat):Int)=Builtin.Range.rangeSize lo hi 1:=by rw [rangeSize_one];split <;> lia
  show IsRangeIter _ _ (lo+((0:Nat):Int)*1) ((((hi-lo).toNat:Nat):Int)-((0:Nat):Int)) 1
  rw [e1,e2]
  exact Heap.get?_push_size _ rfl
 ·have e:b=(s.heap.push { cls:=.type "range",data:=.fields #[.int lo t,.int hi u,.int 1 v] }).objs.size:=by simpa using hb
  subst e
  exact I1.ZdQ (Nat.le_refl _) (I1.hok.fresh (Nat.le_refl _))
def Zjc (ta:TA):TI:=fun σ H R=>ta σ H fun vs H1=>∃ j:Int,vs=[.int j]∧-(2^62)≤j∧j<2^62∧R (Itr 0 j.toNat) H1
def Znm (ta:TA):TI:=fun σ H R=>ta σ H fun vs H1=>∃ i j:Int,vs=[.int i,.int j]∧(-(2^62)≤i∧i<2^62∧-(2^62)≤j∧j<2^62)∧R (Itr i (j-i).toNat) H1
theorem ZhS {a:Expr}{ta:TA}{p pos:Pos}(hg:Gl X "range") (hm:X.mg "range"=none) (ha:PA X [a] ta) (hs:starEach [a] X.env=[(false,eval a X.env)]:=by rfl):PI X tg (.Call (.Name "range" p) [a] [] pos) (Zjc ta):=by
 intro pins s σ H R I h
 refine Call_ (QN I hg hm boot_range (PyProof.Rows.callWith_type1 (thn (ha pos pins s σ H _ I h) fun us s1 ⟨vs,H1,I1,r1,q1⟩=>?_) hs rfl))
 obtain ⟨j,e,q1,q2,q⟩:=q1
 subst e
 cases r1 with
 | cons r rr =>
  cases rr
  obtain ⟨t,rfl⟩:=r
  exact call_range_1 (ZeB I1 (by lia) (by lia) q1 q2 (by simpa using q))
theorem ZhA {a b:Expr}{ta:TA}{p pos:Pos}(hg:Gl X "range") (hm:X.mg "range"=none) (ha:PA X [a,b] ta) (hs:starEach [a,b] X.env=[(false,eval a X.env),(false,eval b X.env)]:=by rfl) (hs2:starEach [b] X.env=[(false,eval b X.env)]:=by rfl) :
  PI X tg (.Call (.Name "range" p) [a,b] [] pos) (Znm ta):=by
 intro pins s σ H R I h
 refine Call_ (QN I hg hm boot_range (PyProof.Rows.callWith_type1 (thn (ha pos pins s σ H _ I h) fun us s1 ⟨vs,H1,I1,r1,q1⟩=>?_) (by rw [hs,hs2]) (by rw [hs2];rfl)))
 obtain ⟨i,j,e,⟨q1,q2,q3,q4⟩,q⟩:=q1
 subst e
 cases r1 with
 | cons r rr =>
  cases rr with
  | cons r' rr =>
   cases rr
   obtain ⟨t,rfl⟩:=r
   obtain ⟨t',rfl⟩:=r'
   exact call_range_2 (ZeB I1 q1 q2 q3 q4 q)
def ZmR (wi:TI) (g:TG) (tb:TS):TS:=fun D σ H=>wi σ H fun J H1=>∃ W:Nat→Nat→St→Hp→Prop,(∃ m,W 0 m σ H1)∧∀ i m σ H,W i m σ H →
 (J.stop i H∧D.nx σ H)∨(J.go i H∧∃ N:St→Hp→Prop,(∀ σ' H',N σ' H'→∃ m',m'<m∧W (i+1) m' σ' H')∧∀ x H',J.yld i H x H'→g x σ H' fun σ2 H2=>tb { D with nx:=N,ct:=N,bk:=D.nx } σ2 H2)
def Zax (fp:List Addr) (h:Heap):List (Addr×Obj):=fp.filterMap fun b=>(h.get? b).map fun o=>(b,o)
theorem XQ {fp:List Addr}{h:Heap}{b:Addr}{o:Obj}(hb:b∈fp) (e:h.get? b=some o):(b,o)∈Zax fp h:=List.mem_filterMap.mpr ⟨b,hb,by rw [e];rfl⟩
theorem Zig {fp:List Addr}{h:Heap}{p:Addr×Obj}(hp:p∈Zax fp h):p.1∈fp∧h.get? p.1=some p.2:=by
 obtain ⟨b,hb,e⟩:=List.mem_filterMap.mp hp
 cases q:h.get? b with
 | none=>rw [q] at e;cases e
 | some o =>
  rw [q] at e
  have e':(b,o)=p:=Option.some.inj e
  subst e'
  exact ⟨hb,q⟩
theorem Inv.pinned {pins:List (Addr×Obj)}{σ:St}{H:Hp}{s:Shared}{fp:List Addr}(I:Inv X pins σ H s) (hf:∀ b∈fp,QX X pins H b) (ho:∀ b∈fp,∃ o,s.heap.get? b=some o∧∀ v,o.data≠.cell v):Inv X (pins++Zax fp s.heap) σ H s :=
 I.Zhn fun p hp=>(List.mem_append.mp hp).elim (fun z=>I.pin p (List.mem_append_right _ z)) fun z=>by
  obtain ⟨hb,e⟩:=Zig z
  obtain ⟨f0,f1,f2,_⟩:=hf p.1 hb
  obtain ⟨o,e',d⟩:=ho p.1 hb
  rw [e] at e';cases e'
  exact ⟨e,f0,f1,f2,d⟩
theorem Inv.QK {pins pl:List (Addr×Obj)}{σ:St}{H:Hp}{s:Shared}(I:Inv X (pins++pl) σ H s):Inv X pins σ H s:=I.Zhn fun p hp=>I.pin p (List.mem_append_right _ (List.mem_append_left _ hp))
theorem Xr {iter:Expr}{body:List Stmt}{wi:TI}{g:TG}{tb:TS}{pos:Pos}(hp:PassesOwn (model X.prog X.w) X.A X.env X.xe) (hc:X.calm=true) (hi:PI X tg iter wi) (hg:PG X tg g) (hb:PSs X body tb)
  (hs:∀ x,foldedSetIterable iter X.env x=pure x:=by intro _;rfl):PS X (.For tg iter body [] pos) (ZmR wi g tb):=by
 intro pins s σ H D I h
 refine wpAny_For (thn (hi pins s σ H _ I h) fun v s1 h1=>thn h1 fun itv s2 h2=>?_) hs
 obtain ⟨it,fp,tn,J,H2,e,I2,T,st2,f2,W,⟨m0,w0⟩,turn⟩:=h2
 subst e
 have stat:∀ {H':Hp},(∀ b∈fp,H' b=none)→∀ b∈fp,QX X pins H' b:=fun hn b hb=>⟨hn b hb,(f2 b hb).2⟩
 refine codeAny_forLoop_any (fun n s'=>∃ i σ' H',Inv X pins σ' H' s'∧tn i s'.heap∧(∀ b∈fp,H' b=none)∧W i n σ' H') ?_ m0 ⟨0,σ,H2,I2,st2,fun b hb=>(f2 b hb).1,w0⟩
 rintro n s3 ⟨i,σ3,H3,I3,st3,fr3,w3⟩
 rcases turn i n σ3 H3 w3 with ⟨stop,qn⟩ | ⟨go,N,hN,step⟩
 ·refine wpAny_passesOwn hp (thn (T.done X rfl rfl rfl hc i pins s3 σ3 H3 X.xe I3 (stat fr3) st3 stop) fun r s4 ⟨hr,I4⟩=>?_)
  subst hr
  exact wpAny_execs_nil ⟨σ3,H3,I4,qn⟩
 ·refine wpAny_passesOwn hp (thn (T.item X rfl rfl rfl hc i pins s3 σ3 H3 X.xe I3 (stat fr3) st3 go) fun r s4 ⟨u,hr,h4⟩=>?_)
  subst hr
  refine wpAny_passesOwn hp (thn h4 fun _ s5 ⟨x,H5,I5,r5,y5,st5,fr5⟩=>?_)
  have I5':=I5.pinned (stat fr5) (T.obj _ _ st5)
  refine wpAny_passesOwn hp (thn (hg _ s5 σ3 H5 x u _ I5' r5 (step x H5 y5)) fun _ s6 ⟨σ6,H6,I6,q6⟩=>?_)
  refine wpAny_passesOwn hp (thn (hb _ s6 σ6 H6 _ I6 q6) fun f s7 q7=>?_)
  have again:∀ {σ7:St}{H7:Hp},Inv X (pins++Zax fp s5.heap) σ7 H7 s7→N σ7 H7→∃ m,m<n∧∃ i σ' H',Inv X pins σ' H' s7∧tn i s7.heap∧(∀ b∈fp,H' b=none)∧W i m σ' H':=fun {σ7 H7} I7 n7=>by
   obtain ⟨m',hm,w7⟩:=hN σ7 H7 n7
   refine ⟨m',hm,i+1,σ7,H7,I7.QK,T.keep _ _ _ st5 fun b hb o e=>(I7.pin (b,o) (List.mem_append_right _ (List.mem_append_right _ (XQ hb e)))).1,fun b hb=>?_,w7⟩
   obtain ⟨o,e,d⟩:=T.obj _ _ st5 b hb
   exact (I7.pin (b,o) (List.mem_append_right _ (List.mem_append_right _ (XQ hb e)))).2.1
  cases f with
  | next=>obtain ⟨σ7,H7,I7,n7⟩:=q7;exact again I7 n7
  | cont=>obtain ⟨σ7,H7,I7,n7⟩:=q7;exact again I7 n7
  | brk=>obtain ⟨σ7,H7,I7,q7⟩:=q7;exact ⟨σ7,H7,I7.QK,q7⟩
  | ret v=>obtain ⟨x7,σ7,H7,I7,r7,q7⟩:=q7;exact ⟨x7,σ7,H7,I7.QK,r7,q7⟩
end
theorem ZbV {K:PySem.W.Frag}{a:Addr}{xs:List V}{g:TG}{tb:TS}{D:Ends}{σ:St}{H:Hp}(Pv:Nat→St→Hp→Prop) (h0:Pv 0 σ H) (hl:∀ i σ H,i≤xs.length→Pv i σ H→SqL K H a xs)
  (hs:∀ i x σ H,xs[i]?=some x→Pv i σ H→g x σ H fun σ2 H2=>tb { D with nx:=Pv (i+1),ct:=Pv (i+1),bk:=D.nx } σ2 H2) (hd:∀ σ H,Pv xs.length σ H→D.nx σ H) :
  ∃ W:Nat→Nat→St→Hp→Prop,(∃ m,W 0 m σ H)∧∀ i m σ H,W i m σ H →
   ((Itl K a).stop i H∧D.nx σ H)∨((Itl K a).go i H∧∃ N:St→Hp→Prop,(∀ σ' H',N σ' H'→∃ m',m'<m∧W (i+1) m' σ' H')∧∀ x H',(Itl K a).yld i H x H'→g x σ H' fun σ2 H2=>tb { D with nx:=N,ct:=N,bk:=D.nx } σ2 H2):=by
 refine ⟨fun i m σ H=>m=xs.length-i∧i≤xs.length∧Pv i σ H,⟨xs.length,by simp,Nat.zero_le _,h0⟩,?_⟩
 rintro i m σ H ⟨rfl,hi,p⟩
 have q:=hl i σ H hi p
 by_cases hlt:i<xs.length
 ·refine .inr ⟨⟨xs,xs[i],q,by simp [hlt]⟩,Pv (i+1),fun σ' H' p'=>⟨xs.length-(i+1),by lia,rfl,hlt,p'⟩,fun x H' y=>?_⟩
  obtain ⟨e,y⟩:=y
  subst e
  exact hs i x σ _ (y xs q) p
 ·have e:i=xs.length:=by lia
  subst e
  exact .inl ⟨⟨xs,q,Nat.le_refl _⟩,hd σ H p⟩
theorem Zdl {lo:Int}{n:Nat}{g:TG}{tb:TS}{D:Ends}{σ:St}{H:Hp}(Pv:Nat→St→Hp→Prop) (h0:Pv 0 σ H)
  (hs:∀ i σ H,i<n→Pv i σ H→g (.int (lo+i)) σ H fun σ2 H2=>tb { D with nx:=Pv (i+1),ct:=Pv (i+1),bk:=D.nx } σ2 H2) (hd:∀ σ H,Pv n σ H→D.nx σ H) :
  ∃ W:Nat→Nat→St→Hp→Prop,(∃ m,W 0 m σ H)∧∀ i m σ H,W i m σ H →
   ((Itr lo n).stop i H∧D.nx σ H)∨((Itr lo n).go i H∧∃ N:St→Hp→Prop,(∀ σ' H',N σ' H'→∃ m',m'<m∧W (i+1) m' σ' H')∧∀ x H',(Itr lo n).yld i H x H'→g x σ H' fun σ2 H2=>tb { D with nx:=N,ct:=N,bk:=D.nx } σ2 H2):=by
 refine ⟨fun i m σ H=>m=n-i∧i≤n∧Pv i σ H,⟨n,by simp,Nat.zero_le _,h0⟩,?_⟩
 rintro i m σ H ⟨rfl,hi,p⟩
 by_cases hlt:i<n
 ·refine .inr ⟨hlt,Pv (i+1),fun σ' H' p'=>⟨n-(i+1),by lia,rfl,hlt,p'⟩,fun x H' y=>?_⟩
  obtain ⟨e,y⟩:=y
  subst e y
  exact hs i σ _ hlt p
 ·have e:i=n:=by lia
  subst e
  exact .inl ⟨Nat.le_refl _,hd σ H p⟩
theorem Zfp {c:TT}{tb:TS}{D:Ends}{σ:St}{H:Hp}(Pv:St→Hp→Prop) (μ:St→Hp→Nat) (h0:Pv σ H)
  (hs:∀ σ H,Pv σ H→c σ H fun b H1=>if b=true then tb { D with nx:=fun σ' H'=>Pv σ' H'∧μ σ' H'<μ σ H,ct:=fun σ' H'=>Pv σ' H'∧μ σ' H'<μ σ H,bk:=D.nx } σ H1 else D.nx σ H1)
  (mono:∀ σ H Q Q',(∀ b H1,Q b H1→Q' b H1)→c σ H Q→c σ H Q'):Zjm c tb D σ H:=by
 refine ⟨fun m σ H=>m=μ σ H∧Pv σ H,⟨_,rfl,h0⟩,?_⟩
 rintro m σ H ⟨rfl,p⟩
 refine mono σ H _ _ (fun b H1 q=>?_) (hs σ H p)
 cases b with
 | true=>exact ⟨_,fun σ' H' ⟨p',l⟩=>⟨_,l,rfl,p'⟩,q⟩
 | false=>exact q
end L2
namespace L2
open PySem PySem.Spec PyProof.Rows
abbrev R2:=V→V→Hp→VK→Prop
def OpR (X:Cx) (f:Value→Value→Sem Value) (r:R2):Prop :=
 ∀ (pins:List (Addr×Obj)) (s:Shared) (σ:St) (H:Hp) (x y:V) (v u:Value) (Q:VK),Inv X pins σ H s→RelV x v→RelV y u→r x y H Q →
  wpAny (model X.prog X.w) X.A (f v u) (EP X pins σ Q) X.xe s
def UnR (X:Cx) (f:Value→Sem Value) (r:V→Hp→VK→Prop):Prop :=
 ∀ (pins:List (Addr×Obj)) (s:Shared) (σ:St) (H:Hp) (x:V) (v:Value) (Q:VK),Inv X pins σ H s→RelV x v→r x H Q →
  wpAny (model X.prog X.w) X.A (f v) (EP X pins σ Q) X.xe s
def XA (X:Cx) (f:Value) (r:List V→Hp→VK→Prop):Prop :=
 ∀ (pins:List (Addr×Obj)) (s:Shared) (σ:St) (H:Hp) (xs:List V) (us:List Value) (Q:VK),Inv X pins σ H s→Vals xs us→r xs H Q →
  wpAny (model X.prog X.w) X.A (call f us) (EP X pins σ Q) X.xe s
def tOp (r:R2) (ta tb:TE):TE:=fun σ H Q=>ta σ H fun x H1=>tb σ H1 fun y H2=>r x y H2 Q
def tUn (r:V→Hp→VK→Prop) (ta:TE):TE:=fun σ H Q=>ta σ H fun x H1=>r x H1 Q
def rI (C:Int→Int→Prop) (g:Int→Int→V):R2:=fun x y H Q=>∃ i j,x=.int i∧y=.int j∧C i j∧Q (g i j) H
def rI0 (g:Int→Int→V):R2:=fun x y H Q=>∃ i j,x=.int i∧y=.int j∧Q (g i j) H
def rU (g:Int→V):V→Hp→VK→Prop:=fun x H Q=>∃ i,x=.int i∧Q (g i) H
section
variable {X:Cx}{a b c:Expr}{ta tb tc:TE}{pos:Pos}
theorem Zma (ha:PE X a ta) (hb:PE X b tb){pins:List (Addr×Obj)}{s:Shared}{σ:St}{H:Hp}{R:V→V→Hp→Prop}(I:Inv X pins σ H s)
  (h:ta σ H fun x H1=>tb σ H1 fun y H2=>R x y H2){Q:Value→Shared→Prop}{f:Value→Value→Sem Value}
  (hf:∀ v u s2 x y H2,Inv X pins σ H2 s2→RelV x v→RelV y u→R x y H2→wpAny (model X.prog X.w) X.A (f v u) Q X.xe s2) :
  wpAny (model X.prog X.w) X.A (eval a X.env) (fun v s₁=>wpAny (model X.prog X.w) X.A (eval b X.env) (fun u s₂=>wpAny (model X.prog X.w) X.A (f v u) Q X.xe s₂) X.xe s₁) X.xe s:=by
 refine thn (ha pins s σ H _ I h) fun v s1 ⟨x,H1,I1,r1,q1⟩=>?_
 refine thn (hb pins s1 σ H1 _ I1 q1) fun u s2 ⟨y,H2,I2,r2,q2⟩=>?_
 exact hf v u s2 x y H2 I2 r1 r2 q2
theorem Zj {op:Operator}{r:R2}(ho:OpR X (binaryOp op) r) (ha:PE X a ta) (hb:PE X b tb):PE X (.BinOp a op b pos) (tOp r ta tb):=by
 intro pins s σ H Q I h
 exact wpAny_BinOp (Zma ha hb I h fun v u s2 x y H2 I2 rx ry q=>ho pins s2 σ H2 x y v u Q I2 rx ry q)
theorem YJ {op:UnaryOp}{r:V→Hp→VK→Prop}(ho:UnR X (unaryOp op) r) (ha:PE X a ta):PE X (.UnaryOp op a pos) (tUn r ta):=by
 intro pins s σ H Q I h
 exact UnaryOp_ (thn (ha pins s σ H _ I h) fun v s1 ⟨x,H1,I1,r1,q1⟩=>ho pins s1 σ H1 x v Q I1 r1 q1)
theorem opI {f:Value→Value→Sem Value}{C:Int→Int→Prop}{g:Int→Int→Int}
  (rule:∀ (i j:Int) (t u:Tok) (s:Shared) (Q:Value→Shared→Prop) (E:Value→Shared→Prop),C i j→Q (.int (g i j) s.toks) { s with toks:=s.toks+1 }→wpAny (model X.prog X.w) X.A (f (.int i t) (.int j u)) Q E s) :
  OpR X f (rI C fun i j=>.int (g i j)):=by
 intro pins s σ H x y v u Q I rx ry h
 obtain ⟨i,j,rfl,rfl,hc,q⟩:=h
 obtain ⟨t,rfl⟩:=rx
 obtain ⟨t',rfl⟩:=ry
 exact rule i j t t' s _ _ hc ⟨.int (g i j),H,I.tok _,⟨_,rfl⟩,q⟩
theorem ZkU {f:Value→Value→Sem Value}{g:Int→Int→Int}
  (rule:∀ (i j:Int) (t u:Tok) (s:Shared) (Q:Value→Shared→Prop) (E:Value→Shared→Prop),Q (.int (g i j) s.toks) { s with toks:=s.toks+1 }→wpAny (model X.prog X.w) X.A (f (.int i t) (.int j u)) Q E s) :
  OpR X f (rI0 fun i j=>.int (g i j)):=by
 intro pins s σ H x y v u Q I rx ry h
 obtain ⟨i,j,rfl,rfl,q⟩:=h
 obtain ⟨t,rfl⟩:=rx
 obtain ⟨t',rfl⟩:=ry
 exact rule i j t t' s _ _ ⟨.int (g i j),H,I.tok _,⟨_,rfl⟩,q⟩
theorem ZhE {f:Value→Value→Sem Value}{g:Int→Int→Bool}
  (rule:∀ (i j:Int) (t u:Tok) (s:Shared) (Q:Value→Shared→Prop) (E:Value→Shared→Prop),Q (.bool (g i j)) s→wpAny (model X.prog X.w) X.A (f (.int i t) (.int j u)) Q E s) :
  OpR X f (rI0 fun i j=>.bl (g i j)):=by
 intro pins s σ H x y v u Q I rx ry h
 obtain ⟨i,j,rfl,rfl,q⟩:=h
 obtain ⟨t,rfl⟩:=rx
 obtain ⟨t',rfl⟩:=ry
 exact rule i j t t' s _ _ ⟨.bl (g i j),H,I,rfl,q⟩
theorem Zgv (k:Nat):(0:Int)≤2^k:=by
 rw [two_pow_cast]
 exact Int.natCast_nonneg _
theorem ZlT:OpR X (binaryOp .Add) (rI0 fun i j=>.int (i+j)):=ZkU fun _ _ _ _ _ _ _ q=>add_int q
theorem Zmd:OpR X (binaryOp .Sub) (rI0 fun i j=>.int (i-j)):=ZkU fun _ _ _ _ _ _ _ q=>sub_int q
theorem Zmf:OpR X (binaryOp .Mod) (rI (fun _ j=>0<j) fun i j=>.int (i % j)):=opI fun i j _ _ _ _ _ hc q=>by
 have h1:(0:Int)<j:=hc
 exact mod_int' (by lia) (by rw [Int.fmod_eq_emod_of_nonneg i (by lia)];exact q)
theorem ZlD:OpR X (binaryOp .RShift) (rI (fun _ j=>0≤j) fun i j=>.int (i / 2^j.toNat)):=opI fun i j _ _ _ _ _ hc q =>
 rshift_int hc (by rw [Int.fdiv_eq_ediv_of_nonneg i (Zgv _)];exact q)
theorem ZlN:OpR X (binaryOp .BitAnd) (rI0 fun i j=>.int (Builtin.bitAnd i j)):=ZkU fun _ _ _ _ _ _ _ q=>and_int q
theorem ZnC:OpR X (binaryOp .BitOr) (rI0 fun i j=>.int (Builtin.bitOr i j)):=ZkU fun _ _ _ _ _ _ _ q=>or_int q
theorem unI {f:Value→Sem Value}{g:Int→Int}
  (rule:∀ (i:Int) (t:Tok) (s:Shared) (Q:Value→Shared→Prop) (E:Value→Shared→Prop),Q (.int (g i) s.toks) { s with toks:=s.toks+1 }→wpAny (model X.prog X.w) X.A (f (.int i t)) Q E s) :
  UnR X f (rU fun i=>.int (g i)):=by
 intro pins s σ H x v Q I rx h
 obtain ⟨i,rfl,q⟩:=h
 obtain ⟨t,rfl⟩:=rx
 exact rule i t s _ _ ⟨.int (g i),H,I.tok _,⟨_,rfl⟩,q⟩
theorem Zmn:UnR X (unaryOp .USub) (rU fun i=>.int (-i)):=unI fun _ _ _ _ _ q=>neg_int q
end
section
variable {X:Cx}{a b c:Expr}{ta tb tc:TE}{pos:Pos}
theorem Znu:OpR X (compareOp .Lt) (rI0 fun i j=>.bl (decide (i<j))):=ZhE fun _ _ _ _ _ _ _ q=>lt_int q
theorem Zno:OpR X (compareOp .LtE) (rI0 fun i j=>.bl (decide (i≤j))):=ZhE fun _ _ _ _ _ _ _ q=>le_int q
theorem ZnI:OpR X (compareOp .Gt) (rI0 fun i j=>.bl (decide (j<i))):=ZhE fun _ _ _ _ _ _ _ q=>gt_int q
theorem Znl:OpR X (compareOp .GtE) (rI0 fun i j=>.bl (decide (j≤i))):=ZhE fun _ _ _ _ _ _ _ q=>ge_int q
theorem ZD (b:Expr){op:CmpOp}(h:op≠.In:=by decide) (h2:op≠.NotIn:=by decide):behindInMarks op b=false:=by
 have e1:(op==CmpOp.In)=false:=by cases op <;> first | rfl | exact absurd rfl h
 have e2:(op==CmpOp.NotIn)=false:=by cases op <;> first | rfl | exact absurd rfl h2
 cases b <;> simp [behindInMarks,e1,e2]
theorem QS {op:CmpOp}{r:R2}(ho:OpR X (compareOp op) r) (ha:PE X a ta) (hb:PE X b tb) (hm:behindInMarks op b=false):PE X (.Compare a [op] [b] pos) (tOp r ta tb):=by
 intro pins s σ H Q I h
 exact wpAny_Compare1 (Zma ha hb I h fun v u s2 x y H2 I2 rx ry q=>ho pins s2 σ H2 x y v u Q I2 rx ry q) hm
def Zfd (t:TE):TT:=fun σ H Q=>t σ H fun x H'=>∃ k,x=.bl k∧Q k H'
theorem ZC {op:CmpOp}{r:R2}(ho:OpR X (compareOp op) r) (ha:PE X a ta) (hb:PE X b tb) (hm:behindInMarks op b=false):PT X (.Compare a [op] [b] pos) (Zfd (tOp r ta tb)):=by
 intro pins s σ H Q I h
 refine wpAny_isTrue_Compare1 (thn (ha pins s σ H _ I h) fun v s1 ⟨x,H1,I1,r1,q1⟩=>thn (hb pins s1 σ H1 _ I1 q1) fun u s2 ⟨y,H2,I2,r2,q2⟩ =>
  thn (ho pins s2 σ H2 x y v u _ I2 r1 r2 q2) fun c s3 ⟨z,H3,I3,r3,k,e,q3⟩=>?_) hm
 subst e
 cases r3
 exact wpAny_truthy_bool ⟨H3,I3,q3⟩
theorem Zea:(sizeLine:Nat)<2^63:=by rw [sizeLine_eq];decide
theorem vals1 {x:V}{us:List Value}(r:Vals [x] us):∃ u,us=[u]∧RelV x u:=by
 cases r with
 | cons r1 r2=>cases r2;exact ⟨_,rfl,r1⟩
theorem vals2 {x y:V}{us:List Value}(r:Vals [x,y] us):∃ u w',us=[u,w']∧RelV x u∧RelV y w':=by
 cases r with
 | cons r1 r2 =>
  cases r2 with
  | cons r3 r4=>cases r4;exact ⟨_,_,rfl,r1,r3⟩
theorem Zii (hc:X.calm=true):XA X (.builtin "max") (fun xs H Q=>∃ i j,xs=[.int i,.int j]∧Q (.int (if j>i then j else i)) H):=by
 intro pins s σ H xs us Q I r h
 obtain ⟨i,j,rfl,q⟩:=h
 obtain ⟨u,w',rfl,⟨t,rfl⟩,⟨t',rfl⟩⟩:=vals2 r
 refine max_two_ints (I.ok.hd hc) fun h' tk k=>⟨_,H,I.kept k,?_,q⟩
 by_cases hj:j>i
 ·rw [if_pos hj,if_pos hj];exact ⟨_,rfl⟩
 ·rw [if_neg hj,if_neg hj];exact ⟨_,rfl⟩
theorem ZhH (hc:X.calm=true):XA X (.builtin "min") (fun xs H Q=>∃ i j,xs=[.int i,.int j]∧Q (.int (if j<i then j else i)) H):=by
 intro pins s σ H xs us Q I r h
 obtain ⟨i,j,rfl,q⟩:=h
 obtain ⟨u,w',rfl,⟨t,rfl⟩,⟨t',rfl⟩⟩:=vals2 r
 refine min_two_ints (I.ok.hd hc) fun h' tk k=>⟨_,H,I.kept k,?_,q⟩
 by_cases hj:j<i
 ·rw [if_pos hj,if_pos hj];exact ⟨_,rfl⟩
 ·rw [if_neg hj,if_neg hj];exact ⟨_,rfl⟩
end
end L2
namespace L2
open PySem PySem.Spec PyProof.Rows
structure ZfT (h:Heap) (x dx C:Addr) (mA:Str→Option Value):Prop where
 obj:h.get? x=some (PySem.W.instObj C dx)
 ns:h.Ns1 dx mA
 ne:dx≠x
theorem ZhI {h:Heap}{dx:Addr}{mA:Str→Option Value}(n:h.Ns1 dx mA):∃ od,h.get? dx=some od∧∀ name,PySem.W.lookIn name od=some (mA name):=by
 obtain ⟨o,es,ep,ho,hd,hk,_,hm⟩:=n
 refine ⟨o,ho,fun name=>?_⟩
 have e:=hm name
 unfold nsFind findBy at e
 rw [← Array.find?_toList] at e
 unfold PySem.W.lookIn
 rw [hd]
 dsimp only
 split
 ·rename_i y q
  rw [q] at e
  exact congrArg some e
 ·rename_i q
  rw [q] at e
  have a:es.toList.any (·.refKey)=false:=by
   rw [List.any_eq_false]
   intro y hy
   obtain ⟨z,t,hkey⟩:=hk y (Array.mem_toList_iff.mp hy)
   simp [DictEntry.refKey,hkey]
  have a':¬ es.toList.any (·.refKey)=true:=by rw [a];exact Bool.false_ne_true
  rw [if_neg a']
  exact congrArg some e
theorem ZfT.look {h:Heap}{x dx C:Addr}{mA:Str→Option Value}(I:ZfT h x dx C mA):∃ od,PySem.W.InstAt h x (PySem.W.instObj C dx) C (some od)∧∀ name,PySem.W.lookIn name od=some (mA name) :=
 let ⟨od,ho,hl⟩:=ZhI I.ns
 ⟨od,⟨I.obj,rfl,rfl,ho⟩,hl⟩
section
variable {prog:Program}{w:World}{A:Around}{E:Value→Shared→Prop}{s:Shared}{K:PySem.W.Frag}{x dx C f:Addr}{mA:Str→Option Value}{name:Str}{v:Value}
theorem get_map {expr:Bool}{Q:Value→Shared→Prop}(X:K.In s.heap) (I:ZfT s.heap x dx C mA) (hg:PySem.W.plainGet K C name=true) (hh:PySem.W.hasDictIn K C=true)
  (ha:PySem.W.findIn K (.ref C) name=some none) (hv:mA name=some v) (hv':PySem.W.handedIn v=true) (h:Q v { s with toks:=s.toks+1 }) :
  wpAny (model prog w) A (getAttr (.ref x) name expr) Q E s:=by
 obtain ⟨od,J,hl⟩:=I.look
 exact PySem.W.get_value X J (PySem.W.plainGet_of hg).1 (PySem.W.findObj_own hh ha rfl (by rw [hl,hv])) hv' h
theorem Ziw {pl:Sem Bool}{Q:Value×List Value→Shared→Prop}(X:K.In s.heap) (I:ZfT s.heap x dx C mA) (hg:PySem.W.plainGet K C name=true)
  (hf:PySem.W.findIn K (.ref C) name=some (some (.ref f))) (ht:PySem.W.isFn K (.ref f)=true) (hv:mA name=none) (h:Q (.ref f,[.ref x]) s) :
  wpAny (model prog w) A (getMethod (.ref x) name pl) Q E s:=by
 obtain ⟨od,J,hl⟩:=I.look
 exact PySem.W.method_fn X J (PySem.W.plainGet_of hg).1 (PySem.W.plainGet_of hg).2 hf (beq_iff_eq.mp ht) (by show (PySem.W.lookIn name od).map (·.isSome)=some false;rw [hl,hv];rfl) h
theorem ZkE {ns:List Str}{Q:Unit→Shared→Prop}(X:K.In s.heap) (I:ZfT s.heap x dx C mA)
  (hs:PySem.W.findIn K (.ref C) "__setattr__"=some (some (.builtin "object.__setattr__"))) (hp:PySem.W.plainOver K C=true) (ht:PySem.W.takerIn K C name=some none) (hh:PySem.W.hasDictIn K C=true)
  (hw:PySem.Within mA ns) (hsz:ns.length≤sizeLine)
  (h:∀ h',ZfT h' x dx C (fun y=>if y=name then some v else mA y)→Heap.SameBut dx s.heap h'→Q () { s with heap:=h',toks:=s.toks+2 }) :
  wpAny (model prog w) A (setAttr (.ref x) name v) Q E s:=by
 obtain ⟨od,J,hl⟩:=I.look
 refine PySem.W.set_plain X J hs (PySem.W.osa_open (s:={ s with toks:=s.toks+1 }) (r:=none) X J hp ht fun b=>?_)
 obtain ⟨cd,hc,hd'⟩:=PySem.W.any_some hh
 have hx:s.heap.get? x=some ⟨.ref C,some dx,.plain,#[]⟩:=I.obj
 refine wpAny_bind (wpAny_pure (wpAny_bind (wpAny_bind (wpAny_loadPart hx (wpAny_bind (PySem.W.Looks.here (s:={ s with toks:=s.toks+1 }) (PySem.W.looks_clsIn X hc) ?_))))))
 rw [hd']
 refine wpAny_pure (a:=some dx) (wpAny_bind (wpAny_pure (wpAny_bind ?_)))
 refine wpAny_nsSet1 (s:={ s with toks:=s.toks+1 }) I.ns fun h' hn2 hs2=>?_
 obtain ⟨oD,esD,epD,hoD,hdD,hcD⟩:=hn2.count (PySem.Within.cons name v hw)
 refine wpAny_bind (wpAny_lookBehind hoD (by rw [hdD];exact pastItsLine_dict (Nat.le_trans hcD (by rw [List.length_cons];lia))) ?_)
 exact wpAny_pure (h _ ⟨(hs2.2 _ (Ne.symm I.ne)).trans I.obj,hn2,I.ne⟩ hs2)
theorem Zjh {R:Result→Shared→Prop}{vs:List Value}{kw:List (Str×Value)}(X:K.In s.heap) (hm:PySem.W.makesIn K C=true)
  (hi:PySem.W.findIn K (.ref C) "__init__"=some (some (.ref f))) (hf:PySem.W.typeIn K (.ref f)=some (.type "function"))
  (h:codeAny (model prog w) (A.under (.builtin "type.__call__" ⟨.ref C::vs,kw⟩)) (.call (.ref f) ⟨.ref (s.heap.objs.size+1)::vs,kw⟩) (PySem.W.InitBack (s.heap.objs.size+1) R)
   { s with heap:=(s.heap.push PySem.W.emptyDict).push (PySem.W.instObj C s.heap.objs.size) }) :
  codeAny (model prog w) A (.call (.ref C) ⟨vs,kw⟩) R s:=by
 obtain ⟨hh,g,d,t,os⟩:=s
 exact PySem.W.make_core (PySem.W.makes_of X hm) (PySem.W.looks_findIn X hi) (fun self=>PySem.W.bind_fn X self hf) (.inl rfl) h
end
def Ym (f:Str) (v:V):List (Str×V)→List (Str×V)
 | []=>[(f,v)]
 | (g,x)::r=>if g=f then (g,v)::r else (g,x)::Ym f v r
theorem ZaG (f g:Str) (v:V):∀ fs:List (Str×V),(Ym f v fs).lookup g=if g=f then some v else fs.lookup g
 | []=>by
  show List.lookup g [(f,v)]=_
  by_cases h:g=f
  ·have hb:(g==f)=true:=beq_iff_eq.mpr h
   simp only [List.lookup,hb,if_pos h]
  ·have hb:(g==f)=false:=beq_eq_false_iff_ne.mpr h
   simp only [List.lookup,hb,if_neg h]
 | (k,x)::r=>by
  have ih:=ZaG f g v r
  rw [show Ym f v ((k,x)::r)=(if k=f then (k,v)::r else (k,x)::Ym f v r) from rfl]
  by_cases hk:k=f
  ·rw [if_pos hk]
   by_cases h:g=k
   ·have hb:(g==k)=true:=beq_iff_eq.mpr h
    simp only [List.lookup,hb,if_pos (h.trans hk)]
   ·have hb:(g==k)=false:=beq_eq_false_iff_ne.mpr h
    simp only [List.lookup,hb,if_neg (fun e:g=f=>h (e.trans hk.symm))]
  ·rw [if_neg hk]
   by_cases h:g=k
   ·have hb:(g==k)=true:=beq_iff_eq.mpr h
    simp only [List.lookup,hb,if_neg (fun e:g=f=>hk (h.symm.trans e))]
   ·have hb:(g==k)=false:=beq_eq_false_iff_ne.mpr h
    simp only [List.lookup,hb]
    exact ih
theorem Zab (f:Str) (v:V):∀ fs:List (Str×V),f∈(Ym f v fs).map (·.1)∧∀ g,g∈fs.map (·.1)→g∈(Ym f v fs).map (·.1)
 | []=>⟨by simp [Ym],fun g h=>by simp at h⟩
 | (k,x)::r=>by
  obtain ⟨i1,i2⟩:=Zab f v r
  rw [show Ym f v ((k,x)::r)=(if k=f then (k,v)::r else (k,x)::Ym f v r) from rfl]
  by_cases hk:k=f
  ·rw [if_pos hk]
   subst hk
   exact ⟨by simp,fun g h=>by simpa using h⟩
  ·rw [if_neg hk]
   refine ⟨?_,fun g h=>?_⟩
   ·rw [List.map_cons]
    exact List.mem_cons_of_mem _ i1
   ·rw [List.map_cons] at h ⊢
    rcases List.mem_cons.mp h with e | e
    ·exact List.mem_cons.mpr (.inl e)
    ·exact List.mem_cons_of_mem _ (i2 g e)
theorem ZaD (f:Str) (v:V):∀ fs:List (Str×V),(Ym f v fs).length≤fs.length+1
 | []=>by simp [Ym]
 | (k,x)::r=>by
  have ih:=ZaD f v r
  rw [show Ym f v ((k,x)::r)=(if k=f then (k,v)::r else (k,x)::Ym f v r) from rfl]
  by_cases hk:k=f
  ·rw [if_pos hk,List.length_cons,List.length_cons];lia
  ·rw [if_neg hk,List.length_cons,List.length_cons];lia
theorem QY.some_of {v:V}{o:Option Value}(r:QY (some v) o):∃ u,o=some u∧RelV v u:=by
 cases o with
 | none=>exact (show False from r).elim
 | some u=>exact ⟨u,rfl,r⟩
theorem QY.none_of {o:Option Value}(r:QY none o):o=none:=by
 cases o with
 | none=>rfl
 | some u=>exact (show False from r).elim
theorem ZhR {v:V}{u:Value}(r:RelV v u):PySem.W.handedIn u=true:=by
 cases v with
 | non=>cases (show u=Value.none from r);rfl
 | bl b=>cases (show u=Value.bool b from r);rfl
 | int i=>obtain ⟨t,e⟩:=(show ∃ t,u=Value.int i t from r);cases e;rfl
 | str x=>obtain ⟨t,e⟩:=(show ∃ t,u=Value.str x t from r);cases e;rfl
 | byt b=>obtain ⟨t,e⟩:=(show ∃ t,u=Value.bytes b t from r);cases e;rfl
 | flt b=>obtain ⟨t,e⟩:=(show ∃ t,u=Value.float b t from r);cases e;rfl
 | ref a=>cases (show u=Value.ref a from r);rfl
 | ty n=>cases (show u=Value.type n from r);rfl
section
variable {P:Program}{w:World}{H H':Hp}{h h':Heap}{a C dx:Addr}{fs fs':List (Str×V)}
theorem ZdE (hok:HOk P w H h) (e:H a=some (.ins C dx fs)):∃ mA,ZfT h a dx C mA∧(∀ f,QY (fs.lookup f) (mA f))∧PySem.Within mA (fs.map (·.1))∧fs.length≤1000∧H dx=some (.own a):=by
 obtain ⟨d,z,ne,ob,mA,n,r,q⟩:=(show Yb P w H h a (.ins C dx fs) from hok a _ e)
 exact ⟨mA,⟨ob,n,ne⟩,r,q,z,d⟩
end
structure Cls (K:PySem.W.Frag) (C:Addr):Prop where
 pg:PySem.W.plainGet K C Str.empty=true
 hd:PySem.W.hasDictIn K C=true
 po:PySem.W.plainOver K C=true
 sa:PySem.W.findIn K (.ref C) "__setattr__"=some (some (.builtin "object.__setattr__"))
theorem Cls.get {K:PySem.W.Frag}{C:Addr}(c:Cls K C) (f:Str):PySem.W.plainGet K C f=true:=c.pg
def Zz (K:PySem.W.Frag) (C:Addr) (f:Str):Prop:=PySem.W.findIn K (.ref C) f=some none
theorem Zz.Zni {K:PySem.W.Frag}{C:Addr}{f:Str}(n:Zz K C f):PySem.W.takerIn K C f=some none:=by
 unfold PySem.W.takerIn
 rw [show PySem.W.findIn K (.ref C) f=some none from n]
 rfl
structure Meth (K:PySem.W.Frag) (C:Addr) (m:Str) (f:Addr):Prop where
 at_:PySem.W.findIn K (.ref C) m=some (some (.ref f))
 fn:PySem.W.isFn K (.ref f)=true
 kp:PySem.W.keepIn K (.ref f)=true
section
variable {X:Cx}{pins:List (Addr×Obj)}{σ:St}{H:Hp}{s:Shared}{a C dx:Addr}{fs:List (Str×V)}{f:Str}{v:V}{A:Around}{E:Value→Shared→Prop}
theorem Zgg {b:Bool}{Q:Value→Shared→Prop}(I:Inv X pins σ H s) (e:H a=some (.ins C dx fs)) (c:Cls X.K C) (n:Zz X.K C f) (l:fs.lookup f=some v)
  (h:∀ u s',Inv X pins σ H s'→RelV v u→Q u s'):wpAny (model X.prog X.w) A (getAttr (.ref a) f b) Q E s:=by
 obtain ⟨mA,O,r,_,_,_⟩:=ZdE I.hok e
 obtain ⟨u,hu,ru⟩:=QY.some_of (v:=v) (o:=mA f) (by rw [← l];exact r f)
 exact get_map I.kIn O (c.get f) c.hd n hu (ZhR ru) (h u _ (I.tok _) ru)
theorem Zgm {m:Str}{g:Addr}{pl:Sem Bool}{Q:Value×List Value→Shared→Prop}(I:Inv X pins σ H s) (e:H a=some (.ins C dx fs)) (c:Cls X.K C) (k:Meth X.K C m g) (l:fs.lookup m=none)
  (h:Q (.ref g,[.ref a]) s):wpAny (model X.prog X.w) A (getMethod (.ref a) m pl) Q E s:=by
 obtain ⟨mA,O,r,_,_,_⟩:=ZdE I.hok e
 have hn:mA m=none:=QY.none_of (by rw [← l];exact r m)
 exact Ziw I.kIn O (c.get m) k.at_ k.fn hn h
theorem Zfx {y:V}{u:Value}{Q:Unit→Shared→Prop}(I:Inv X pins σ H s) (e:H a=some (.ins C dx fs)) (c:Cls X.K C) (n:Zz X.K C f) (hl:fs.length<1000) (ry:RelV y u)
  (h:∀ s',Inv X pins σ (upd H a (.ins C dx (Ym f y fs))) s'→Q () s'):wpAny (model X.prog X.w) A (setAttr (.ref a) f u) Q E s:=by
 obtain ⟨mA,O,r,wi,_,ho⟩:=ZdE I.hok e
 have hz:(fs.map (·.1)).length≤sizeLine:=by rw [List.length_map,sizeLine_eq];lia
 refine ZkE I.kIn O c.sa c.po n.Zni c.hd wi hz fun h' O' sb=>h _ ?_
 have hd:∃ o,h'.get? dx=some o:=let ⟨o,_,_,e',_⟩:=O'.ns;⟨o,e'⟩
 refine I.write (x:=a) (e:=dx) (by rw [e];exact True.intro) (.inr ho) (fun b q hb z=>(sb.2 b hb).trans z) hd ?_
 refine ⟨by rw [Zn O.ne];exact ho,?_,O.ne,O'.obj,_,O'.ns,fun g=>?_,fun g hg=>?_⟩
 ·have:=ZaD f y fs;lia
 ·show QY ((Ym f y fs).lookup g) (if g=f then some u else mA g)
  rw [ZaG]
  by_cases q:g=f
  ·rw [if_pos q,if_pos q];exact ry
  ·rw [if_neg q,if_neg q];exact r g
 ·by_cases q:g=f
  ·rw [q];exact (Zab f y fs).1
  ·refine (Zab f y fs).2 g (wi g fun z=>hg ?_)
   show (if g=f then some u else mA g)=none
   rw [if_neg q];exact z
theorem Inv.made (I:Inv X pins σ H s):Inv X pins σ (upd (upd H s.heap.objs.size (.own (s.heap.objs.size+1))) (s.heap.objs.size+1) (.ins C s.heap.objs.size []))
  { s with heap:=(s.heap.push PySem.W.emptyDict).push (PySem.W.instObj C s.heap.objs.size) }:=by
 have e1:(s.heap.push PySem.W.emptyDict).get? s.heap.objs.size=some PySem.W.emptyDict:=Heap.get?_push_size s.heap rfl
 have e2:((s.heap.push PySem.W.emptyDict).push (PySem.W.instObj C s.heap.objs.size)).get? (s.heap.objs.size+1)=some (PySem.W.instObj C s.heap.objs.size):=by
  have:=Heap.get?_push_size (s.heap.push PySem.W.emptyDict) (o:=PySem.W.instObj C s.heap.objs.size) rfl
  rwa [Heap.size_push] at this
 have e3:(s.heap.push PySem.W.emptyDict).Ns s.heap.objs.size (fun _=>none):=⟨PySem.W.emptyDict,#[],_,e1,rfl,(fun e he=>absurd he (by simp)),fun _=>rfl⟩
 have I1:=I.laid (a:=s.heap.objs.size) (o:=.own (s.heap.objs.size+1)) (h':=s.heap.push PySem.W.emptyDict) (t':=s.toks) (fun b u q=>Heap.get?_push_of_some _ q) (Nat.le_refl _) ⟨_,e1⟩
 refine I1.laid (a:=s.heap.objs.size+1) (o:=.ins C s.heap.objs.size []) (t':=s.toks) (fun b u q=>Heap.get?_push_of_some _ q) (Nat.le_of_eq (Heap.size_push _ _)) ?_
 have ne:s.heap.objs.size≠s.heap.objs.size+1:=Nat.ne_of_lt (Nat.lt_succ_self _)
 refine ⟨by rw [Zn ne,Ze],Nat.zero_le _,ne,e2,fun _=>none,(Heap.Ns1.of_empty e3).at fun o q=>Heap.get?_push_of_some _ q,fun _=>True.intro,fun y hy=>absurd rfl hy⟩
theorem Zky {prog:Program}{w:World}{env:Env}{e:Expr}{f:Str}{pos:Pos}{s:Shared}{Q:Value→Shared→Prop}(hb:attributeBase e f env (eval e env)=eval e env)
  (h:wpAny (model prog w) A (eval e env) (fun o s₁=>wpAny (model prog w) A (getAttr o f true) Q E s₁) E s):wpAny (model prog w) A (eval (.Attribute e f pos) env) Q E s :=
 Attribute_any_ h (by rw [arm_eval_Attribute,hb])
end
def Jv (K:PySem.W.Frag) (ta:TE) (f:Str):TE:=fun σ H Q=>ta σ H fun x H1=>∃ a C dx fs v,x=.ref a∧H1 a=some (.ins C dx fs)∧Cls K C∧Zz K C f∧fs.lookup f=some v∧Q v H1
def ZnW (K:PySem.W.Frag) (ta tv:TE) (f:Str):TS:=fun D σ H=>tv σ H fun y H1=>ta σ H1 fun x H2=>∃ a C dx fs,x=.ref a∧H2 a=some (.ins C dx fs)∧Cls K C∧Zz K C f∧fs.length<1000 ∧
 D.nx σ (upd H2 a (.ins C dx (Ym f y fs)))
section
variable {X:Cx}{o e value:Expr}{f:Str}{pos pos' tpos:Pos}{ta tv:TE}
theorem Zo (he:PE X e ta) (hb:attributeBase e f X.env (eval e X.env)=eval e X.env):PE X (.Attribute e f pos) (Jv X.K ta f):=by
 intro pins s σ H Q I h
 refine Zky hb (thn (he pins s σ H _ I h) fun u s1 ⟨x,H1,I1,rx,a,C,dx,fs,v,ex,ea,c,n,l,q⟩=>?_)
 subst ex
 obtain rfl:u=Value.ref a:=rx
 exact Zgg I1 ea c n l fun u' s2 I2 ru=>⟨v,H1,I2,ru,q⟩
theorem Zy (ha:PE X o ta) (hv:PE X value tv) (hs:swapsWith value (some (.Attribute o f pos')) pos.line X.env=pure false):PS X (.Assign [.Attribute o f pos'] value pos) (ZnW X.K ta tv f):=by
 intro pins s σ H D I h
 refine plainObj_wpAny_Assign_Attribute (thn (hv pins s σ H _ I h) fun u s1 ⟨y,H1,I1,ry,q⟩=>thn (ha pins s1 σ H1 _ I1 q) fun ov s2 ⟨x,H2,I2,rx,a,C,dx,fs,ex,ea,c,n,l,q2⟩=>?_) hs
 subst ex
 obtain rfl:ov=Value.ref a:=rx
 exact Zfx I2 ea c n l ry fun s3 I3=>⟨σ,_,I3,q2⟩
end
end L2
namespace L2
open PySem PySem.Spec PyProof.Rows
structure Yf (k:Nat) (A:Around):Prop where
 hd:A.handled=none
 dp:A.depth+3*k+5<recursionLimit
 un:A.units+16*k+200<cLine
theorem Yf.mono {j k:Nat}{A:Around}(r:Yf k A) (h:j≤k):Yf j A:=⟨r.hd,by have:=r.dp;lia,by have:=r.un;lia⟩
theorem Yf.deeper {k:Nat}{A:Around}(r:Yf (k+1) A) (env:Env):Yf k (A.deeper env) :=
 ⟨r.hd,by have:=r.dp;show A.depth+1+3*k+5<_;lia,by have:=r.un;show A.units+3+16*k+200<_;lia⟩
theorem Zgx {A:Around}{C:Addr}{us:List Value}{kw:List (Str×Value)}:(A.under (.builtin "type.__call__" ⟨.ref C::us,kw⟩)).depth=A.depth+1:=by
 first | rfl | simp [Around.under,Code.weight,Code.isCreation,Code.isGuard,Code.isCaller,Code.frames,Code.isFrame,guardIds]
theorem Zfv {A:Around}{C:Addr}{us:List Value}{kw:List (Str×Value)}:(A.under (.builtin "type.__call__" ⟨.ref C::us,kw⟩)).units=A.units+1:=by
 first | rfl | simp [Around.under,Code.cUnits,Code.frames,Code.isFrame]
theorem Yf.make {k:Nat}{A:Around}(r:Yf (k+1) A) (C:Addr) (us:List Value) (kw:List (Str×Value)):Yf k (A.under (.builtin "type.__call__" ⟨.ref C::us,kw⟩)) :=
 ⟨r.hd,by have:=r.dp;rw [Zgx];lia,by have:=r.un;rw [Zfv];lia⟩
theorem Yf.depth {k:Nat}{A:Around}(r:Yf k A):A.depth<recursionLimit:=by have:=r.dp;lia
theorem Yf.units {k:Nat}{A:Around}(r:Yf k A):A.units+64<cLine:=by have:=r.un;lia
def XW:TA:=fun _ H Q=>Q [] H
def ZV (ta:TE) (tr:TA):TA:=fun σ H Q=>ta σ H fun x H1=>tr σ H1 fun xs H2=>Q (x::xs) H2
section
variable {X:Cx}{e:Expr}{es:List Expr}{te:TE}{t:TA}{pos:Pos}
theorem Zb:PA X [] XW:=fun _ _ _ _ H Q I h=>Calls.spliced_nil ⟨[],H,I,.nil,h⟩
theorem Za (ha:PE X e te) (hr:PA X es t) (hs:starEach (e::es) X.env=(false,eval e X.env)::starEach es X.env:=by rfl):PA X (e::es) (ZV te t):=by
 intro pos pins s σ H Q I h
 rw [hs]
 show wpAny _ _ (spliced ((false,eval e X.env)::backTo pos (starEach es X.env))) _ _ s
 refine Calls.spliced_cons (thn (ha pins s σ H _ I h) fun u s1 ⟨x,H1,I1,r1,q1⟩=>?_)
 exact thn (hr pos pins s1 σ H1 _ I1 q1) fun us s2 ⟨xs,H2,I2,r2,q2⟩=>⟨x::xs,H2,I2,.cons r1 r2,q2⟩
def ZnY (t:TA):TE:=fun σ H Q=>t σ H fun xs H1=>xs.length≤sizeLine∧∀ p,H1 p=none→Q (.ref p) (upd H1 p (.tup xs))
def ZkO (t:TA):TE:=fun σ H Q=>t σ H fun xs H1=>xs.length≤sizeLine∧∀ p,H1 p=none→Q (.ref p) (upd H1 p (.lst xs))
theorem Zgh {x1} (h:PA X es t):PE X (.Tuple es x1 pos) (ZnY t):=by
 intro pins s σ H Q I hq
 refine wpAny_Tuple_spliced (thn (h pos pins s σ H _ I hq) fun us s1 ⟨xs,H1,I1,r,z,q⟩=>⟨by rw [← r.length];exact z,?_⟩)
 have hf:H1 s1.heap.objs.size=none:=I1.hok.fresh (Nat.le_refl _)
 refine ⟨.ref s1.heap.objs.size,upd H1 s1.heap.objs.size (.tup xs),I1.laid (t':=s1.toks) (fun b u e=>Heap.get?_push_of_some _ e) (Nat.le_refl _) ?_,rfl,q _ hf⟩
 exact ⟨z,us,r,⟨_,Heap.get?_push_size _ rfl,rfl,_,rfl⟩⟩
theorem ZL (h:PA X es t):PE X (.List es pos) (ZkO t):=by
 intro pins s σ H Q I hq
 refine wpAny_List_spliced (thn (h pos pins s σ H _ I hq) fun us s1 ⟨xs,H1,I1,r,z,q⟩=>⟨by rw [← r.length];exact z,?_⟩)
 have hf:H1 s1.heap.objs.size=none:=I1.hok.fresh (Nat.le_refl _)
 refine ⟨.ref s1.heap.objs.size,upd H1 s1.heap.objs.size (.lst xs),I1.laid (t':=s1.toks) (fun b u e=>Heap.get?_push_of_some _ e) (Nat.le_refl _) ?_,rfl,q _ hf⟩
 exact ⟨z,us,0,r,Heap.get?_push_size _ rfl⟩
end
abbrev Sp:=List V→Hp→VK→XK→Prop
abbrev CXT:=List Env→Hp→Shared→XK→Value→Shared→Prop
structure ZfG (P:Program) (w:World) (K:PySem.W.Frag) (mg:Str→Option Value) (base:Heap) (A:Around) (outer:List Env) (s:Shared) (H:Hp):Prop where
 frames:A.frames=some outer
 mod:Mod K mg base
 bs:∀ b o,base.get? b=some o→s.heap.get? b=some o∧H b=none
 bsz:base.objs.size≤s.heap.objs.size
 funs:s.heap.FunFrames base outer
 frf:∀ b∈frs outer,H b=none
 hok:HOk P w H s.heap
 bare:AllBare s.gens
def CE (outer:List Env) (P:Program) (w:World) (H:Hp) (s:Shared) (Q:VK) (u:Value) (s':Shared):Prop :=
 ∃ v H',s'.os=s.os∧AllBare s'.gens∧Un (frs outer) [] H H' s.heap s'.heap∧HOk P w H' s'.heap∧RelV v u∧Q v H'
def CR (CX:CXT) (outer:List Env) (P:Program) (w:World) (H:Hp) (s:Shared) (Q:VK) (E:XK) (r:Result) (s':Shared):Prop :=
 match r with
 | .ok (.ret u)=>CE outer P w H s Q u s'
 | .ok _=>False
 | .error e=>CX outer H s E e s'
structure Yi (P:Program) (w:World) (K:PySem.W.Frag) (mg:Str→Option Value) (base:Heap) (CX:CXT) (k:Nat) (f:Addr) (fd:FuncData) (ps:List Str) (sp:Sp):Prop where
 len:∀ vs H Q E,sp vs H Q E→vs.length=ps.length
 run:∀ (A:Around) (outer:List Env) (s:Shared) (H:Hp) (args:Args) (us:List Value) (vs:List V) (Q:VK) (E:XK),Yf k A→ZfG P w K mg base A outer s H→BindsTo s fd args (ps.zip us)→Vals vs us→sp vs H Q E →
  codeAny (model P w) A (.call (.ref f) args) (CR CX outer P w H s Q E) s
theorem Yi.mono {P:Program}{w:World}{K:PySem.W.Frag}{mg:Str→Option Value}{base:Heap}{CX:CXT}{j k:Nat}{f:Addr}{fd:FuncData}{ps:List Str}{sp:Sp}(F:Yi P w K mg base CX j f fd ps sp) (h:j≤k) :
  Yi P w K mg base CX k f fd ps sp:=⟨F.len,fun A outer s H args us vs Q E hr=>F.run A outer s H args us vs Q E (hr.mono h)⟩
theorem ZfG.make {P:Program}{w:World}{K:PySem.W.Frag}{mg:Str→Option Value}{base:Heap}{A:Around}{outer:List Env}{s:Shared}{H:Hp}(e:ZfG P w K mg base A outer s H) (C:Addr) (us:List Value) (kw:List (Str×Value)) :
  ZfG P w K mg base (A.under (.builtin "type.__call__" ⟨.ref C::us,kw⟩)) outer s H:=⟨by first | exact e.frames | (simpa [Around.under,Code.envs,Code.isFrame,pushEnvs] using e.frames),e.mod,e.bs,e.bsz,e.funs,e.frf,e.hok,e.bare⟩
section
variable {X:Cx}{pins:List (Addr×Obj)}{σ:St}{H:Hp}{s s':Shared}
theorem Inv.env0 (I:Inv X pins σ H s):ZfG X.prog X.w X.K X.mg X.base X.A X.stack s H :=
 ⟨I.ok.frames,I.ok.mod,I.bs,Nat.le_trans I.ok.bsz I.sz,I.stack,I.ZaW,I.hok,I.bare⟩
theorem Inv.after {Q:VK}{u:Value}(I:Inv X pins σ H s) (h:CE X.stack X.prog X.w H s Q u s'):EP X pins σ Q u s':=by
 obtain ⟨v,H',os,bare,un,hok,r,q⟩:=h
 obtain ⟨hh,g,d,t,os'⟩:=s'
 obtain rfl:os'=s.os:=os
 exact ⟨v,H',I.call (h':=hh) (g':=g) (d':=d) (t':=t) (ch:=[]) un hok bare (fun b z=>absurd z (by simp)),r,q⟩
end
def JJ (sp:Sp) (dvs:List V) (E:XK) (t:TA):TE:=fun σ H Q=>t σ H fun vs H1=>sp (vs++dvs) H1 Q E
def Zju (C:Addr) (m:Str) (sp:Sp) (dvs:List V) (E:XK) (ta:TE) (t:TA):TE:=fun σ H Q=>ta σ H fun x H1=>∃ a dx fs,x=.ref a∧H1 a=some (.ins C dx fs)∧fs.lookup m=none ∧
 t σ H1 fun vs H2=>sp (x::(vs++dvs)) H2 Q E
def ZcK (C:Addr) (sp:Sp) (dvs:List V) (E:XK) (t:TA):TE:=fun σ H Q=>t σ H fun vs H1=>∀ x dx,H1 x=none→H1 dx=none→dx≠x →
 sp (.ref x::(vs++dvs)) (upd (upd H1 dx (.own x)) x (.ins C dx [])) (fun v H2=>v=.non∧Q (.ref x) H2) E
def Binds (K:PySem.W.Frag) (fd:FuncData) (ps:List Str) (ds:List Value):Prop :=
 ∀ (s:Shared) (us:List Value),K.In s.heap→(us++ds).length=ps.length→BindsTo s fd ⟨us,[]⟩ (ps.zip (us++ds))
theorem Binds.all {K:PySem.W.Frag}{fd:FuncData}{ps:List Str}(h:∀ us:List Value,us.length=ps.length→bindArgs fd ⟨us,[]⟩=pure (ps.zip us)):Binds K fd ps []:=fun s us _ hl=>by
 rw [List.append_nil] at hl ⊢
 exact .of_eq (h us hl)
def Passes (CX:CXT) (X:Cx) (E:XK):Prop:=∀ (pins:List (Addr×Obj)) (σ:St) (H:Hp) (s:Shared) (e:Value) (s':Shared),Inv X pins σ H s→CX X.stack H s E e s'→X.xe e s'
section
variable {X:Cx}{CX:CXT}{k:Nat}{f C:Addr}{fd:FuncData}{ps:List Str}{sp:Sp}{dvs:List V}{ds:List Value}{E:XK}{x m:Str}{p pos apos:Pos}{e o:Expr}{es:List Expr}{ta:TE}{t:TA}
theorem ZfZ {pins:List (Addr×Obj)}{σ:St}{H:Hp}{s:Shared}{Q:VK}{us:List Value}{vs:List V}(F:Yi X.prog X.w X.K X.mg X.base CX k f fd ps sp) (hr:Yf k X.A) (hb:Binds X.K fd ps ds) (hd:Vals dvs ds) (hx:Passes CX X E)
  (I:Inv X pins σ H s) (r:Vals vs us) (h:sp (vs++dvs) H Q E):wpAny (model X.prog X.w) X.A (call (.ref f) us) (EP X pins σ Q) X.xe s:=by
 have r2:Vals (vs++dvs) (us++ds):=r.append hd
 have hl:(us++ds).length=ps.length:=by rw [← r2.length];exact F.len _ _ _ _ h
 refine wpAny_call (codeAny_mono (F.run X.A X.stack s H ⟨us,[]⟩ (us++ds) (vs++dvs) Q E hr I.env0 (hb s us I.kIn hl) r2 h) fun r s' hq=>?_)
 cases r with
 | error e=>exact hx pins σ H s e s' I hq
 | ok fl =>
  cases fl with
  | ret u=>exact I.after hq
  | next=>exact False.elim hq
  | brk=>exact False.elim hq
  | cont=>exact False.elim hq
theorem ZkZ (F:Yi X.prog X.w X.K X.mg X.base CX k f fd ps sp) (hr:Yf k X.A) (hg:Gl X x) (hm:X.mg x=some (.ref f)) (hk:PySem.W.keepIn X.K (.ref f)=true) (hb:Binds X.K fd ps ds) (hd:Vals dvs ds) (hx:Passes CX X E)
  (ha:PA X (e::es) t) (hdb:(x==("__debug__":Str))=false:=by decide) (he:starEach (e::es) X.env=(false,eval e X.env)::starEach es X.env:=by rfl) (hpl:(backTo pos (starEach es X.env)).any (·.1)=false:=by rfl) :
  PE X (.Call (.Name x p) (e::es) [] pos) (JJ sp dvs E t):=by
 intro pins s σ H Q I h
 refine wpAny_Call_Name_kw (XZ I hg hm ?_ hdb)
 refine PySem.W.callWith_K (h₀:=X.base) I.ok.mod.kin hk (thn (ha pos pins s σ H _ I h) fun us s1 ⟨vs,H1,I1,r,q⟩=>⟨I1.kIn,?_⟩) he hpl
 exact ZfZ F hr hb hd hx I1 r q
theorem Zkx {pl:Sem Bool}(he:PE X o ta) (c:Cls X.K C) (hm:Meth X.K C m f) (F:Yi X.prog X.w X.K X.mg X.base CX k f fd ps sp) (hr:Yf k X.A) (hb:Binds X.K fd ps ds) (hd:Vals dvs ds) (hx:Passes CX X E) (ha:PA X (e::es) t)
  (hst:starEach (e::es) X.env=(false,eval e X.env)::starEach es X.env:=by rfl) (hpl:(backTo pos (starEach es X.env)).any (·.1)=false:=by rfl)
  (ht:eval (.Call (.Attribute o m apos) (e::es) [] pos) X.env=(do
   let ov ← eval o X.env
   standAt apos.atName
   let (f,first) ← holding [ov] (getMethod ov m pl)
   callWith pos f first (backTo pos (starEach (e::es) X.env)) (backToKw pos (keywordEach [] X.env))):=by rfl) :
  PE X (.Call (.Attribute o m apos) (e::es) [] pos) (Zju C m sp dvs E ta t):=by
 intro pins s σ H Q I h
 refine PySem.W.methodCall_KW (pl:=pl) (thn (he pins s σ H _ I h) fun u s1 ⟨x,H1,I1,rx,a,dx,fs,ex,ea,l,q⟩=>?_) ht
 subst ex
 obtain rfl:u=Value.ref a:=rx
 refine Zgm I1 ea c hm l ?_
 refine PySem.W.callWith_K (first:=[.ref a]) (h₀:=X.base) I.ok.mod.kin hm.kp (thn (ha pos pins s1 σ H1 _ I1 q) fun us s2 ⟨vs,H2,I2,r,q2⟩=>⟨I2.kIn,?_⟩) hst hpl
 exact ZfZ (us:=.ref a::us) (vs:=.ref a::vs) F hr hb hd hx I2 (.cons rfl r) q2
structure Mk (K:PySem.W.Frag) (C f:Addr):Prop where
 makes:PySem.W.makesIn K C=true
 init:PySem.W.findIn K (.ref C) "__init__"=some (some (.ref f))
 fn:PySem.W.isFn K (.ref f)=true
 kp:PySem.W.keepIn K (.ref C)=true
theorem Zfb {pins:List (Addr×Obj)}{σ:St}{H:Hp}{s:Shared}{Q:VK}{us:List Value}{vs:List V}(M:Mk X.K C f) (F:Yi X.prog X.w X.K X.mg X.base CX k f fd ps sp) (hr:Yf (k+1) X.A) (hb:Binds X.K fd ps ds) (hd:Vals dvs ds)
  (hx:Passes CX X E) (I:Inv X pins σ H s) (r:Vals vs us)
  (h:∀ x dx,H x=none→H dx=none→dx≠x→sp (.ref x::(vs++dvs)) (upd (upd H dx (.own x)) x (.ins C dx [])) (fun v H2=>v=.non∧Q (.ref x) H2) E) :
  wpAny (model X.prog X.w) X.A (call (.ref C) us) (EP X pins σ Q) X.xe s:=by
 have hq:=h (s.heap.objs.size+1) s.heap.objs.size (I.hok.fresh (Nat.le_succ _)) (I.hok.fresh (Nat.le_refl _)) (Nat.ne_of_lt (Nat.lt_succ_self _))
 have I2:=Inv.made (C:=C) I
 have r2:Vals (V.ref (s.heap.objs.size+1)::(vs++dvs)) (Value.ref (s.heap.objs.size+1)::(us++ds)):=.cons rfl (r.append hd)
 have hl:(Value.ref (s.heap.objs.size+1)::us++ds).length=ps.length:=by
  have e:=r2.length
  rw [F.len _ _ _ _ hq] at e
  exact e.symm
 refine wpAny_call (Zjh (f:=f) I.kIn M.makes M.init (beq_iff_eq.mp M.fn) (codeAny_mono (F.run _ X.stack _ _ ⟨Value.ref (s.heap.objs.size+1)::us,[]⟩ (Value.ref (s.heap.objs.size+1)::(us++ds)) _ _ E (hr.make C us [])
  (I2.env0.make C us []) (hb _ (Value.ref (s.heap.objs.size+1)::us) I2.kIn hl) r2 hq) fun r s' hq'=>?_))
 cases r with
 | error e=>exact hx pins σ _ _ e s' I2 hq'
 | ok fl =>
  cases fl with
  | ret u =>
   obtain ⟨v,H',I3,rv,ev,q3⟩:=I2.after hq'
   subst ev
   exact ⟨rv,⟨V.ref (s.heap.objs.size+1),H',I3,rfl,q3⟩⟩
  | next=>exact False.elim hq'
  | brk=>exact False.elim hq'
  | cont=>exact False.elim hq'
theorem ZkR (M:Mk X.K C f) (F:Yi X.prog X.w X.K X.mg X.base CX k f fd ps sp) (hr:Yf (k+1) X.A) (hg:Gl X x) (hm:X.mg x=some (.ref C)) (hb:Binds X.K fd ps ds) (hd:Vals dvs ds) (hx:Passes CX X E)
  (ha:PA X (e::es) t) (hdb:(x==("__debug__":Str))=false:=by decide) (he:starEach (e::es) X.env=(false,eval e X.env)::starEach es X.env:=by rfl) (hpl:(backTo pos (starEach es X.env)).any (·.1)=false:=by rfl) :
  PE X (.Call (.Name x p) (e::es) [] pos) (ZcK C sp dvs E t):=by
 intro pins s σ H Q I h
 refine wpAny_Call_Name_kw (XZ I hg hm ?_ hdb)
 refine PySem.W.callWith_K (h₀:=X.base) I.ok.mod.kin M.kp (thn (ha pos pins s σ H _ I h) fun us s1 ⟨vs,H1,I1,r,q⟩=>⟨I1.kIn,?_⟩) he hpl
 exact Zfb M F hr hb hd hx I1 r q
theorem ZiV (M:Mk X.K C f) (F:Yi X.prog X.w X.K X.mg X.base CX k f fd ps sp) (hr:Yf (k+1) X.A) (hg:Gl X x) (hm:X.mg x=some (.ref C)) (hb:Binds X.K fd ps ds) (hd:Vals dvs ds) (hx:Passes CX X E)
  (hdb:(x==("__debug__":Str))=false:=by decide):PE X (.Call (.Name x p) [] [] pos) (ZcK C sp dvs E XW):=by
 intro pins s σ H Q I h
 refine wpAny_Call_Name_kw (XZ I hg hm ?_ hdb)
 exact PySem.W.callWith_K0 I.kIn M.kp (Zfb (us:=[]) M F hr hb hd hx I .nil h)
end
structure ZW (N P:List Str) (sc:Scope):Prop where
 kind:sc.kind=.function
 co:sc.isCoroutine=false
 gen:sc.isGenerator=false
 nd:N.Nodup
 pre:N.take P.length=P
 par:∀ x∈P,sc.names.lookup x=some .local∨sc.names.lookup x=some .cell
 nofree:∀ y∈sc.names,y.2≠.free
theorem Zda {kindOf:Str→Option NameKind}{x:Str}:∀ {binds:List (Str×Value)}{m:Str→Option Value},(∀ v,(x,v)∉binds)→bindL kindOf binds m x=m x
 | [],_,_=>rfl
 | (n,v)::r,m,h=>by
  unfold bindL
  rw [Zda fun w hw=>h w (List.mem_cons_of_mem _ hw)]
  split
  ·have:x≠n:=by rintro rfl;exact h v List.mem_cons_self
   simp [this]
  ·rfl
theorem ZcU {kindOf:Str→Option NameKind}{x:Str}:∀ {binds:List (Str×Value)}{m:Str→Option Value},(∀ v,(x,v)∉binds)→bindC kindOf binds m x=m x
 | [],_,_=>rfl
 | (n,v)::r,m,h=>by
  unfold bindC
  rw [ZcU fun w hw=>h w (List.mem_cons_of_mem _ hw)]
  split
  ·rfl
  ·have:x≠n:=by rintro rfl;exact h v List.mem_cons_self
   simp [this]
theorem ZcL {kindOf:Str→Option NameKind}{x:Str}{v:Value}:∀ {P:List Str}{vs:List Value}{i:Nat}{m:Str→Option Value},P.Nodup→P[i]?=some x→vs[i]?=some v→kindOf x=some .local →
  bindL kindOf (P.zip vs) m x=some v
 | [],_,_,_,_,h,_,_=>by simp at h
 | _::_,[],_,_,_,_,h,_=>by simp at h
 | p::P,w::vs,0,m,nd,h1,h2,hk=>by
  simp at h1 h2;subst h1;subst h2
  show bindL kindOf ((p,w)::P.zip vs) m p=_
  unfold bindL
  rw [Zda fun v hv=>(List.nodup_cons.mp nd).1 (List.of_mem_zip hv).1,if_pos hk]
  simp
 | p::P,w::vs,i+1,m,nd,h1,h2,hk=>by
  show bindL kindOf ((p,w)::P.zip vs) m x=_
  unfold bindL
  exact ZcL (i:=i) (List.nodup_cons.mp nd).2 (by simpa using h1) (by simpa using h2) hk
theorem Zde {kindOf:Str→Option NameKind}{x:Str}{v:Value}:∀ {P:List Str}{vs:List Value}{i:Nat}{m:Str→Option Value},P.Nodup→P[i]?=some x→vs[i]?=some v→kindOf x≠some .local →
  bindC kindOf (P.zip vs) m x=some v
 | [],_,_,_,_,h,_,_=>by simp at h
 | _::_,[],_,_,_,_,h,_=>by simp at h
 | p::P,w::vs,0,m,nd,h1,h2,hk=>by
  simp at h1 h2;subst h1;subst h2
  show bindC kindOf ((p,w)::P.zip vs) m p=_
  unfold bindC
  rw [ZcU fun v hv=>(List.nodup_cons.mp nd).1 (List.of_mem_zip hv).1,if_neg hk]
  simp
 | p::P,w::vs,i+1,m,nd,h1,h2,hk=>by
  show bindC kindOf ((p,w)::P.zip vs) m x=_
  unfold bindC
  exact Zde (i:=i) (List.nodup_cons.mp nd).2 (by simpa using h1) (by simpa using h2) hk
def start (N:List Str) (vs:List V):St:=vs.map some++List.replicate (N.length-vs.length) none
def Ja (CX:CXT) (P:Program) (w:World) (K:PySem.W.Frag) (mg:Str→Option Value) (base:Heap) (N:List Str) (qual:Str) (scope:Scope) (f:Addr) (cd:Value) (A:Around) (outer:List Env) (s:Shared) (H:Hp) (E:XK):Cx where
 prog:=P
 w:=w
 K:=K
 mg:=mg
 base:=base
 A:=A.deeper (envOfC qual scope s.heap.objs.size f cd)
 N:=N
 s_0:=s
 H_0:=H
 env:=envOfC qual scope s.heap.objs.size f cd
 outer:=outer
 stack:=envOfC qual scope s.heap.objs.size f cd::outer
 ex:=[]
 calm:=true
 fn:=fun _=>true
 pn:=[]
 xe:=fun e s'=>wpAny (model P w) (A.deeper (envOfC qual scope s.heap.objs.size f cd)) (leaving (envOfC qual scope s.heap.objs.size f cd) e) (fun _ s''=>CX outer H s E e s'') (fun e' s''=>CX outer H s E e' s'') s'
theorem ZeY {sc:Scope}{n:Nat}{x:Str}(h:sc.names.lookup x=some .cell):∃ c,(cellsFrom n sc.names []).lookup x=some c:=by
 have q:=PySem.W.cellsFrom_some sc.names n [] (.inl h)
 exact Option.isSome_iff_exists.mp q
theorem ZhV {CX:CXT}{P:Program}{w:World}{K:PySem.W.Frag}{mg:Str→Option Value}{base:Heap}{N ps:List Str}{qual:Str}{scope:Scope}{f:Addr}{cd:Value}{A:Around}{outer:List Env}{s s1:Shared}{H:Hp}{E:XK}{us:List Value}{vs:List V}
  (S:ZW N ps scope) (hd:A.handled=none) (e0:ZfG P w K mg base A outer s H) (hl:vs.length=ps.length) (r:Vals vs us)
  (x:InCallC s s.heap.objs.size (bindL (envOfC qual scope s.heap.objs.size f cd).kindOf (ps.zip us) fun _=>none) (cellsFrom (s.heap.objs.size+1) scope.names []) (bindC (envOfC qual scope s.heap.objs.size f cd).kindOf (ps.zip us) fun _=>none) s1) :
  Inv (Ja CX P w K mg base N qual scope f cd A outer s H E) [] (start N vs) H s1:=by
 have hpl:ps.length≤N.length:=by have:=congrArg List.length S.pre;rw [List.length_take] at this;lia
 obtain ⟨h1,tk,rfl,hk⟩:=x.done
 have noA:∀ b:Addr,b∉(Ja CX P w K mg base N qual scope f cd A outer s H E).ex:=fun b z=>absurd (show b∈([]:List Addr) from z) (by simp)
 refine ⟨⟨e0.mod,S.kind,rfl,rfl,Nat.le_refl _,fun y z c h1 h2=>?_,fun y hy=>?_,fun y c _ h=>?_,fun _=>hd,Around.frames_deeper e0.frames,.inr ⟨rfl,rfl⟩,fun b z=>absurd z (noA b),e0.bs,e0.bsz,fun b _ _=>noA b,fun b z=>absurd z (noA b),e0.funs,e0.frf⟩,
  rfl,e0.bare,Un.kept hk,⟨_,x.toInCall.ns,fun i y v h1 h2 h3=>?_⟩,fun y c h=>⟨_,x.cell y c h⟩,e0.hok.fresh (Nat.le_refl _),fun y c h=>?_,fun p hp=>absurd (show p∈([]:List (Addr×Obj)) from hp) (by simp),e0.hok.kept hk,?_⟩
 ·exact name_of_addr x.apart (PySem.mem_of_lookup h1) (PySem.mem_of_lookup h2)
 ·have hy:scope.names.lookup y=some .cell∨scope.names.lookup y=some .free:=hy
  rcases hy with hy | hy
  ·exact ZeY hy
  ·exact absurd rfl (S.nofree _ (PySem.mem_of_lookup hy))
 ·exact Nat.le_of_lt (x.above y c (PySem.mem_of_lookup h))
 ·have hi:i<vs.length:=by
   unfold start at h2
   by_cases hi:i<vs.length
   ·exact hi
   ·rw [List.getElem?_append_right (by simpa using hi)] at h2
    rw [List.getElem?_replicate] at h2
    split at h2 <;> cases h2
  have ha:vs[i]?=some v:=by
   unfold start at h2
   rw [List.getElem?_append_left (by simpa using hi),List.getElem?_map] at h2
   cases e:vs[i]? with
   | none=>rw [e] at h2;cases h2
   | some a=>rw [e] at h2;cases h2;rfl
  obtain ⟨u,hu,rv⟩:=r.get ha
  have hp:ps[i]?=some y:=by
   rw [← S.pre,List.getElem?_take_of_lt (by lia)];exact h1
  have ndP:ps.Nodup:=by rw [← S.pre];exact S.nd.sublist (List.take_sublist _ _)
  refine ⟨u,rv,?_⟩
  rcases S.par y (List.mem_of_getElem? hp) with k | k
  ·exact .inl ⟨k,ZcL ndP hp hu k⟩
  ·obtain ⟨c,e⟩:=ZeY (n:=s.heap.objs.size+1) k
   refine .inr ⟨.inl k,c,e,?_⟩
   have q:=x.cell y c e
   rw [Zde ndP hp hu (by show scope.names.lookup y≠_;rw [k];decide)] at q
   exact q
 ·exact e0.hok.fresh (Nat.le_of_lt (x.above y c (PySem.mem_of_lookup h)))
 ·unfold start
  show _=N.length
  rw [List.length_append,List.length_map,List.length_replicate]
  lia
theorem Zlx {CX:CXT}{P:Program}{w:World}{K:PySem.W.Frag}{mg:Str→Option Value}{base:Heap}{k:Nat}{f:Addr}{name qual:Str}{params:Arguments}{body:List Stmt}{scope:Scope}{dV kV doc pm cdv ct oc:Value}{an od:Option Addr}
  {osl:Array (Option Value)}{N ps:List Str}{sp:Sp}(lk:K.lookup f=some ⟨oc,od,.func (PySem.W.fnOf name qual params body scope dV kV doc pm an cdv ct),osl⟩) (hcd:PySem.W.codeIn K cdv qual=true) (S:ZW N ps scope)
  (len:∀ vs H Q E,sp vs H Q E→vs.length=ps.length)
  (hbody:∀ (A:Around) (outer:List Env) (s:Shared) (H:Hp) (vs:List V) (Q:VK) (E:XK),Yf k (A.deeper (envOfC qual scope s.heap.objs.size f cdv))→sp vs H Q E →
   ∃ t,PSs (Ja CX P w K mg base N qual scope f cdv A outer s H E) body t∧t { nx:=fun _ H'=>Q .non H',rt:=Q } (start N vs) H) :
  Yi P w K mg base CX (k+1) f (PySem.W.fnOf name qual params body scope dV kV doc pm an cdv ct) ps sp:=by
 refine ⟨len,fun A outer s H args us vs Q E hr e0 hb r hsp=>?_⟩
 have hl:=len _ _ _ _ hsp
 have KX:K.In s.heap:=e0.mod.kin.keeps fun b o e=>(e0.bs b o e).1
 have lim:s.heap.NoLimit:=e0.mod.nolimit.keeps fun b o e=>(e0.bs b o e).1
 have hkind:∀ y∈ps.zip us,scope.names.lookup y.1=some .local∨(scope.names.lookup y.1=some .cell∧((cellsFrom (s.heap.objs.size+1) scope.names []).lookup y.1).isSome=true):=fun ⟨n,v⟩ hy=>by
  rcases S.par n (List.of_mem_zip hy).1 with q | q
  ·exact .inl q
  ·exact .inr ⟨q,PySem.W.cellsFrom_some _ _ _ (.inl q)⟩
 refine codeAny_call_function hr.depth (KX _ _ lk) rfl S.co S.gen rfl (PySem.W.codeRec_of KX hcd) (hb _ _ _ _ ?_)
 refine wpAny_newFunctionEnv_cells S.kind hkind fun env he s1 x=>?_
 subst he
 refine ⟨lim.keeps x.toInCall.keep,codeAny_func ?_⟩
 obtain ⟨t,ht,hq⟩:=hbody A outer s H vs Q E (hr.deeper _) hsp
 have I:Inv (Ja CX P w K mg base N qual scope f cdv A outer s H E) [] (start N vs) H s1:=ZhV S hr.hd e0 hl r x
 refine wpAny_mono (ht [] s1 (start N vs) H _ I hq) (fun fl s' hs=>?_) fun e s' hs=>hs
 have fin:∀ {σ':St}{H':Hp}{v:V}{u:Value},Inv (Ja CX P w K mg base N qual scope f cdv A outer s H E) [] σ' H' s'→RelV v u→Q v H'→CE outer P w H s Q u s' :=
  fun {σ' H' v u} J rv q=>⟨v,H',J.os,J.bare,J.base,J.hok,rv,q⟩
 cases fl with
 | ret u =>
  obtain ⟨v,σ',H',J,rv,q⟩:=hs
  exact fin J rv q
 | next =>
  obtain ⟨σ',H',J,q⟩:=hs
  exact fin (v:=V.non) (u:=Value.none) J rfl q
 | brk =>
  obtain ⟨_,_,_,q⟩:=hs
  exact False.elim q
 | cont =>
  obtain ⟨_,_,_,q⟩:=hs
  exact False.elim q
end L2
namespace L2
open PySem PySem.Spec PyProof.Rows
section
variable {X:Cx}{x:Str}{p pos:Pos}{e:Expr}{es:List Expr}{t:TA}{id T:String}{r:List V→Hp→VK→Prop}
def tCB (r:List V→Hp→VK→Prop) (t:TA):TE:=fun σ H Q=>t σ H fun vs H1=>r vs H1 Q
theorem ZP (hc:XA X (.builtin id) r) (hg:Gl X x) (hm:X.mg x=none) (hv:bootBuiltins x=some (.builtin id)) (ha:PA X (e::es) t) (hn:x≠"__name__":=by decide) (hdb:(x==("__debug__":Str))=false:=by decide)
  (he:starEach (e::es) X.env=(false,eval e X.env)::starEach es X.env:=by rfl) (hpl:(backTo pos (starEach es X.env)).any (·.1)=false:=by rfl):PE X (.Call (.Name x p) (e::es) [] pos) (tCB r t):=by
 intro pins s σ H Q I h
 refine wpAny_Call_Name_kw (QN I hg hm hv ?_ hn hdb)
 exact PyProof.Rows.callWith_builtin1 (thn (ha pos pins s σ H _ I h) fun us s1 ⟨vs,H1,I1,r1,q1⟩=>hc pins s1 σ H1 vs us Q I1 r1 q1) he hpl
theorem QV (hc:XA X (.type T) r) (hg:Gl X x) (hm:X.mg x=none) (hv:bootBuiltins x=some (.type T)) (ha:PA X (e::es) t) (hn:x≠"__name__":=by decide) (hdb:(x==("__debug__":Str))=false:=by decide)
  (he:starEach (e::es) X.env=(false,eval e X.env)::starEach es X.env:=by rfl) (hpl:(backTo pos (starEach es X.env)).any (·.1)=false:=by rfl):PE X (.Call (.Name x p) (e::es) [] pos) (tCB r t):=by
 intro pins s σ H Q I h
 refine wpAny_Call_Name_kw (QN I hg hm hv ?_ hn hdb)
 exact PyProof.Rows.callWith_type1 (thn (ha pos pins s σ H _ I h) fun us s1 ⟨vs,H1,I1,r1,q1⟩=>hc pins s1 σ H1 vs us Q I1 r1 q1) he hpl
end
end L2
namespace HT
open PySem PyProof.Rows
section
variable {prog:Program}{w:World}{A:Around}{E:Value→Shared→Prop}{s:Shared}
theorem Zld {t b:Addr}{vs ws:List Value}{Q:Value→Shared→Prop}(ht:IsTup s.heap t vs.toArray) (hb:IsTup s.heap b ws.toArray) (hv:vs≠[])
  (h1:ws=[]→Q (.ref t) s) (h2:ws≠[]→Q (.ref s.heap.objs.size) { s with heap:=s.heap.push { cls:=.type "tuple",data:=.seq (vs++ws).toArray } })
  (hsz:vs.length+ws.length≤sizeLine):wpAny (model prog w) A (binaryOp .Add (.ref t) (.ref b)) Q E s:=by
 obtain ⟨⟨cls,dd,data,sl⟩,ho,hc,n,hd⟩:=id ht
 obtain ⟨⟨cls2,dd2,data2,sl2⟩,ho2,hc2,n2,hd2⟩:=id hb
 simp only at hc hd hc2 hd2
 subst hc hd hc2 hd2
 have e:vs.toArray++ws.toArray=(vs++ws).toArray:=by simp
 by_cases hw:ws=[]
 ·exact concat_meets ⟨_,ho,rfl⟩ ⟨_,ho2,rfl⟩ noFill_tuple_add seq_tuple_add PySem.F.slot_tuple_add PySem.F.entry_tuple_add (PySem.F.args_tuple_add_2 _ _)
   (tuple_addW1 t b vs.toArray ws.toArray n n2 dd dd2 sl sl2 (by simpa using hv) (by simp [hw])) ⟨ho,ho2,h1 hw⟩
 ·refine concat_meets ⟨_,ho,rfl⟩ ⟨_,ho2,rfl⟩ noFill_tuple_add seq_tuple_add PySem.F.slot_tuple_add PySem.F.entry_tuple_add (PySem.F.args_tuple_add_2 _ _)
   (tuple_addW2 t b vs.toArray ws.toArray n n2 dd dd2 sl sl2 (by simpa using hv) (by simpa using hw) (by rw [List.size_toArray,List.size_toArray];exact hsz)) ⟨ho,ho2,?_⟩
  rw [e]
  exact h2 hw
def sIx (n d:Nat):Option Int→Nat
 | none=>d
 | some v=>if v<0 then (v+(n:Int)).toNat else min v.toNat n
theorem ZeN (n d:Nat):sIx n d none=d:=rfl
theorem Zec (n d k:Nat):sIx n d (some (k:Int))=min k n:=by
 show (if (k:Int)<0 then ((k:Int)+(n:Int)).toNat else min (k:Int).toNat n)=min k n
 rw [if_neg (by lia),Int.toNat_natCast]
theorem Zmy (n d:Nat) (hd:d≤n) (o:Option Int):sIx n d o≤n:=by
 cases o with
 | none=>exact hd
 | some v =>
  show (if v<0 then (v+(n:Int)).toNat else min v.toNat n)≤n
  by_cases hv:v<0
  ·rw [if_pos hv];lia
  ·rw [if_neg hv];exact Nat.min_le_right _ _
theorem ZgN (v:Int) (n d:Nat):(if v<0 then max (v+(n:Int)) 0 else min v (n:Int))=((sIx n d (some v):Nat):Int):=by
 show (if v<0 then max (v+(n:Int)) 0 else min v (n:Int))=(((if v<0 then (v+(n:Int)).toNat else min v.toNat n):Nat):Int)
 by_cases hv:v<0
 ·simp only [if_pos hv];lia
 ·simp only [if_neg hv];lia
theorem Zgs (lo hi:Option Int) (n:Nat):Builtin.Slice.sliceAdjust lo hi 1 (n:Int)=(((sIx n 0 lo:Nat):Int),((sIx n n hi:Nat):Int)):=by
 have h1:¬ ((1:Int)<0):=by lia
 unfold Builtin.Slice.sliceAdjust
 simp only [h1,if_false]
 refine Prod.ext ?_ ?_
 ·cases lo with
  | none=>rfl
  | some v=>exact ZgN v n 0
 ·cases hi with
  | none=>rfl
  | some v=>exact ZgN v n n
theorem Zgd (i j:Nat):Builtin.Slice.slicePlaces (i:Int) (j:Int) 1=j-i:=by
 unfold Builtin.Slice.slicePlaces
 have h1:(1:Int)>0:=by lia
 simp only [h1,if_true,Int.ediv_one]
 split <;> lia
theorem ZbE {v:Value}{o:Option Int}{Q:Option Int→Shared→Prop}(p:IsPart v o) (h:Q o s):wpAny (model prog w) A (Builtin.Slice.slicePartIndex v) Q E s:=by
 cases p with
 | none=>exact slicePart_none h
 | int i t=>exact slicePart_int h
theorem Zan {sl:Addr}{vl vu:Value}{lo hi:Option Int}{n:Nat}{Q:Int×Int×Nat→Shared→Prop}(hs:s.heap.IsSliceOf sl vl vu .none) (pl:IsPart vl lo) (pu:IsPart vu hi)
  (h:Q (((sIx n 0 lo:Nat):Int),1,sIx n n hi-sIx n 0 lo) s):wpAny (model prog w) A (Builtin.Slice.sliceApplied (.ref sl) (pure (n:Int))) Q E s:=by
 obtain ⟨os,hos,hcs,hds⟩:=id hs
 unfold Builtin.Slice.sliceApplied Builtin.Slice.sliceFields
 refine wpAny_bind (wpAny_bind (wpAny_field hos hds (x:=vl) rfl (wpAny_bind (wpAny_field hos hds (x:=vu) rfl (wpAny_bind (wpAny_field hos hds (x:=.none) rfl (wpAny_pure ?_)))))))
 refine wpAny_bind (slicePart_none ?_)
 show wpAny _ _ (if ((1:Int)==0)=true then _ else _) _ _ s
 rw [if_neg (by decide)]
 refine wpAny_bind (ZbE pl (wpAny_bind (ZbE pu (wpAny_bind (wpAny_pure ?_)))))
 show wpAny _ _ (match Builtin.Slice.sliceAdjust lo hi 1 (n:Int) with | (lo,hi)=>pure (lo,(1:Int),Builtin.Slice.slicePlaces lo hi 1)) _ _ s
 rw [Zgs lo hi n]
 show wpAny _ _ (pure (((sIx n 0 lo:Nat):Int),(1:Int),Builtin.Slice.slicePlaces ((sIx n 0 lo:Nat):Int) ((sIx n n hi:Nat):Int) 1)) _ _ s
 rw [Zgd]
 exact wpAny_pure h
theorem Zki (xs:Array Value) (i k:Nat):((List.range k).filterMap fun (m:Nat)=>xs[((i:Int)+(m:Int)*1).toNat]?).toArray=((xs.toList.drop i).take k).toArray:=by
 have e:(fun (m:Nat)=>xs[((i:Int)+(m:Int)*1).toNat]?)=fun m=>xs[i+m]?:=by
  funext m
  have:((i:Int)+(m:Int)*1).toNat=i+m:=by lia
  rw [this]
 rw [e]
 have:=pick_run xs i k
 rw [List.filterMap_map] at this
 have e2:((fun x=>xs[x]?)∘fun x=>i+x)=fun m=>xs[i+m]?:=rfl
 rw [e2] at this
 rw [this]
theorem JY {t sl:Addr}{items:Array Value}{vl vu:Value}{lo hi:Option Int}{Q:Value→Shared→Prop}(ht:IsTup s.heap t items) (hs:s.heap.IsSliceOf sl vl vu .none) (pl:IsPart vl lo) (pu:IsPart vu hi)
  (hw:¬ (sIx items.size 0 lo=0∧sIx items.size items.size hi=items.size))
  (h:Q (.ref s.heap.objs.size) { s with heap:=s.heap.push { cls:=.type "tuple",data:=.seq ((items.toList.drop (sIx items.size 0 lo)).take (sIx items.size items.size hi-sIx items.size 0 lo)).toArray } })
  (hsz:items.size≤sizeLine):wpAny (model prog w) A (getItem (.ref t) (.ref sl)) Q E s:=by
 have htake:sizeOk (.seq ((items.toList.drop (sIx items.size 0 lo)).take (sIx items.size items.size hi-sIx items.size 0 lo)).toArray):=by
  show ((items.toList.drop (sIx items.size 0 lo)).take (sIx items.size items.size hi-sIx items.size 0 lo)).toArray.size≤sizeLine
  rw [List.size_toArray,List.length_take,List.length_drop,Array.length_toList]
  lia
 have hj:sIx items.size items.size hi≤items.size:=Zmy _ _ (Nat.le_refl _) hi
 obtain ⟨os,hos,hcs,hds⟩:=id hs
 have hTs:s.TypeIs (.ref sl) "slice":=⟨os,hos,hcs⟩
 unfold getItem
 try with_reducible refine wpAny_holding ?_
 first | refine wpAny_bind (wpAny_pure ?_) | skip
 refine wpAny_bind (wpAny_sequenceKey ht.typeIs (by decide) ?_)
 refine wpAny_bind (wpAny_callSpecial?_slot (name:=Str.ofString "__getitem__") ht.typeIs PyProof.Rows.slot_tuple_getitem
  (wpAny_call_entry PyProof.Rows.slot_tuple_getitem ht.typeIs entry_tuple_getitem ?_ (args_tuple_getitem _ _)))
 show wpAny _ _ (Builtin.Tuple.tupleItemsOf (.ref t) >>= _) _ _ s
 refine wpAny_bind (tupleItemsOf_ ht ?_)
 refine wpAny_bind (wpAny_typeOf hTs ?_)
 rw [if_pos (by decide)]
 refine wpAny_bind (Zan hs pl pu ?_)
 have hno:¬ ((((sIx items.size 0 lo:Nat):Int)==0&&(1:Int)==1&&(sIx items.size items.size hi-sIx items.size 0 lo)==items.size)=true):=by
  intro q
  rw [Bool.and_eq_true,Bool.and_eq_true] at q
  have q1:((sIx items.size 0 lo:Nat):Int)=0:=eq_of_beq q.1.1
  have q2:sIx items.size items.size hi-sIx items.size 0 lo=items.size:=eq_of_beq q.2
  exact hw ⟨by lia,by lia⟩
 show wpAny _ _ (if (((sIx items.size 0 lo:Nat):Int)==0&&(1:Int)==1&&(sIx items.size items.size hi-sIx items.size 0 lo)==items.size)=true then _ else _) _ _ s
 rw [if_neg hno,Zki]
 first
  | exact wpAny_bind (m:=Builtin.Tuple.tupleExact _) (wpAny_newObj_type (wpAny_pure ⟨_,rfl,wpAny_pure h⟩) htake)
  | exact wpAny_bind (m:=Builtin.Tuple.tupleExact _) (wpAny_newObj_type (wpAny_bind (wpAny_pure (wpAny_pure ⟨_,rfl,wpAny_pure h⟩))) htake)
  | exact wpAny_bind (wpAny_bind (m:=Builtin.Tuple.tupleExact _) (wpAny_newObj_type (wpAny_pure (wpAny_pure ⟨_,rfl,wpAny_pure h⟩)) htake))
  | exact wpAny_bind (wpAny_bind (m:=Builtin.Tuple.tupleExact _) (wpAny_newObj_type (wpAny_pure ⟨_,rfl,wpAny_pure h⟩) htake))
end
end HT
namespace L2
open PySem PySem.Spec PyProof.Rows
abbrev TO:=St→Hp→(Option Int→Hp→Prop)→Prop
def PO (X:Cx) (e:Option Expr) (t:TO):Prop :=
 ∀ (pins:List (Addr×Obj)) (s:Shared) (σ:St) (H:Hp) (Q:Option Int→Hp→Prop),Inv X pins σ H s→t σ H Q →
  wpAny (model X.prog X.w) X.A (evalPart e X.env) (fun u s'=>∃ o H',Inv X pins σ H' s'∧IsPart u o∧Q o H') X.xe s
def Zlc:TO:=fun _ H Q=>Q none H
def ZjE (t:TE):TO:=fun σ H Q=>t σ H fun x H1=>∃ i,x=.int i∧Q (some i) H1
section
variable {X:Cx}{e:Expr}{te:TE}{lo hi:Option Expr}{tl th:TO}{pos p2:Pos}
theorem Xp:PO X none Zlc:=by
 intro pins s σ H Q I h
 rw [evalPart_none]
 exact wpAny_pure ⟨none,H,I,.none,h⟩
theorem ZG (h:PE X e te):PO X (some e) (ZjE te):=by
 intro pins s σ H Q I hw
 rw [evalPart_some]
 refine thn (h pins s σ H _ I hw) fun u s1 ⟨x,H1,I1,r1,q1⟩=>?_
 obtain ⟨i,rfl,q⟩:=q1
 obtain ⟨t,rfl⟩:=r1
 exact ⟨some i,H1,I1,.int i t,q⟩
def SlR (X:Cx) (r:V→Option Int→Option Int→Hp→VK→Prop):Prop :=
 ∀ (pins:List (Addr×Obj)) (s:Shared) (σ:St) (H:Hp) (x:V) (v vl vu:Value) (lo hi:Option Int) (sl:Addr) (Q:VK),Inv X pins σ H s→RelV x v→s.heap.IsSliceOf sl vl vu .none→IsPart vl lo→IsPart vu hi→r x lo hi H Q →
  ∃ T id,typeLookup (.type T) "__getitem__"=pure (some (.builtin id))∧s.TypeIs v T∧wpAny (model X.prog X.w) X.A (getItem v (.ref sl)) (EP X pins σ Q) X.xe s
def tSl (r:V→Option Int→Option Int→Hp→VK→Prop) (te:TE) (tl th:TO):TE:=fun σ H Q=>te σ H fun x H1=>tl σ H1 fun l H2=>th σ H2 fun u H3=>r x l u H3 Q
theorem ZT {r:V→Option Int→Option Int→Hp→VK→Prop}(hr:SlR X r) (he:PE X e te) (hl:PO X lo tl) (hu:PO X hi th):PE X (.Subscript e (.Slice lo hi none p2) pos) (tSl r te tl th):=by
 intro pins s σ H Q I h
 refine Subscript_ (thn (he pins s σ H _ I h) fun v s1 ⟨x,H1,I1,r1,q1⟩=>?_)
 refine wpAny_Slice (thn (hl pins s1 σ H1 _ I1 q1) fun vl s2 ⟨l,H2,I2,pl,q2⟩=>thn (hu pins s2 σ H2 _ I2 q2) fun vu s3 ⟨u,H3,I3,pu,q3⟩=>?_)
 rw [evalPart_none]
 refine wpAny_pure ?_
 have I4:Inv X pins σ H3 { s3 with heap:=s3.heap.push { cls:=.type "slice",data:=.fields #[vl,vu,.none] } }:=I3.kept (t':=s3.toks) fun b ob q=>Heap.get?_push_of_some _ q
 obtain ⟨T,id,hT,ht,hg⟩:=hr pins { s3 with heap:=s3.heap.push { cls:=.type "slice",data:=.fields #[vl,vu,.none] } } σ H3 x v vl vu l u s3.heap.objs.size Q I4 r1 (Heap.IsSliceOf.new ..) pl pu q3
 show wpAny (model X.prog X.w) X.A (subscriptTail e (.Slice lo hi none p2) v (.ref s3.heap.objs.size)) (EP X pins σ Q) X.xe { s3 with heap:=s3.heap.push { cls:=.type "slice",data:=.fields #[vl,vu,.none] } }
 exact tail_any (ops:=[.ref s3.heap.objs.size,v]) ht hT hg (by with_unfolding_all rfl)
def YV (xs:List V) (lo hi:Option Int):List V:=(xs.drop (HT.sIx xs.length 0 lo)).take (HT.sIx xs.length xs.length hi-HT.sIx xs.length 0 lo)
theorem ZaC (xs:List V) (lo hi:Option Int):(YV xs lo hi).length≤xs.length:=by
 unfold YV
 rw [List.length_take,List.length_drop]
 lia
def ZkP (K:PySem.W.Frag):V→Option Int→Option Int→Hp→VK→Prop:=fun x lo hi H Q=>∃ a xs,x=.ref a∧SqT K H a xs ∧
 ¬ (HT.sIx xs.length 0 lo=0∧HT.sIx xs.length xs.length hi=xs.length)∧∀ p,H p=none→Q (.ref p) (upd H p (.tup (YV xs lo hi)))
theorem ZlP:SlR X (ZkP X.K):=by
 intro pins s σ H x v vl vu lo hi sl Q I rx hs pl pu h
 obtain ⟨a,xs,rfl,hx,hw,q⟩:=h
 cases rx
 obtain ⟨its,r,ht,hz⟩:=I.tuple hx
 have hlen:its.toArray.size=xs.length:=by rw [List.size_toArray];exact r.length.symm
 refine ⟨"tuple",_,PyProof.Rows.slot_tuple_getitem.lookup,ht.typeIs,?_⟩
 refine HT.JY ht hs pl pu (by rw [hlen];exact hw) ?_ (by rw [hlen];exact hz)
 rw [hlen]
 refine ⟨.ref s.heap.objs.size,_,I.laid (t':=s.toks) (o:=.tup (YV xs lo hi)) (fun b ob q=>Heap.get?_push_of_some _ q) (Nat.le_refl _) ?_,rfl,q _ (I.hok.fresh (Nat.le_refl _))⟩
 exact ⟨Nat.le_trans (ZaC xs lo hi) hz,_,(r.drop (HT.sIx xs.length 0 lo)).take (HT.sIx xs.length xs.length hi-HT.sIx xs.length 0 lo),IsTup.new _ _⟩
def Zjg (K:PySem.W.Frag):R2:=fun x y H Q=>∃ a b xs ys,x=.ref a∧y=.ref b∧SqT K H a xs∧SqT K H b ys∧xs≠[]∧xs.length+ys.length≤sizeLine ∧
 (ys=[]→Q (.ref a) H)∧(ys≠[]→∀ p,H p=none→Q (.ref p) (upd H p (.tup (xs++ys))))
theorem Vals.Zdz {xs:List V}{us:List Value}(r:Vals xs us):us=[]↔xs=[]:=by
 cases r with
 | nil=>simp
 | cons _ _=>simp
theorem Zlk:OpR X (binaryOp .Add) (Zjg X.K):=by
 intro pins s σ H x y v u Q I rx ry h
 obtain ⟨a,b,xs,ys,rfl,rfl,ha,hb,hx,hz,q1,q2⟩:=h
 cases rx
 cases ry
 obtain ⟨its,r1,p1,_⟩:=I.tuple ha
 obtain ⟨its2,r2,p2,_⟩:=I.tuple hb
 refine HT.Zld p1 p2 (fun z=>hx (r1.Zdz.mp z)) (fun z=>⟨.ref a,H,I,rfl,q1 (r2.Zdz.mp z)⟩) (fun z=>?_) (by rw [← r1.length,← r2.length];exact hz)
 refine ⟨.ref s.heap.objs.size,_,I.laid (t':=s.toks) (o:=.tup (xs++ys)) (fun b ob q=>Heap.get?_push_of_some _ q) (Nat.le_refl _) ?_,rfl,q2 (fun w=>z (r2.Zdz.mpr w)) _ (I.hok.fresh (Nat.le_refl _))⟩
 exact ⟨by rw [List.length_append];exact hz,_,r1.append r2,IsTup.new _ _⟩
end
end L2
namespace L2
open PySem PySem.Spec PyProof.Rows
def ixN (n:Nat) (i:Int):Option Nat:=if 0≤i then (if i<n then some i.toNat else none) else if -(n:Int)≤i then some (i+n).toNat else none
def atI {α:Type}(xs:List α) (i:Int):Option α:=(ixN xs.length i).bind fun j=>xs[j]?
theorem ZgT {n:Nat}{i:Int}{j:Nat}(h:ixN n i=some j):seqIndex? i n=some j∧j<n∧-(n:Int)≤i∧i<n:=by
 unfold ixN at h
 by_cases h0:0≤i
 ·rw [if_pos h0] at h
  by_cases h1:i<n
  ·rw [if_pos h1] at h
   have e:i.toNat=j:=Option.some.inj h
   exact ⟨by rw [seqIndex_of h0 h1,e],by lia,by lia,h1⟩
  ·rw [if_neg h1] at h;cases h
 ·rw [if_neg h0] at h
  by_cases h1 : -(n:Int)≤i
  ·rw [if_pos h1] at h
   have e:(i+n).toNat=j:=Option.some.inj h
   exact ⟨by rw [seqIndex_neg (by lia) h1,e],by lia,h1,by lia⟩
  ·rw [if_neg h1] at h;cases h
theorem Zho {α:Type}{xs:List α}{i:Int}{v:α}(h:atI xs i=some v):∃ j,seqIndex? i xs.length=some j∧xs[j]?=some v∧j<xs.length∧-(xs.length:Int)≤i∧i<xs.length:=by
 unfold atI at h
 cases e:ixN xs.length i with
 | none=>rw [e] at h;cases h
 | some j =>
  rw [e] at h
  obtain ⟨h1,h2,h3,h4⟩:=ZgT e
  exact ⟨j,h1,h,h2,h3,h4⟩
theorem ZdF {α:Type}{xs:List α}{j:Nat}{v:α}(h:xs[j]?=some v):atI xs (j:Int)=some v:=by
 have hj:j<xs.length:=(List.getElem?_eq_some_iff.mp h).1
 have e:ixN xs.length (j:Int)=some j:=by
  unfold ixN
  rw [if_pos (by lia),if_pos (by lia)];simp
 unfold atI;rw [e];exact h
def Zli (b:Expr):Prop:=∀ o i,subscripted b false o i=operate [o,i] (getItem o i)
def IxR (X:Cx) (r:R2):Prop :=
 ∀ (value slice:Expr) (pins:List (Addr×Obj)) (s:Shared) (σ:St) (H:Hp) (x y:V) (v u:Value) (Q:VK),Inv X pins σ H s→RelV x v→RelV y u→r x y H Q →
  subscripted slice false v u=operate [v,u] (getItem v u)→wpAny (model X.prog X.w) X.A (subscriptTail value slice v u) (EP X pins σ Q) X.xe s
def MtR (X:Cx) (id:String) (r:V→List V→Hp→VK→Prop):Prop :=
 ∀ (pins:List (Addr×Obj)) (s:Shared) (σ:St) (H:Hp) (x:V) (xs:List V) (v:Value) (us:List Value) (Q:VK),Inv X pins σ H s→RelV x v→Vals xs us→r x xs H Q →
  wpAny (model X.prog X.w) X.A (call (.builtin id) (v::us)) (EP X pins σ Q) X.xe s
section
variable {X:Cx}{a b:Expr}{ta tb:TE}{pos:Pos}
theorem Zt {r:R2}(hr:IxR X r) (ha:PE X a ta) (hb:PE X b tb) (hs:Zli b):PE X (.Subscript a b pos) (tOp r ta tb):=by
 intro pins s σ H Q I h
 exact Subscript_ (Zma ha hb I h fun v u s2 x y H2 I2 rx ry q=>hr a b pins s2 σ H2 x y v u Q I2 rx ry q (hs _ _))
def ZE (K:PySem.W.Frag):R2:=fun x y H Q=>∃ p xs i v,x=.ref p∧y=.int i∧SqL K H p xs∧atI xs i=some v∧Q v H
def YU (K:PySem.W.Frag):R2:=fun x y H Q=>∃ p xs i v,x=.ref p∧y=.int i∧SqT K H p xs∧atI xs i=some v∧Q v H
theorem ZkI:IxR X (ZE X.K):=by
 intro value slice pins s σ H x y v u Q I rx ry h hs
 obtain ⟨p,xs,i,z,rfl,rfl,hq,he,q⟩:=h
 cases rx
 obtain ⟨t,rfl⟩:=ry
 obtain ⟨its,r,pl,hz⟩:=I.list hq
 obtain ⟨j,h1,h2,h3,h4,h5⟩:=Zho he
 obtain ⟨w,ew,rw'⟩:=r.get h2
 have hl:=r.length
 have hn:=Zea
 have fin:EP X pins σ Q w s:=⟨z,H,I,rw',q⟩
 by_cases h0:0≤i
 ·have hj:i.toNat=j:=by
   rw [seqIndex_of h0 h5] at h1
   exact Option.some.inj h1
  exact item_listR pl.isList h0 (by lia) (by rw [hj];simpa using ew) fin hs
 ·have hj:(i+(its.toArray.size:Int)).toNat=j:=by
   rw [seqIndex_neg (by lia) h4] at h1
   rw [List.size_toArray,← hl]
   exact Option.some.inj h1
  exact subscriptTail_builtinR (x:=w) pl.isList.typeIs slot_list_getitem.lookup
   (wpAny_getItem_list_neg (Q:=fun r s'=>r=w∧EP X pins σ Q r s') pl.isList (by lia) (by rw [List.size_toArray] <;> lia) (by lia) (by rw [hj];simpa using ew) ⟨rfl,fin⟩) hs
theorem Zmg:IxR X (YU X.K):=by
 intro value slice pins s σ H x y v u Q I rx ry h hs
 obtain ⟨p,xs,i,z,rfl,rfl,hq,he,q⟩:=h
 cases rx
 obtain ⟨t,rfl⟩:=ry
 obtain ⟨its,r,pl,hz⟩:=I.tuple hq
 obtain ⟨j,h1,h2,h3,h4,h5⟩:=Zho he
 obtain ⟨w,ew,rw'⟩:=r.get h2
 have hl:=r.length
 have hn:=Zea
 have fin:EP X pins σ Q w s:=⟨z,H,I,rw',q⟩
 exact subscriptTail_builtinR (x:=w) pl.typeIs slot_tuple_getitem.lookup
  (getItem_tuple (j:=j) (Q:=fun r s'=>r=w∧EP X pins σ Q r s') pl (by lia) (by lia) (by rw [List.size_toArray,← hl];exact h1) (by simpa using ew) ⟨rfl,fin⟩) hs
theorem Zgc (its:List Value) (n j:Nat) (u:Value):Obj.mapSeq (·.setIfInBounds j u) { cls:=.type "list",data:=.seq its.toArray n }={ cls:=.type "list",data:=.seq (its.set j u).toArray n }:=by
 simp [Obj.mapSeq]
theorem Inv.lst {pins:List (Addr×Obj)}{σ:St}{H:Hp}{s:Shared}{p:Addr}{xs:List V}(I:Inv X pins σ H s) (h:H p=some (.lst xs)) :
  ∃ (its:List Value) (n:Nat),Vals xs its∧s.heap.get? p=some { cls:=.type "list",data:=.seq its.toArray n }∧xs.length≤sizeLine:=by
 obtain ⟨z,its,n,r,e⟩:=I.hok p _ h
 exact ⟨its,n,r,e,z⟩
theorem Inv.ZmI {pins:List (Addr×Obj)}{σ:St}{H:Hp}{s:Shared}{p:Addr}{xs ys:List V}{its its':List Value}{n n':Nat}{f:Obj→Obj}(I:Inv X pins σ H s) (h:H p=some (.lst xs))
  (ho:s.heap.get? p=some { cls:=.type "list",data:=.seq its.toArray n }) (hf:f { cls:=.type "list",data:=.seq its.toArray n }={ cls:=.type "list",data:=.seq its'.toArray n' }) (r:Vals ys its') (hz:ys.length≤sizeLine) (t:Nat) :
  Inv X pins σ (upd H p (.lst ys)) { s with heap:=s.heap.update p f,toks:=t }:=by
 have e:(s.heap.update p f).get? p=some { cls:=.type "list",data:=.seq its'.toArray n' }:=by
  rw [Heap.get?_update_self f ho (by rw [hf] <;> rfl),hf]
 refine I.write (x:=p) (e:=p) (by rw [h];trivial) (.inl rfl) (fun b u hb q=>(Heap.get?_update_other _ _ (Ne.symm hb)).trans q) ⟨_,e⟩ ?_
 exact ⟨hz,its',n',r,e⟩
def ZgD:V→V→V→Hp→(Hp→Prop)→Prop:=fun o i v H Q=>∃ p xs k j,o=.ref p∧i=.int k∧H p=some (.lst xs)∧ixN xs.length k=some j∧Q (upd H p (.lst (xs.set j v)))
theorem set_list:Znn X ZgD:=by
 intro pins s σ H o i v ov iv u Q I ro ri rv h
 obtain ⟨p,xs,k,j,rfl,rfl,hp,hj,q⟩:=h
 cases ro
 obtain ⟨t,rfl⟩:=ri
 obtain ⟨its,n,r,ho,hz⟩:=I.lst hp
 obtain ⟨h1,h2,h3,h4⟩:=ZgT hj
 have hl:=r.length
 have hn:=Zea
 have I':Inv X pins σ (upd H p (.lst (xs.set j v))) { s with heap:=s.heap.update p (Obj.mapSeq (·.setIfInBounds j u)) } :=
  I.ZmI hp ho (Zgc its n j u) (r.set rv j) (by rw [List.length_set];exact hz) s.toks
 by_cases h0:0≤k
 ·have hk:k.toNat=j:=by
   rw [seqIndex_of h0 h4] at h1
   exact Option.some.inj h1
  exact PySem.W.ki_setAt ho h0 (by lia) (by rw [List.size_toArray,← hl];exact h4) (by rw [hk];exact ⟨_,I',q⟩)
 ·have hk:(k+(its.toArray.size:Int)).toNat=j:=by
   rw [seqIndex_neg (by lia) h3] at h1
   rw [List.size_toArray,← hl]
   exact Option.some.inj h1
  exact PySem.W.ki_setBack ho (by lia) (by rw [List.size_toArray,← hl];exact h3) (by lia) (by rw [hk];exact ⟨_,I',q⟩)
theorem Zed (lo hi:Option Int) (n:Nat):(sliceBounds lo hi none n).1=((HT.sIx n 0 lo:Nat):Int)∧(sliceBounds lo hi none n).2.1=((HT.sIx n n hi:Nat):Int)∧(sliceBounds lo hi none n).2.2=1:=by
 refine ⟨?_,?_,rfl⟩
 ·cases lo with
  | none=>simp [sliceBounds,HT.sIx]
  | some i =>
   simp only [sliceBounds,HT.sIx,Option.getD_none,show (1:Int)>0 by decide,if_true]
   by_cases h:i<0
   ·simp only [h,if_true] <;> lia
   ·simp only [h,if_false] <;> lia
 ·cases hi with
  | none=>simp [sliceBounds,HT.sIx]
  | some i =>
   simp only [sliceBounds,HT.sIx,Option.getD_none,show (1:Int)>0 by decide,if_true]
   by_cases h:i<0
   ·simp only [h,if_true] <;> lia
   ·simp only [h,if_false] <;> lia
theorem ZcE (its:List Value) (lo hi:Option Int):slicePick its.toArray lo hi none=((its.drop (HT.sIx its.length 0 lo)).take (HT.sIx its.length its.length hi-HT.sIx its.length 0 lo)).toArray:=by
 obtain ⟨h1,h2,h3⟩:=Zed lo hi its.toArray.size
 unfold slicePick
 rw [h1,h2,h3]
 simp only [sliceRange_one,pick_run,List.size_toArray] <;> rfl
def Qj (K:PySem.W.Frag):V→Option Int→Option Int→Hp→VK→Prop:=fun x lo hi H Q=>∃ a xs,x=.ref a∧SqL K H a xs∧∀ p,H p=none→Q (.ref p) (upd H p (.lst (YV xs lo hi)))
theorem ZkS:SlR X (Qj X.K):=by
 intro pins s σ H x v vl vu lo hi sl Q I rx hs pl pu h
 obtain ⟨a,xs,rfl,hx,q⟩:=h
 cases rx
 obtain ⟨its,r,ht,hz⟩:=I.list hx
 have hlen:=r.length
 refine ⟨"list",_,slot_list_getitem.lookup,ht.isList.typeIs,?_⟩
 refine wpAny_getItem_list_slice ht.isList hs pl pu .none (by simp) ?_ (by rw [List.size_toArray] <;> lia)
 rw [ZcE,← hlen]
 refine ⟨.ref s.heap.objs.size,_,I.laid (t':=s.toks) (o:=.lst (YV xs lo hi)) (fun b ob q=>Heap.get?_push_of_some _ q) (Nat.le_refl _) ?_,rfl,q _ (I.hok.fresh (Nat.le_refl _))⟩
 exact ⟨Nat.le_trans (ZaC xs lo hi) hz,_,0,(r.drop (HT.sIx xs.length 0 lo)).take (HT.sIx xs.length xs.length hi-HT.sIx xs.length 0 lo),Heap.get?_push_size _ rfl⟩
theorem ZdX:XA X (.builtin "len") (fun xs H Q=>∃ p ys,xs=[.ref p]∧(SqL X.K H p ys∨SqT X.K H p ys)∧Q (.int ys.length) H):=by
 intro pins s σ H xs us Q I r h
 obtain ⟨p,ys,rfl,hq,q⟩:=h
 obtain ⟨u,rfl,rx⟩:=vals1 r
 cases rx
 have hn:=Zea
 rcases hq with hq | hq
 ·obtain ⟨its,r',pl,hz⟩:=I.list hq
  have hlen:=r'.length
  exact Calls.call_len_list pl.isList (by simp only [List.size_toArray] <;> lia) ⟨.int ys.length,H,I.tok _,⟨s.toks+1,by rw [List.size_toArray,hlen]⟩,q⟩
 ·obtain ⟨its,r',pl,hz⟩:=I.tuple hq
  have hlen:=r'.length
  exact len_tuple pl (by simp only [List.size_toArray] <;> lia) ⟨.int ys.length,H,I.tok _,⟨s.toks+1,by rw [List.size_toArray,hlen]⟩,q⟩
theorem Zem:XA X (.type "list") (fun xs H Q=>∃ p ys,xs=[.ref p]∧(SqL X.K H p ys∨SqT X.K H p ys)∧∀ l,H l=none→Q (.ref l) (upd H l (.lst ys))):=by
 intro pins s σ H xs us Q I r h
 obtain ⟨p,ys,rfl,hq,q⟩:=h
 obtain ⟨u,rfl,rx⟩:=vals1 r
 cases rx
 have fin:∀ (its:List Value),Vals ys its→ys.length≤sizeLine→∀ (h':Heap) (c':Nat),(∀ b o',s.heap.get? b=some o'→h'.get? b=some o') →
   h'.get? s.heap.objs.size=some { cls:=.type "list",dict:=none,data:=.seq its.toArray c',slots:=#[] }→EP X pins σ Q (.ref s.heap.objs.size) { s with heap:=h' }:=fun its r' hz h' c' kp e =>
  ⟨.ref s.heap.objs.size,_,I.laid (t':=s.toks) kp (Nat.le_refl _) (show Yb X.prog X.w _ h' _ (.lst ys) from ⟨hz,its,c',r',e⟩),rfl,q _ (I.hok.fresh (Nat.le_refl _))⟩
 rcases hq with hq | hq
 ·obtain ⟨its,r',pl,hz⟩:=I.list hq
  have hlen:=r'.length
  obtain ⟨o,ho,hc,n,hd⟩:=pl.isList
  exact call_list_seq p (.inl rfl) ho hc hd (fun h' c' kp e=>fin its r' hz h' c' kp e) (by simp only [List.size_toArray] <;> lia)
 ·obtain ⟨its,r',pl,hz⟩:=I.tuple hq
  have hlen:=r'.length
  obtain ⟨o,ho,hc,n,hd⟩:=pl
  exact call_list_seq p (.inr rfl) ho hc hd (fun h' c' kp e=>fin its r' hz h' c' kp e) (by simp only [List.size_toArray] <;> lia)
theorem ZcC:XA X (.type "tuple") (fun xs H Q=>∃ p ys,xs=[.ref p]∧((SqL X.K H p ys∧∀ l,H l=none→Q (.ref l) (upd H l (.tup ys)))∨(SqT X.K H p ys∧Q (.ref p) H))):=by
 intro pins s σ H xs us Q I r h
 obtain ⟨p,ys,rfl,h⟩:=h
 obtain ⟨u,rfl,rx⟩:=vals1 r
 cases rx
 rcases h with ⟨hq,q⟩ | ⟨hq,q⟩
 ·obtain ⟨its,r',pl,hz⟩:=I.list hq
  have hlen:=r'.length
  refine call_tuple_list pl.isList (fun h' kp=>?_) (by simp only [List.size_toArray] <;> lia)
  have I1:Inv X pins σ H { s with heap:=h' }:=I.kept (t':=s.toks) kp
  have I2:Inv X pins σ (upd H h'.objs.size (.tup ys)) { s with heap:=h'.push { cls:=.type "tuple",data:=.seq its.toArray } } :=
   I1.laid (t':=s.toks) (fun b o e=>Heap.get?_push_of_some _ e) (Nat.le_refl _) (show Yb X.prog X.w _ _ _ (.tup ys) from ⟨hz,its,r',IsTup.new _ _⟩)
  exact ⟨.ref h'.objs.size,_,I2,rfl,q _ (I1.hok.fresh (Nat.le_refl _))⟩
 ·obtain ⟨its,r',pl,hz⟩:=I.tuple hq
  exact call_tuple_same pl ⟨.ref p,H,I,rfl,q⟩
def tyV (K:PySem.W.Frag) (T:String) (x:V) (H:Hp):Prop:=match x with
 | .str _=>T="str"
 | .int _=>T="int"
 | .ref p=>(T="list"∧∃ xs,SqL K H p xs)∨(T="tuple"∧∃ o,K.lookup p=some o∧o.cls=.type "tuple"∧o.dict=none) ∨
   (T="dict"∧((∃ kvs,H p=some (.dK kvs))∨∃ kvs,H p=some (.dT kvs)))∨(T="set"∧∃ S n,H p=some (.set S n))
 | _=>False
theorem ZjI {pins:List (Addr×Obj)}{σ:St}{H:Hp}{s:Shared}{T:String}{x:V}{v:Value}(I:Inv X pins σ H s) (r:RelV x v) (ty:tyV X.K T x H) :
  s.TypeIs v T∧∀ a,v=.ref a→∃ ob,s.heap.get? a=some ob∧ob.dict=none:=by
 cases x with
 | str z =>
  obtain ⟨t,rfl⟩:=r
  cases (show T="str" from ty)
  exact ⟨typeIs_str s z t,fun _ e=>nomatch e⟩
 | int i =>
  obtain ⟨t,rfl⟩:=r
  cases (show T="int" from ty)
  exact ⟨typeIs_int s i t,fun _ e=>nomatch e⟩
 | ref p =>
  cases r
  rcases ty with ⟨rfl,xs,hq⟩ | ⟨rfl,o,hk,hc,hd⟩ | ⟨rfl,hk⟩ | ⟨rfl,S,n,hk⟩
  ·obtain ⟨its,_,pl,_⟩:=I.list hq
   refine ⟨pl.isList.typeIs,fun a e=>?_⟩
   cases e
   obtain ⟨o,n,e,c,hd,_⟩:=pl
   exact ⟨o,e,hd⟩
  ·refine ⟨⟨o,I.kIn p o hk,hc⟩,fun a e=>?_⟩
   cases e
   exact ⟨o,I.kIn _ o hk,hd⟩
  ·have z:∃ o,s.heap.get? p=some o∧o.ExactDict:=by
    rcases hk with ⟨kvs,hk⟩ | ⟨kvs,hk⟩
    ·obtain ⟨_,_,_,_,o,_,_,e,ex,_⟩:=I.hok p _ hk
     exact ⟨o,e,ex⟩
    ·obtain ⟨_,_,_,_,o,_,_,e,ex,_⟩:=I.hok p _ hk
     exact ⟨o,e,ex⟩
   obtain ⟨o,e,ex⟩:=z
   refine ⟨⟨o,e,ex.1⟩,fun a e2=>?_⟩
   cases e2
   exact ⟨o,e,ex.2.1⟩
  ·obtain ⟨o,_,_,_,e,ex,_⟩:=I.hok p _ hk
   refine ⟨⟨o,e,ex.1⟩,fun a e2=>?_⟩
   cases e2
   exact ⟨o,e,ex.2.1⟩
 | _=>exact False.elim ty
def ZnJ (K:PySem.W.Frag) (T:String) (r:V→List V→Hp→VK→Prop) (to:TE):TE:=fun σ H Q=>to σ H fun x H1=>tyV K T x H1∧r x [] H1 Q
def tBM (K:PySem.W.Frag) (T:String) (r:V→List V→Hp→VK→Prop) (to:TE) (t:TA):TE:=fun σ H Q=>to σ H fun x H1=>tyV K T x H1∧t σ H1 fun xs H2=>r x xs H2 Q
variable {o e:Expr}{es:List Expr}{to:TE}{t:TA}{name:Str}{apos cpos:Pos}{T id:String}{r:V→List V→Hp→VK→Prop}
theorem Zbi (pa:PlainAttrs T) (slot:Slot T name id) (hty:typeOf (.builtin id)=pure (.type "method_descriptor")) (hm:MtR X id r) (ho:PE X o to)
  (hbase:attributeBase o name X.env (eval o X.env)=eval o X.env:=by rfl) (hline:(apos.endLine==cpos.line)=true:=by rfl):PE X (.Call (.Attribute o name apos) [] [] cpos) (ZnJ X.K T r to):=by
 intro pins s σ H Q I h
 refine wpAny_Call_method0_late hbase hline (thn (ho pins s σ H _ I h) fun v s1 ⟨x,H1,I1,r1,ty,q1⟩=>?_)
 obtain ⟨h1,h2⟩:=ZjI I1 r1 ty
 exact ⟨T,id,pa,slot,hty,h1,h2,Calls.callWith_builtin rfl (PySem.evalArgs_none (hm pins s1 σ H1 x [] v [] Q I1 r1 .nil q1))⟩
theorem Qn (pa:PlainAttrs T) (slot:Slot T name id) (hty:typeOf (.builtin id)=pure (.type "method_descriptor")) (hm:MtR X id r) (ho:PE X o to) (ha:PA X (e::es) t)
  (hbase:attributeBase o name X.env (eval o X.env)=eval o X.env:=by rfl)
  (hfew:((backTo cpos (starEach (e::es) X.env)).all (fun x=>!x.1)&&(backToKw cpos (keywordEach [] X.env)).all (fun x=>x.1.isSome)
   && decide ((e::es).length+([]:List Keyword).length+(if ([]:List Keyword).isEmpty then 0 else 1)<30))=true:=by rfl)
  (hline:(apos.endLine==cpos.line)=true:=by rfl) (hs:starEach (e::es) X.env=(false,eval e X.env)::starEach es X.env:=by rfl) (hplain:(backTo cpos (starEach es X.env)).any (·.1)=false:=by rfl) :
  PE X (.Call (.Attribute o name apos) (e::es) [] cpos) (tBM X.K T r to t):=by
 intro pins s σ H Q I h
 refine wpAny_Call_method_late hbase hfew hline rfl (thn (ho pins s σ H _ I h) fun v s1 ⟨x,H1,I1,r1,ty,q1⟩=>?_)
 obtain ⟨h1,h2⟩:=ZjI I1 r1 ty
 refine ⟨T,id,pa,slot,hty,h1,h2,?_⟩
 have hA:=ha cpos pins s1 σ H1 _ I1 q1
 rw [hs] at hA ⊢
 refine Calls.callWith_builtin (by show (false || (backTo cpos (starEach es X.env)).any (·.1))=false;rw [hplain] <;> rfl) (Calls.evalArgs_plain ?_)
 exact thn hA fun us s2 ⟨vs,H2,I2,r2,q2⟩=>hm pins s2 σ H2 x vs v us Q I2 r1 r2 q2
end
end L2
namespace L2
open PySem PySem.Spec PyProof.Rows
def MtM (X:Cx) (id:String) (r:V→List V→Hp→VK→Prop):Prop :=
 ∀ (pins:List (Addr×Obj)) (s:Shared) (σ:St) (H:Hp) (x:V) (xs:List V) (v:Value) (us:List Value) (Q:VK),Inv X pins σ H s→RelV x v→Vals xs us→r x xs H Q →
  wpAny (model X.prog X.w) X.A (call (.builtin id) (v::us)) (EP X pins σ Q) X.xe s
theorem Vals.one:∀ {x:V}{us:List Value},Vals [x] us→∃ u,us=[u]∧RelV x u
 | _,_,.cons r .nil=>⟨_,rfl,r⟩
theorem Vals.rep {xs:List V}{us:List Value}(h:Vals xs us):∀ k:Nat,Vals (List.replicate k xs).flatten (List.replicate k us).flatten
 | 0=>.nil
 | k+1=>by
  rw [List.replicate_succ,List.replicate_succ,List.flatten_cons,List.flatten_cons]
  exact Vals.append h (Vals.rep h k)
theorem foldl_rep (its:List Value):∀ (k:Nat) (acc:List Value),
  List.foldl (fun x1 x2=>x1++x2) acc.toArray (List.replicate k its.toArray)=(acc++(List.replicate k its).flatten).toArray
 | 0,acc=>by simp
 | k+1,acc=>by
  have e:acc.toArray++its.toArray=(acc++its).toArray:=by simp
  have e2:(acc++its)++(List.replicate k its).flatten=acc++(List.replicate (k+1) its).flatten:=by
   rw [List.replicate_succ,List.flatten_cons,List.append_assoc]
  rw [← e2,← foldl_rep its k (acc++its),← e,List.replicate_succ,List.foldl_cons]
section
variable {X:Cx}{pins:List (Addr×Obj)}{σ:St}{H:Hp}{s:Shared}{l b:Addr}{xs ys zs:List V}
theorem Inv.ZkJ {its its':List Value}{n:Nat}{f:Array Value→Array Value}{t':Nat}(I:Inv X pins σ H s) (hH:H l=some (.lst xs))
  (e:s.heap.get? l=some { cls:=.type "list",data:=.seq its.toArray n }) (hf:f its.toArray=its'.toArray) (hv:Vals ys its') (hz:ys.length≤sizeLine) :
  Inv X pins σ (upd H l (.lst ys)) { s with heap:=s.heap.update l (Obj.mapSeq f),toks:=t' }:=by
 have q:=PySem.IsL.update e f
 rw [hf] at q
 refine I.write (x:=l) (e:=l) (by rw [hH];exact trivial) (.inl rfl) (fun b' u hb hu=>(Heap.get?_update_other s.heap (Obj.mapSeq f) (Ne.symm hb)).trans hu) ⟨_,q⟩ ?_
 exact ⟨hz,its',_,hv,q⟩
theorem Inv.ZmZ {its:List Value}{t':Nat}(I:Inv X pins σ H s) (hv:Vals ys its) (hz:ys.length≤sizeLine) :
  Inv X pins σ (upd H s.heap.objs.size (.lst ys)) { s with heap:=s.heap.push { cls:=.type "list",data:=.seq its.toArray },toks:=t' } :=
 I.laid (fun _ _ q=>Heap.get?_push_of_some _ q) (Nat.le_refl _) ⟨hz,its,0,hv,Heap.get?_push_size _ rfl⟩
theorem Inv.fresh (I:Inv X pins σ H s):H s.heap.objs.size=none:=I.hok.fresh (Nat.le_refl _)
theorem Inv.Zfe (I:Inv X pins σ H s) (hH:H l=some (.lst xs)):xs.length≤sizeLine∧∃ (its:List Value) (n:Nat),Vals xs its∧xs.length=its.length∧s.heap.get? l=some { cls:=.type "list",data:=.seq its.toArray n }:=by
 obtain ⟨z,its,n,r,e⟩:=I.hok l _ hH
 exact ⟨z,its,n,r,r.length,e⟩
theorem JR {n:Nat}(h:n≤sizeLine):Builtin.List.listTooLong n=false:=by
 unfold Builtin.List.listTooLong
 exact decide_eq_false (by lia)
end
section
variable {X:Cx}
def Zle:V→List V→Hp→VK→Prop:=fun x vs H Q=>∃ l xs y,x=.ref l∧vs=[y]∧H l=some (.lst xs)∧xs.length<sizeLine∧Q .non (upd H l (.lst (xs++[y])))
theorem QP:MtM X "list.append" Zle:=by
 intro pins s σ H x vs v us Q I rx rv h
 obtain ⟨l,xs,y,rfl,rfl,hH,hz,q⟩:=h
 cases rx
 obtain ⟨u,rfl,ru⟩:=rv.one
 obtain ⟨z,its,n,r,hl,e⟩:=I.Zfe hH
 refine call_meets F.slot_list_append ⟨_,e,rfl⟩ F.entry_list_append (F.args_list_append_2 _ _) (PySem.list_append l its.toArray n u (by rw [List.size_toArray];lia)) ⟨e,?_⟩
 refine ⟨.non,_,I.ZkJ (its':=its++[u]) hH e (by simp) (r.append (.cons ru .nil)) ?_,rfl,q⟩
 rw [List.length_append,List.length_singleton]
 lia
def ZkV:V→List V→Hp→VK→Prop:=fun x vs H Q=>∃ l b xs zs,x=.ref l∧vs=[.ref b]∧H l=some (.lst xs)∧H b=some (.lst zs)∧xs.length+zs.length≤sizeLine∧Q .non (upd H l (.lst (xs++zs)))
theorem Xy:MtM X "list.extend" ZkV:=by
 intro pins s σ H x vs v us Q I rx rv h
 obtain ⟨l,b,xs,zs,rfl,rfl,hH,hB,hz,q⟩:=h
 cases rx
 obtain ⟨u,rfl,ru⟩:=rv.one
 cases ru
 obtain ⟨z,its,n,r,hl,e⟩:=I.Zfe hH
 obtain ⟨z2,its2,n2,r2,hl2,e2⟩:=I.Zfe hB
 have hsz:its.toArray.size+its2.toArray.size≤sizeLine:=by rw [List.size_toArray,List.size_toArray];lia
 have hlong:¬ (!its.toArray.isEmpty&&Builtin.List.listTooLong (its.toArray.size+its2.toArray.size))=true:=by
  rw [JR hsz,Bool.and_false]
  exact Bool.false_ne_true
 refine call_meets F.slot_list_extend ⟨_,e,rfl⟩ F.entry_list_extend (F.args_list_extend_2 _ _)
  (AutoSeq1.list_extend_list_list_0 l its.toArray n b its2.toArray n2 hlong (by rw [List.size_toArray];lia) (by lia)) ⟨e,e2,?_⟩
 refine ⟨.non,_,I.ZkJ (its':=its++its2) hH e (by simp) (r.append r2) ?_,rfl,q⟩
 rw [List.length_append]
 lia
def ZnS:R2:=fun x y H Q=>∃ l b xs zs,x=.ref l∧y=.ref b∧H l=some (.lst xs)∧H b=some (.lst zs)∧xs.length+zs.length≤sizeLine∧∀ p,H p=none→Q (.ref p) (upd H p (.lst (xs++zs)))
theorem Zah:OpR X (binaryOp .Add) ZnS:=by
 intro pins s σ H x y v u Q I rx ry h
 obtain ⟨l,b,xs,zs,rfl,rfl,hH,hB,hz,q⟩:=h
 cases rx
 cases ry
 obtain ⟨z,its,n,r,hl,e⟩:=I.Zfe hH
 obtain ⟨z2,its2,n2,r2,hl2,e2⟩:=I.Zfe hB
 refine PySem.P.add_list e e2 ?_ (by rw [List.size_toArray,List.size_toArray];lia)
 have ea:its.toArray++its2.toArray=(its++its2).toArray:=by simp
 rw [ea]
 exact ⟨.ref _,_,I.ZmZ (t':=s.toks) (r.append r2) (by rw [List.length_append];lia),rfl,q _ I.fresh⟩
def Zoc:R2:=fun x y H Q=>∃ l k xs,x=.ref l∧y=.int k∧H l=some (.lst xs)∧-(2^63)≤k∧k<2^63∧xs.length*k.toNat≤sizeLine ∧
 ∀ p,H p=none→Q (.ref p) (upd H p (.lst (List.replicate k.toNat xs).flatten))
theorem len_rep {α:Type}(xs:List α) (k:Nat):(List.replicate k xs).flatten.length=k*xs.length:=by
 induction k with
 | zero=>simp
 | succ k ih=>rw [List.replicate_succ,List.flatten_cons,List.length_append,ih,Nat.succ_mul,Nat.add_comm]
theorem Zji:OpR X (binaryOp .Mult) Zoc:=by
 intro pins s σ H x y v u Q I rx ry h
 obtain ⟨l,k,xs,rfl,rfl,hH,h1,h2,hz,q⟩:=h
 cases rx
 obtain ⟨t,rfl⟩:=ry
 obtain ⟨z,its,n,r,hl,e⟩:=I.Zfe hH
 have hlen:its.toArray.size*k.toNat≤sizeLine:=by rw [List.size_toArray,← hl];exact hz
 have hcap:¬ its.toArray.size*k.toNat>(2^63-1) / 8:=by
  have:(sizeLine:Nat)≤(2^63-1) / 8:=by decide
  lia
 have hfit:¬ (!Builtin.List.listFitsIndex k)=true:=by
  rw [fitsIndex_both h1 h2]
  exact Bool.false_ne_true
 have hlong:¬ Builtin.List.listTooLong (its.toArray.size*k.toNat)=true:=by
  rw [JR hlen]
  exact Bool.false_ne_true
 have hnew:List.foldl (fun x1 x2=>x1++x2) #[] (List.replicate (if its.toArray.isEmpty=true then 0 else k.toNat) its.toArray)=(List.replicate k.toNat its).flatten.toArray:=by
  have f0:∀ m:Nat,List.foldl (fun x1 x2=>x1++x2) #[] (List.replicate m its.toArray)=(List.replicate m its).flatten.toArray:=fun m=>by
   have:=foldl_rep its m []
   rw [List.nil_append] at this
   exact this
  rw [f0]
  cases its with
  | nil=>simp
  | cons a r'=>rw [if_neg (by simp)]
 refine wpAny_binaryOp_repeat_ref (T:="list") (U:="int") (by decide) ⟨_,e,rfl⟩ (fun s'=>typeIs_int s' k t) noFill_list_mul F.fills_int_mul F.slot_int_rmul repeat_list F.slot_int_index.lookup
  (call_meets F.slot_int_rmul (typeIs_int s k t) F.entry_int_rmul (F.args_int_rmul_2 _ _) (int___rmul___int_list k t l its.toArray n)
   ⟨e,rfl,⟨_,e,rfl⟩,call_meets F.slot_list_mul ⟨_,e,rfl⟩ F.entry_list_mul (F.args_list_mul_2 _ _) (AutoListH.list___mul___list_int_3 l its.toArray n k t hfit hcap hlong) ⟨e,?_⟩⟩)
 rw [hnew]
 exact ⟨.ref _,_,I.ZmZ (t':=s.toks) (r.rep k.toNat) (by rw [len_rep,Nat.mul_comm];exact hz),rfl,q _ I.fresh⟩
end
end L2
namespace L2
open PySem PySem.Spec PyProof.Rows
abbrev ZiG (h:Heap) (c:Addr) (v:Option Value):Prop:=h.IsCell c v
def Zod (scope sc:Scope):Scope :=
 { scope with names:=scope.names.map fun (n,k)=>if (k==.free&&sc.kind==.function&&sc.names.lookup n==some .cell) then (n,.cell) else (n,k) }
def ZF (cells:List (Str×Addr)):List (Str×NameKind)→List (Str×Addr)→List (Str×Addr)
 | [],acc=>acc
 | (n,k)::r,acc=>if k==.free then ZF cells r ((n,(cells.lookup n).getD 0)::acc) else ZF cells r acc
theorem JS (env:Env) (f:Str×NameKind→List (Str×Addr)→Sem (ForInStep (List (Str×Addr))))
  (hf:∀ n k c,f (n,k) c=if k==.free then (do let a ← cellOf env n;pure (.yield ((n,a)::c))) else pure (.yield c)) :
  ∀ (names:List (Str×NameKind)) (acc:List (Str×Addr)),(∀ y∈names,y.2=.free→∃ c,env.cells.lookup y.1=some c)→forIn names acc f=pure (ZF env.cells names acc)
 | [],acc,_=>by rw [List.forIn_nil];rfl
 | (n,k)::r,acc,h=>by
  rw [List.forIn_cons,hf]
  have ih:=fun acc=>JS env f hf r acc fun y hy=>h y (List.mem_cons_of_mem _ hy)
  unfold ZF
  by_cases hk:(k==NameKind.free)=true
  ·rw [if_pos hk,if_pos hk]
   obtain ⟨c,hc⟩:=h (n,k) List.mem_cons_self (by simpa using hk)
   have e:cellOf env n=pure c:=by unfold cellOf;rw [hc]
   rw [e]
   have e2:(env.cells.lookup n).getD 0=c:=by rw [hc];rfl
   rw [e2]
   exact ih _
  ·rw [if_neg hk,if_neg hk]
   exact ih _
theorem ZbO {scope:Scope}{env:Env}(h:∀ y∈scope.names,y.2=.free→∃ c,env.cells.lookup y.1=some c):closureFor scope env=pure (ZF env.cells scope.names []):=by
 simp only [closureFor]
 rw [JS env _ (fun n k c=>rfl) scope.names [] h]
 rfl
theorem mem_lookup {α:Type}:∀ {l:List (Str×α)}{n:Str}{c:α},(n,c)∈l→∃ c',l.lookup n=some c'
 | (k,v)::r,n,c,h=>by
  rw [List.lookup_cons]
  cases hb:n==k with
  | true=>exact ⟨_,rfl⟩
  | false =>
   rcases List.mem_cons.mp h with e | h
   ·cases e;simp at hb
   ·exact mem_lookup h
theorem Xl {cells:List (Str×Addr)}:∀ {names:List (Str×NameKind)}{acc:List (Str×Addr)}{n:Str}{c:Addr},(n,c)∈ZF cells names acc→(n,c)∈acc∨((n,.free)∈names∧c=(cells.lookup n).getD 0)
 | [],_,_,_,h=>.inl h
 | (m,k)::r,acc,n,c,h=>by
  unfold ZF at h
  split at h
  ·rename_i hk
   have hk:k=.free:=by simpa using hk
   rcases Xl h with h | ⟨h1,h2⟩
   ·rcases List.mem_cons.mp h with e | h
    ·cases e;exact .inr ⟨hk▸List.mem_cons_self,rfl⟩
    ·exact .inl h
   ·exact .inr ⟨List.mem_cons_of_mem _ h1,h2⟩
  ·rcases Xl h with h | ⟨h1,h2⟩
   ·exact .inl h
   ·exact .inr ⟨List.mem_cons_of_mem _ h1,h2⟩
theorem Qw {cells:List (Str×Addr)}:∀ {names:List (Str×NameKind)}{acc:List (Str×Addr)}{p:Str×Addr},p∈acc→p∈ZF cells names acc
 | [],_,_,h=>h
 | (m,k)::r,acc,p,h=>by
  unfold ZF
  split
  ·exact Qw (List.mem_cons_of_mem _ h)
  ·exact Qw h
theorem Qv {cells:List (Str×Addr)}:∀ {names:List (Str×NameKind)}{acc:List (Str×Addr)}{n:Str},(n,.free)∈names→(n,(cells.lookup n).getD 0)∈ZF cells names acc
 | (m,k)::r,acc,n,h=>by
  unfold ZF
  rcases List.mem_cons.mp h with e | h
  ·cases e
   exact Qw List.mem_cons_self
  ·split
   ·exact Qv h
   ·exact Qv h
theorem Xt:∀ {names:List (Str×NameKind)}{h:Heap}{acc:List (Str×Addr)}{x:Str}{c:Addr},(x,c)∈cellsFrom h.objs.size names acc →
  (x,c)∈acc∨((x,.cell)∈names∧h.objs.size≤c∧ZiG (pushCells h names) c none)
 | [],_,_,_,_,h=>.inl h
 | (n,k)::r,h,acc,x,c,hm=>by
  unfold cellsFrom at hm
  unfold pushCells
  split at hm
  ·rename_i hk
   rw [if_pos hk]
   have hk:k=.cell:=by simpa using hk
   rw [← Heap.size_push h { cls:=.type "cell",data:=.cell none }] at hm
   rcases Xt hm with hm | ⟨h1,h2,h3⟩
   ·rcases List.mem_cons.mp hm with e | hm
    ·cases e
     exact .inr ⟨hk▸List.mem_cons_self,Nat.le_refl _,_,pushCells_keeps r _ _ _ (Heap.get?_push_size _ rfl),rfl⟩
    ·exact .inl hm
   ·rw [Heap.size_push] at h2
    exact .inr ⟨List.mem_cons_of_mem _ h1,Nat.le_of_succ_le h2,h3⟩
  ·rename_i hk
   rw [if_neg hk]
   rcases Xt hm with hm | ⟨h1,h2,h3⟩
   ·exact .inl hm
   ·exact .inr ⟨List.mem_cons_of_mem _ h1,h2,h3⟩
theorem QR:∀ {names:List (Str×NameKind)}{n:Nat}{acc:List (Str×Addr)}{p:Str×Addr},p∈acc→p∈cellsFrom n names acc
 | [],_,_,_,h=>h
 | (m,k)::r,n,acc,p,h=>by
  unfold cellsFrom
  split
  ·exact QR (List.mem_cons_of_mem _ h)
  ·exact QR h
theorem Zay:∀ {names:List (Str×NameKind)}{n:Nat}{acc:List (Str×Addr)}{x:Str},(x,.cell)∈names→∃ c,(x,c)∈cellsFrom n names acc
 | (m,k)::r,n,acc,x,h=>by
  unfold cellsFrom
  rcases List.mem_cons.mp h with e | h
  ·cases e
   exact ⟨n,QR List.mem_cons_self⟩
  ·split
   ·exact Zay h
   ·exact Zay h
theorem Zas:∀ {names:List (Str×NameKind)}{h:Heap}{acc:List (Str×Addr)}{x y:Str}{c:Addr},(∀ p∈acc,p.2<h.objs.size)→(∀ x y c,(x,c)∈acc→(y,c)∈acc→x=y) →
  (x,c)∈cellsFrom h.objs.size names acc→(y,c)∈cellsFrom h.objs.size names acc→x=y
 | [],_,_,_,_,_,_,hi,h1,h2=>hi _ _ _ h1 h2
 | (n,k)::r,h,acc,x,y,c,hl,hi,h1,h2=>by
  unfold cellsFrom at h1 h2
  split at h1
  ·rename_i hk
   rw [if_pos hk] at h2
   rw [← Heap.size_push h { cls:=.type "cell",data:=.cell none }] at h1 h2
   refine Zas (h:=h.push _) (fun p hp=>?_) (fun x y c a b=>?_) h1 h2
   ·rw [Heap.size_push]
    rcases List.mem_cons.mp hp with rfl | hp
    ·exact Nat.lt_succ_self _
    ·exact Nat.lt_succ_of_lt (hl p hp)
   ·rcases List.mem_cons.mp a with e | a <;> rcases List.mem_cons.mp b with e' | b
    ·cases e;cases e';rfl
    ·cases e;exact absurd (hl _ b) (Nat.lt_irrefl _)
    ·cases e';exact absurd (hl _ a) (Nat.lt_irrefl _)
    ·exact hi _ _ _ a b
  ·rename_i hk
   rw [if_neg hk] at h2
   exact Zas hl hi h1 h2
theorem ZaE {M:Model}{A:Around}{E:Value→Shared→Prop}{s:Shared}{scope:Scope}{globals:Addr}{closure:List (Str×Addr)}{qual:Str}{func:Option Addr}{code:Value}{around:Env}{builtins:Addr}{Q:Env→Shared→Prop}
  (h:Q (newEnv scope s.heap.objs.size globals (cellsFrom (s.heap.objs.size+1) scope.names closure) qual func code (some around) builtins)
   { s with heap:=pushCells (s.heap.push { cls:=.type "dict",data:=.dict #[] }) scope.names }) :
  wpAny M A (newFunctionEnv scope globals closure [] qual func code (some around) builtins) Q E s:=by
 simp only [newFunctionEnv,Option.isSome_some,if_true]
 refine wpAny_bind (wpAny_alloc ?_)
 refine wpAny_bind (wpAny_layCells _ (fun n k c=>rfl) scope.names closure _ _ ?_)
 rw [show ({ s with heap:=s.heap.push { cls:=.type "dict",data:=.dict #[] } }:Shared).heap.objs.size=s.heap.objs.size+1 from Heap.size_push ..]
 rw [List.forIn_nil]
 exact wpAny_bind (wpAny_pure (wpAny_pure h))
theorem QJ {sc:Scope}:∀ {names:List (Str×NameKind)}{x:Str}{k:NameKind},
  (names.map fun (n,k)=>if (k==NameKind.free&&sc.kind==.function&&sc.names.lookup n==some .cell) then (n,NameKind.cell) else (n,k)).lookup x=some k →
  ∃ k',names.lookup x=some k'∧(k=k'∨(k'=.free∧k=.cell))
 | [],_,_,h=>by simp at h
 | (n,k₀)::r,x,k,h=>by
  have ih:=@QJ sc r x k
  have h':List.lookup x ((if (k₀==NameKind.free&&sc.kind==.function&&sc.names.lookup n==some .cell)=true then (n,NameKind.cell) else (n,k₀))::(r.map _))=some k:=h
  cases hx:x==n with
  | true =>
   simp only [List.lookup_cons,hx]
   by_cases hc:(k₀==NameKind.free&&sc.kind==.function&&sc.names.lookup n==some .cell)=true
   ·rw [if_pos hc] at h'
    simp only [List.lookup_cons,hx] at h'
    cases h'
    simp only [Bool.and_eq_true,beq_iff_eq] at hc
    exact ⟨k₀,rfl,.inr ⟨hc.1.1,rfl⟩⟩
   ·rw [if_neg hc] at h'
    simp only [List.lookup_cons,hx] at h'
    cases h'
    exact ⟨_,rfl,.inl rfl⟩
  | false =>
   simp only [List.lookup_cons,hx]
   by_cases hc:(k₀==NameKind.free&&sc.kind==.function&&sc.names.lookup n==some .cell)=true
   ·rw [if_pos hc] at h'
    simp only [List.lookup_cons,hx] at h'
    exact ih h'
   ·rw [if_neg hc] at h'
    simp only [List.lookup_cons,hx] at h'
    exact ih h'
structure Yj (N:List Str) (sc scope:Scope) (own:List (Str×Nat)):Prop where
 kind:scope.kind=.function
 uniq:∀ y∈scope.names,scope.names.lookup y.1=some y.2
 ix:∀ p∈own,N[p.2]?=some p.1
 free:∀ y∈scope.names,y.2=.free→sc.names.lookup y.1=some .cell∨sc.names.lookup y.1=some .free
 own:∀ y∈scope.names,y.2=.local∨y.2=.cell→y.1∈own.map (·.1)∨y.1∉N
def wipe (σ:St):List Nat→St
 | []=>σ
 | v::vs=>(wipe σ vs).set v none
theorem Xo (σ:St):∀ vs:List Nat,(wipe σ vs).length=σ.length
 | []=>rfl
 | v::vs=>by unfold wipe;rw [List.length_set,Xo σ vs]
theorem QU {σ:St}{i:Nat}{x:V}:∀ {vs:List Nat},(wipe σ vs)[i]?=some (some x)→σ[i]?=some (some x)∧i∉vs
 | [],h=>⟨h,by simp⟩
 | v::vs,h=>by
  unfold wipe at h
  by_cases hi:v=i
  ·subst hi
   by_cases hv:v<(wipe σ vs).length
   ·rw [List.getElem?_set_self hv] at h;cases h
   ·rw [List.getElem?_eq_none (by simpa using hv)] at h;cases h
  ·rw [List.getElem?_set_ne hi] at h
   obtain ⟨h1,h2⟩:=QU h
   exact ⟨h1,by simp only [List.mem_cons,not_or];exact ⟨fun e=>hi e.symm,h2⟩⟩
abbrev Cx.blk (X:Cx) (s:Shared) (H:Hp) (scope:Scope) (cenv:Env) (fp:List Addr):Cx:={ X with s_0:=s,H_0:=H,env:=cenv,outer:=X.stack,ex:=fp,fn:=fun x=>scope.names.lookup x==some .cell,pn:=[],xe:=fun _ _=>False }
section
variable {X:Cx}{pins:List (Addr×Obj)}{σ:St}{H:Hp}{s:Shared}
theorem ZaA {scope:Scope}{own:List (Str×Nat)}{fp:List Addr}(I:Inv X pins σ H s) (ok:Yj X.N X.env.scope scope own) (hN:X.N.Nodup) (hfp:∀ b∈fp,QX X pins H b∧b<s.heap.objs.size) :
  Inv (X.blk s H scope (compEnvC scope (cellsFrom (s.heap.objs.size+1) scope.names (ZF X.env.cells scope.names [])) s.heap.objs.size X.env) fp) [] (wipe σ (own.map (·.2))) H { s with heap:=pushCells (s.heap.push { cls:=.type "dict",data:=.dict #[] }) scope.names }:=by
 have hfree:∀ y∈scope.names,y.2=.free→∃ c,X.env.cells.lookup y.1=some c:=fun y hy e=>by
  rcases ok.free y hy e with k | k
  ·exact I.ok.has _ (.inl k)
  ·exact I.ok.has _ (.inr k)
 generalize hcenv:compEnvC scope (cellsFrom (s.heap.objs.size+1) scope.names (ZF X.env.cells scope.names [])) s.heap.objs.size X.env=cenv
 have kp:∀ b o,s.heap.get? b=some o→(pushCells (s.heap.push { cls:=.type "dict",data:=.dict #[] }) scope.names).get? b=some o:=fun b o e=>pushCells_keeps _ _ _ _ (Heap.get?_push_of_some _ e)
 have hL:cenv.locals=s.heap.objs.size:=by rw [← hcenv];rfl
 have hcl:cenv.cells=cellsFrom (s.heap.objs.size+1) scope.names (ZF X.env.cells scope.names []):=by rw [← hcenv];rfl
 have hsc:cenv.scope=Zod scope X.env.scope:=by rw [← hcenv];rfl
 rw [← Heap.size_push s.heap { cls:=.type "dict",data:=.dict #[] }] at hcl
 have cm:∀ {y c},(y,c)∈ZF X.env.cells scope.names []→X.env.cells.lookup y=some c∧c<s.heap.objs.size:=fun {y c} hm=>by
  rcases Xl hm with hm | ⟨h1,rfl⟩
  ·cases hm
  ·obtain ⟨c,hc⟩:=hfree _ h1 rfl
   rw [hc]
   obtain ⟨w,z⟩:=I.cell _ _ hc
   exact ⟨rfl,z.lt⟩
 have mem:∀ {y c},cenv.cells.lookup y=some c→(X.env.cells.lookup y=some c∧c<s.heap.objs.size)∨(s.heap.objs.size+1≤c∧ZiG (pushCells (s.heap.push { cls:=.type "dict",data:=.dict #[] }) scope.names) c none):=fun {y c} e=>by
  rw [hcl] at e
  rcases Xt (PySem.mem_of_lookup e) with hm | ⟨_,h2,h3⟩
  ·exact .inl (cm hm)
  ·rw [Heap.size_push] at h2;exact .inr ⟨h2,h3⟩
 have look:∀ {y},scope.names.lookup y=some .free→∃ c,cenv.cells.lookup y=some c∧X.env.cells.lookup y=some c:=fun {y} hl=>by
  have hy:(y,NameKind.free)∈scope.names:=PySem.mem_of_lookup hl
  obtain ⟨c',e'⟩:=mem_lookup (QR (names:=scope.names) (n:=(s.heap.push { cls:=.type "dict",data:=.dict #[] }).objs.size) (Qv (cells:=X.env.cells) (acc:=[]) hy))
  rw [← hcl] at e'
  refine ⟨c',e',?_⟩
  rw [hcl] at e'
  rcases Xt (PySem.mem_of_lookup e') with hm | ⟨h1,_,_⟩
  ·exact (cm hm).1
  ·have:=ok.uniq _ h1
   rw [hl] at this;cases this
 have okB:(X.blk s H scope cenv fp).Ok:=by
  refine ⟨I.ok.mod,by show cenv.scope.kind=_;rw [hsc];exact ok.kind,by show cenv.globals=_;rw [← hcenv];exact I.ok.glob,by show cenv.builtins=_;rw [← hcenv];exact I.ok.blt,by show s.heap.objs.size≤cenv.locals;rw [hL];exact Nat.le_refl _,
   fun y z c e1 e2=>?_,fun y hy=>?_,fun y c z e=>?_,I.ok.hd,I.ok.frames,.inl rfl,fun b hb=>⟨?_,fun y c e z=>?_⟩,I.bs,Nat.le_trans I.ok.bsz I.sz,fun b o e hb=>?_,fun b hb z=>?_,I.stack,I.ZaW⟩
  ·have e1:cenv.cells.lookup y=some c:=e1
   have e2:cenv.cells.lookup z=some c:=e2
   rw [hcl] at e1 e2
   refine Zas (fun p hp=>?_) (fun y z c a b=>I.ok.inj y z c (cm a).1 (cm b).1) (PySem.mem_of_lookup e1) (PySem.mem_of_lookup e2)
   rw [Heap.size_push]
   exact Nat.lt_succ_of_lt (cm (y:=p.1) (c:=p.2) hp).2
  ·show ∃ c,cenv.cells.lookup y=some c
   have key:∀ k,cenv.kindOf y=some k→(k=.cell∨k=.free)→∃ c,cenv.cells.lookup y=some c:=fun k hk hk'=>by
    unfold Env.kindOf at hk
    rw [hsc] at hk
    obtain ⟨k',e,r⟩:=QJ hk
    have:k'=.cell∨k'=.free:=by
     rcases r with rfl | ⟨rfl,_⟩
     ·exact hk'
     ·exact .inr rfl
    rcases this with rfl | rfl
    ·obtain ⟨c,hm⟩:=Zay (n:=(s.heap.push { cls:=.type "dict",data:=.dict #[] }).objs.size) (acc:=ZF X.env.cells scope.names []) (PySem.mem_of_lookup e)
     obtain ⟨c',e'⟩:=mem_lookup hm
     exact ⟨c',by rw [hcl];exact e'⟩
    ·obtain ⟨c,h1,_⟩:=look e
     exact ⟨c,h1⟩
   rcases hy with hy | hy
   ·exact key _ hy (.inl rfl)
   ·exact key _ hy (.inr rfl)
  ·have z:(scope.names.lookup y==some NameKind.cell)=true:=z
   have z:scope.names.lookup y=some .cell:=by simpa using z
   have e:cenv.cells.lookup y=some c:=e
   rw [hcl] at e
   rcases Xt (PySem.mem_of_lookup e) with hm | ⟨_,h2,_⟩
   ·rcases Xl hm with hm | ⟨h1,_⟩
    ·cases hm
    ·have q:=ok.uniq _ h1
     rw [z] at q;cases q
   ·rw [Heap.size_push] at h2
    exact Nat.le_of_succ_le h2
  ·show b≠cenv.locals
   rw [hL];exact Nat.ne_of_lt (hfp b hb).2
  ·have e:cenv.cells.lookup y=some c:=e
   rcases mem e with ⟨h1,_⟩ | ⟨h1,_⟩
   ·exact (hfp b hb).1.2.2.2.2.1 y c h1 z
   ·have h2:s.heap.objs.size+1≤b:=by rw [← z];exact h1
    exact absurd (Nat.lt_of_lt_of_le (hfp b hb).2 (Nat.le_of_succ_le h2)) (Nat.lt_irrefl _)
  ·rcases (hfp b hb).1.2.2.2.1 with z | z
   ·exact I.ok.noex b o e z
   ·exact absurd (Nat.lt_of_lt_of_le (Heap.lt_size e) (Nat.le_trans I.ok.bsz z)) (Nat.lt_irrefl _)
  ·rcases List.mem_cons.mp (I.Zbp b z) with z | z
   ·exact (hfp b hb).1.2.1 z
   ·exact (hfp b hb).1.2.2.1 z
 refine ⟨okB,rfl,I.bare,Un.kept kp,⟨fun _=>none,?_,fun i y av e1 e2 e3=>?_⟩,fun y c e=>?_,?_,fun y c e=>?_,fun p hp=>?_,I.hok.kept kp,by rw [Xo];exact I.len⟩
 ·show Heap.Ns _ cenv.locals _
  rw [hL]
  exact Heap.Ns.keeps (Heap.Ns.new ..) fun b o e=>pushCells_keeps _ _ _ _ e
 ·obtain ⟨e2,hne⟩:=QU e2
  have hfr:scope.names.lookup y=some .free∧(cenv.kindOf y=some .cell∨cenv.kindOf y=some .free):=by
   have key:∀ k,cenv.scope.names.lookup y=some k→k=.local∨k=.cell∨k=.free→scope.names.lookup y=some .free∧(cenv.kindOf y=some .cell∨cenv.kindOf y=some .free):=fun k hk hk'=>by
    have hk0:=hk
    rw [hsc] at hk
    obtain ⟨k',e,r⟩:=QJ hk
    have no:¬ (k'=.local∨k'=.cell):=fun hh=>by
     rcases ok.own _ (PySem.mem_of_lookup e) hh with e' | e'
     ·obtain ⟨p,hp,hpy⟩:=List.mem_map.mp e'
      have e3:=ok.ix p hp
      have:p.1=y:=hpy
      rw [this] at e3
      exact hne (List.mem_map.mpr ⟨p,hp,ZbU hN e3 e1⟩)
     ·exact e' (List.mem_of_getElem? e1)
    rcases r with rfl | ⟨rfl,rfl⟩
    ·rcases hk' with rfl | rfl | rfl
     ·exact absurd (.inl rfl) no
     ·exact absurd (.inr rfl) no
     ·exact ⟨e,.inr hk0⟩
    ·exact ⟨e,.inl hk0⟩
   have e3:Vis cenv.scope y:=e3
   rcases e3 with e3 | e3 | e3
   ·exact key _ e3 (.inl rfl)
   ·exact key _ e3 (.inr (.inl rfl))
   ·exact key _ e3 (.inr (.inr rfl))
  obtain ⟨m,hn,hl⟩:=I.loc
  have hvis:Vis X.env.scope y:=(ok.free _ (PySem.mem_of_lookup hfr.1) rfl).elim (fun k=>.inr (.inl k)) (fun k=>.inr (.inr k))
  obtain ⟨w,r,q⟩:=hl i y av e1 e2 hvis
  refine ⟨w,r,.inr ⟨hfr.2,?_⟩⟩
  obtain ⟨c,h1,h2⟩:=look hfr.1
  rcases q with ⟨k,_⟩ | ⟨_,c',e',z⟩
  ·have k:X.env.scope.names.lookup y=some .local:=k
   rcases ok.free _ (PySem.mem_of_lookup hfr.1) rfl with k' | k' <;> rw [show X.env.scope.names.lookup y=_ from k'] at k <;> cases k
  ·rw [h2] at e';cases e'
   exact ⟨c,h1,z.keeps kp⟩
 ·have e:cenv.cells.lookup y=some c:=e
  rcases mem e with ⟨h1,_⟩ | ⟨_,z⟩
  ·obtain ⟨w,z⟩:=I.cell y c h1
   exact ⟨w,z.keeps kp⟩
  ·exact ⟨_,z⟩
 ·show H cenv.locals=none
  rw [hL];exact I.hok.fresh (Nat.le_refl _)
 ·have e:cenv.cells.lookup y=some c:=e
  rcases mem e with ⟨h1,_⟩ | ⟨h1,_⟩
  ·exact I.freeC y c h1
  ·exact I.hok.fresh (Nat.le_of_succ_le h1)
 ·exact absurd (show p∈([]:List (Addr×Obj))++[] from hp) (by simp)
theorem ZiS {E:Value→Shared→Prop}{D:Addr}{xs:List V}{y:V}{v:Value}{Q:Value→Shared→Prop}(I:Inv X pins σ H s) (hD:H D=some (.lst xs)) (hz:xs.length<sizeLine) (r:RelV y v)
  (h:∀ s',Inv X pins σ (upd H D (.lst (xs++[y]))) s'→Q .none s'):wpAny (model X.prog X.w) X.A (call (.builtin "list.append") [.ref D,v]) Q E s:=by
 obtain ⟨hz',its,n,ri,e⟩:=I.hok D _ hD
 have hl:=ri.length
 refine append_at (hsz:=by rw [List.size_toArray];lia) e fun h' sb ho'=>?_
 refine h { s with heap:=h' } (I.write (t':=s.toks) (by rw [hD];trivial) (.inl rfl) (fun b u hb q=>(sb.2 b hb).trans q) ⟨_,ho'⟩ ⟨by rw [List.length_append];exact hz,its++[v],n+1,ri.append (.cons r .nil),?_⟩)
 rw [ho']
 simp
def PTs (X:Cx) (ifs:List Expr) (t:TT):Prop :=
 ∀ (pins:List (Addr×Obj)) (s:Shared) (σ:St) (H:Hp) (Q:Bool→Hp→Prop),Inv X pins σ H s→t σ H Q →
  wpAny (model X.prog X.w) X.A (forIn ifs true fun c r=>if r=true then do let ok ← isTrue c X.env (eval c X.env);pure (ForInStep.yield ok) else pure (ForInStep.yield r)) (TP X pins σ Q) X.xe s
def ZjF:TT:=fun _ H Q=>Q true H
theorem ZY:PTs X [] ZjF:=fun _ _ _ H _ I h=>wpAny_tests_nil ⟨H,I,h⟩
end
theorem Zcd {α:Type}{t:Sem α}{Q Q':α→Shared→Prop}{M:Model}{A:Around}{E:Value→Shared→Prop}{s:Shared}(h:wpAny M A t Q (fun _ _=>False) s) (hQ:∀ a s,Q a s→Q' a s):wpAny M A t Q' E s:=wpAny_mono h hQ fun _ _ z=>False.elim z
theorem JT {prog:Program}{w:World}{A:Around}{R:Result→Shared→Prop}{s:Shared}{elt target iter:Expr}{ifs:List Expr}{scope:Scope}{pos:Pos}{it acc:Value}{env:Env}(I:Nat→Shared→Prop)
  (turn:∀ n s,I n s→wpAny (model prog w) A (pyNext it) (fun r s₁=>match r with
   | none=>R (.ok .next) s₁
   | some v=>wpAny (model prog w) A (letOwnedTupleGo target it v) (fun _ s₁'=>wpAny (model prog w) A (assign target env v) (fun _ s₂ =>
     wpAny (model prog w) A (forIn ifs true fun c r=>if r=true then do let ok ← isTrue c env (eval c env);pure (ForInStep.yield ok) else pure (ForInStep.yield r)) (fun ok s₃ =>
      if ok=true then wpAny (model prog w) A (eval elt env) (fun x s₄ =>
       wpAny (model prog w) A (call (.builtin "list.append") [acc,x]) (fun _ s₅=>∃ m,m<n∧I m s₅) (notedBy (model prog w) A env fun e s'=>R (.error e) s') s₄) (notedBy (model prog w) A env fun e s'=>R (.error e) s') s₃
      else ∃ m,m<n∧I m s₃) (notedBy (model prog w) A env fun e s'=>R (.error e) s') s₂) (notedBy (model prog w) A env fun e s'=>R (.error e) s') s₁') (notedBy (model prog w) A env fun e s'=>R (.error e) s') s₁) (notedBy (model prog w) A env fun e s'=>R (.error e) s') s)
  (n:Nat) (h:I n s) :
  codeAny (model prog w) A (.compLoop (.ListComp elt [⟨target,iter,ifs,0⟩] scope pos) 0 it acc env) R s:=by
 refine codeAny_loop rfl I (fun n s hI=>?_) n h
 show wpAny _ A ((compTurn (.ListComp elt [⟨target,iter,ifs,0⟩] scope pos) 0 it acc env).onRaise (fun x=>do noteFrame x env;theTreesLotGoes x)) _ _ s
 refine wpAny_noted ?_
 rw [compTurn_list]
 refine wpAny_bind (wpAny_standAt (wpAny_bind (wpAny_mono (turn n s hI) (fun r s₁ h₁=>?_) fun _ _ h'=>h')))
 cases r with
 | none=>exact wpAny_pure h₁
 | some v =>
  refine wpAny_bind (wpAny_mono h₁ (fun _ s₁' h₁'=>?_) fun _ _ h'=>h')
  refine wpAny_bind (wpAny_mono h₁' (fun _ s₂ h₂=>wpAny_bind (wpAny_mono h₂ (fun ok s₃ h₃=>?_) fun _ _ h'=>h')) fun _ _ h'=>h')
  cases ok with
  | false=>exact wpAny_pure ⟨rfl,h₃⟩
  | true =>
   exact wpAny_bind (wpAny_bind (wpAny_mono h₃ (fun x s₄ h₄=>wpAny_bind (wpAny_mono h₄ (fun _ s₅ h₅=>wpAny_pure (wpAny_pure ⟨rfl,h₅⟩)) fun _ _ h'=>h')) fun _ _ h'=>h'))
section
variable {X:Cx}
def tLc (wi:TI) (g:TG) (tt:TT) (te:TE) (vs:List Nat):TE:=fun σ H Q=>wi σ H fun J H1=>∀ D,H1 D=none→∃ W:Nat→Nat→Hp→Prop,(∃ m,W 0 m (upd H1 D (.lst [])))∧∀ i m H,W i m H →
 (J.stop i H∧Q (.ref D) H)∨(J.go i H∧∃ Nx:Hp→Prop,(∀ H',Nx H'→∃ m',m'<m∧W (i+1) m' H')∧∀ x H',J.yld i H x H'→g x (wipe σ vs) H' fun σ2 H2=>wipe σ2 vs=wipe σ vs∧tt σ2 H2 fun b H3 =>
  if b=true then te σ2 H3 fun y H4=>∃ acc,H4 D=some (.lst acc)∧acc.length<sizeLine∧Nx (upd H4 D (.lst (acc++[y]))) else Nx H3)
theorem Zhe {pins:List (Addr×Obj)}{s:Shared}{σ:St}{H:Hp}{Q:VK}{elt tg iter:Expr}{ifs:List Expr}{scope:Scope}{own:List (Str×Nat)}{pos pos':Pos}{wi:TI}{g:TG}{tt:TT}{te:TE}{use:Option (Value→Sem Unit)}{Qf:Value→Shared→Prop}
  (hc:X.calm=true) (hN:X.N.Nodup) (I:Inv X pins σ H s) (hi:PI X tg iter wi) (ok:Yj X.N X.env.scope scope own)
  (hg:∀ (s:Shared) (H:Hp) (C:Addr) (cl:List (Str×Addr)) (fp:List Addr),PG (X.blk s H scope (compEnvC scope cl C X.env) fp) tg g) (ht:∀ (s:Shared) (H:Hp) (C:Addr) (cl:List (Str×Addr)) (fp:List Addr),PTs (X.blk s H scope (compEnvC scope cl C X.env) fp) ifs tt)
  (he:∀ (s:Shared) (H:Hp) (C:Addr) (cl:List (Str×Addr)) (fp:List Addr),PE (X.blk s H scope (compEnvC scope cl C X.env) fp) elt te) (hs:∀ x,foldedSetIterable iter X.env x=pure x)
  (h:tLc wi g tt te (own.map (·.2)) σ H Q)
  (hRR:∀ D C s' m H',Inv X pins σ H' s'→Q (.ref D) H'→s'.heap.Ns C m→QX X pins H' C→compPost (model X.prog X.w) X.A X.xe use Qf (.ref D) C (.ok .next) s') :
  wpAny (model X.prog X.w) X.A (comprehension (.ListComp elt [⟨tg,iter,ifs,0⟩] scope pos) scope X.env pos' (newList []) false (eval iter X.env) use) Qf X.xe s:=by
 have hfree:∀ y∈scope.names,y.2=.free→∃ c,X.env.cells.lookup y.1=some c:=fun y hy e=>by
  rcases ok.free y hy e with k | k
  ·exact I.ok.has _ (.inl k)
  ·exact I.ok.has _ (.inr k)
 refine wpAny_comprehension_free (use:=use) rfl hs (ZbO hfree) ok.kind (fun y hy e=>by rw [ok.uniq y hy,e])
  (thn (hi pins s σ H _ I h) fun xv s1 hx=>thn hx fun itv s2 h2=>?_)
 obtain ⟨it,fp,tn,J,H2,e,I2,T,st2,f2,q⟩:=h2
 subst e
 refine wpAny_newObj_type (ZaE ?_) (by show 0≤sizeLine;decide)
 generalize hD:s2.heap.objs.size=D
 have hDn:H2 D=none:=I2.hok.fresh (Nat.le_of_eq hD)
 obtain ⟨W,⟨m0,w0⟩,turn⟩:=q D hDn
 generalize hs3:({ s2 with heap:=s2.heap.push { cls:=.type "list",data:=.seq ([]:List Value).toArray } }:Shared)=s3
 have I3:Inv X pins σ (upd H2 D (.lst [])) s3:=by
  rw [← hs3]
  refine I2.laid (t':=s2.toks) (fun b o e=>Heap.get?_push_of_some _ e) (Nat.le_of_eq hD) ⟨Nat.zero_le _,[],0,.nil,?_⟩
  rw [← hD]
  exact Heap.get?_push_size _ rfl
 have h3:s3.heap=s2.heap.push { cls:=.type "list",data:=.seq ([]:List Value).toArray }:=by rw [← hs3]
 have sz:∀ b∈fp,b<s2.heap.objs.size:=fun b hb=>by
  obtain ⟨o,e,_⟩:=T.obj _ _ st2 b hb
  exact Heap.lt_size e
 have f3:∀ b∈fp,QX X pins (upd H2 D (.lst [])) b∧b<s3.heap.objs.size:=fun b hb=>by
  have hlt:=sz b hb
  refine ⟨⟨?_,(f2 b hb).2⟩,by rw [h3,Heap.size_push];exact Nat.lt_succ_of_lt hlt⟩
  rw [Zn (by rw [← hD];exact Nat.ne_of_lt hlt)]
  exact (f2 b hb).1
 have st3:tn 0 s3.heap:=T.keep _ _ _ st2 fun b _ o e=>by rw [h3];exact Heap.get?_push_of_some _ e
 have I4:=ZaA I3 ok hN f3
 have pg:=hg s3 (upd H2 D (.lst [])) s3.heap.objs.size (cellsFrom (s3.heap.objs.size+1) scope.names (ZF X.env.cells scope.names [])) fp
 have pt:=ht s3 (upd H2 D (.lst [])) s3.heap.objs.size (cellsFrom (s3.heap.objs.size+1) scope.names (ZF X.env.cells scope.names [])) fp
 have pe:=he s3 (upd H2 D (.lst [])) s3.heap.objs.size (cellsFrom (s3.heap.objs.size+1) scope.names (ZF X.env.cells scope.names [])) fp
 show codeAny _ _ (.compStart (.ListComp elt [⟨tg,iter,ifs,0⟩] scope pos) 0 (.ref it) (.ref D) (compEnvC scope (cellsFrom (s3.heap.objs.size+1) scope.names (ZF X.env.cells scope.names [])) s3.heap.objs.size X.env)) (compPost (model X.prog X.w) X.A X.xe use Qf (.ref D) s3.heap.objs.size) { s3 with heap:=pushCells (s3.heap.push { cls:=.type "dict",data:=.dict #[] }) scope.names }
 have nfp:∀ b∈fp,(upd H2 D (.lst [])) b=none:=fun b hb=>(f3 b hb).1.1
 generalize hce:compEnvC scope (cellsFrom (s3.heap.objs.size+1) scope.names (ZF X.env.cells scope.names [])) s3.heap.objs.size X.env=ce at I4 pg pt pe ⊢
 have cL:ce.locals=s3.heap.objs.size:=by subst hce;rfl
 generalize hH3:upd H2 D (.lst [])=H3 at I3 I4 pg pt pe w0 nfp f3
 generalize hs4:({ s3 with heap:=pushCells (s3.heap.push { cls:=.type "dict",data:=.dict #[] }) scope.names }:Shared)=s4 at I4 ⊢
 have st4:tn 0 s4.heap:=T.keep _ _ _ st3 fun b _ o e=>by rw [← hs4];exact pushCells_keeps _ _ _ _ (Heap.get?_push_of_some _ e)
 have stat:∀ {σ':St}{H':Hp}{s':Shared},Inv (X.blk s3 H3 scope ce fp) [] σ' H' s'→(∀ b∈fp,H' b=none)→∀ b∈fp,QX (X.blk s3 H3 scope ce fp) [] H' b:=fun {σ' H' s'} I' hn b hb =>
  ⟨hn b hb,(I'.ok.exf b hb).1,I'.ok.exfs b hb,.inl hb,fun x c e=>(I'.ok.exf b hb).2 x c e,fun p hp=>absurd (show p∈([]:List (Addr×Obj))++[] from hp) (by simp)⟩
 have loop:codeAny (model X.prog X.w) X.A (.compLoop (.ListComp elt [⟨tg,iter,ifs,0⟩] scope pos) 0 (.ref it) (.ref D) ce) (compPost (model X.prog X.w) X.A X.xe use Qf (.ref D) s3.heap.objs.size) s4:=by
  refine JT (fun n s'=>∃ i H',Inv (X.blk s3 H3 scope ce fp) [] (wipe σ (own.map (·.2))) H' s'∧tn i s'.heap∧(∀ b∈fp,H' b=none)∧W i n H') ?_ m0 ⟨0,H3,I4,st4,nfp,w0⟩
  rintro n s5 ⟨i,H5,I5,st5,n5,w5⟩
  rcases turn i n H5 w5 with ⟨stop,qq⟩ | ⟨go,Nx,hNx,step⟩
  ·have td:=T.done (X.blk s3 H3 scope ce fp) rfl rfl rfl hc i [] s5 _ H5 (fun _ _=>False) I5 (stat I5 n5) st5 stop
   refine Zcd td fun r s6 ⟨hr,I6⟩=>?_
   subst hr
   have I7:Inv X pins σ H5 s6:=I3.Zix (ch:=fp) I6.os I6.base I6.hok I6.bare fun b hb=>⟨(f3 b hb).1.2.2.2.1,(f3 b hb).1.2.1,(f3 b hb).1.2.2.2.2.1,(f3 b hb).1.2.2.2.2.2⟩
   have nC:H5 s3.heap.objs.size=none:=by
    have z:H5 ce.locals=none:=I6.free
    rw [cL] at z
    exact z
   obtain ⟨m,hn,_⟩:=I6.loc
   have hn:s6.heap.Ns ce.locals m:=hn
   rw [cL] at hn
   exact hRR D s3.heap.objs.size s6 m H5 I7 qq hn (I3.ZdQ (Nat.le_refl _) nC)
  ·have ti:=T.item (X.blk s3 H3 scope ce fp) rfl rfl rfl hc i [] s5 _ H5 (fun _ _=>False) I5 (stat I5 n5) st5 go
   refine Zcd ti fun r s6 ⟨u,hr,h6⟩=>?_
   subst hr
   refine Zcd h6 fun _ s7 ⟨x,H7,I7,r7,y7,st7,n7⟩=>?_
   have I7':=I7.pinned (stat I7 n7) (T.obj _ _ st7)
   refine Zcd (pg _ s7 _ H7 x u _ I7' r7 (step x H7 y7)) fun _ s8 ⟨σ8,H8,I8,hw8,q8⟩=>?_
   refine Zcd (pt _ s8 σ8 H8 _ I8 q8) fun b s9 ⟨H9,I9,q9⟩=>?_
   have fin:∀ {s':Shared}{H':Hp},Inv (X.blk s3 H3 scope ce fp) ([]++Zax fp s7.heap) σ8 H' s'→Nx H'→∃ m,m<n∧∃ i H',Inv (X.blk s3 H3 scope ce fp) [] (wipe σ (own.map (·.2))) H' s'∧tn i s'.heap∧(∀ b∈fp,H' b=none)∧W i m H':=fun {s' H'} I' nx=>by
    obtain ⟨m',hm,w'⟩:=hNx H' nx
    have pin':∀ b∈fp,∀ o,s7.heap.get? b=some o→s'.heap.get? b=some o∧H' b=none:=fun b hb o e =>
     let z:=I'.pin (b,o) (List.mem_append_right _ (List.mem_append_right _ (XQ hb e)))
     ⟨z.1,z.2.1⟩
    have hl:(wipe σ (own.map (·.2))).length=σ8.length:=by rw [← hw8,Xo]
    refine ⟨m',hm,i+1,H',(I'.QK (pins:=[])).weak hl (fun j v e=>?_),T.keep _ _ _ st7 fun b hb o e=>(pin' b hb o e).1,fun b hb=>?_,w'⟩
    ·rw [← hw8] at e
     exact (QU e).1
    ·obtain ⟨o,e,_⟩:=T.obj _ _ st7 b hb
     exact (pin' b hb o e).2
   cases b with
   | false =>
    simp only [Bool.false_eq_true,if_false] at q9 ⊢
    exact fin I9 q9
   | true =>
    simp only [if_true] at q9 ⊢
    refine Zcd (pe _ s9 σ8 H9 _ I9 q9) fun z s10 ⟨yv,H10,I10,r10,acc,hD10,hz10,nx⟩=>?_
    exact ZiS (X:=X.blk s3 H3 scope ce fp) I10 hD10 hz10 r10 fun s11 I11=>fin I11 nx
 exact codeAny_compStart_list loop (T.self X.A 0 _ _ _ st4 loop)
theorem Qg {elt tg iter:Expr}{ifs:List Expr}{scope:Scope}{own:List (Str×Nat)}{pos:Pos}{wi:TI}{g:TG}{tt:TT}{te:TE}(hc:X.calm=true) (hN:X.N.Nodup) (hi:PI X tg iter wi) (ok:Yj X.N X.env.scope scope own)
  (hg:∀ (s:Shared) (H:Hp) (C:Addr) (cl:List (Str×Addr)) (fp:List Addr),PG (X.blk s H scope (compEnvC scope cl C X.env) fp) tg g) (ht:∀ (s:Shared) (H:Hp) (C:Addr) (cl:List (Str×Addr)) (fp:List Addr),PTs (X.blk s H scope (compEnvC scope cl C X.env) fp) ifs tt)
  (he:∀ (s:Shared) (H:Hp) (C:Addr) (cl:List (Str×Addr)) (fp:List Addr),PE (X.blk s H scope (compEnvC scope cl C X.env) fp) elt te) (hs:∀ x,foldedSetIterable iter X.env x=pure x:=by intro _;rfl) :
  PE X (.ListComp elt [⟨tg,iter,ifs,0⟩] scope pos) (tLc wi g tt te (own.map (·.2))):=by
 intro pins s σ H Q I h
 rw [eval_ListComp]
 refine Zhe hc hN I hi ok hg ht he hs h fun D C s' m H' I' q hn f=>⟨m,hn,fun h'' sb=>?_⟩
 obtain ⟨f0,f1,f2,f3,f4,f5⟩:=f
 exact ⟨.ref D,H',I'.turned (t':=s'.toks) (fun b o hb e=>(sb.2 b hb).trans e) f0 f1 f3 f4 f5,rfl,q⟩
theorem Zce {i:Nat}{y:Str}{py:Pos}{elt tg iter:Expr}{ifs:List Expr}{scope:Scope}{own:List (Str×Nat)}{pos spos:Pos}{wi:TI}{g:TG}{tt:TT}{te:TE}(hc:X.calm=true) (hN:X.N.Nodup) (hy:X.N[i]?=some y) (hyl:X.env.scope.names.lookup y=some .local)
  (hsw:swapsWith (.ListComp elt [⟨tg,iter,ifs,0⟩] scope pos) (some (.Name y py)) spos.line X.env=pure true) (hi:PI X tg iter wi) (ok:Yj X.N X.env.scope scope own)
  (hg:∀ (s:Shared) (H:Hp) (C:Addr) (cl:List (Str×Addr)) (fp:List Addr),PG (X.blk s H scope (compEnvC scope cl C X.env) fp) tg g) (ht:∀ (s:Shared) (H:Hp) (C:Addr) (cl:List (Str×Addr)) (fp:List Addr),PTs (X.blk s H scope (compEnvC scope cl C X.env) fp) ifs tt)
  (he:∀ (s:Shared) (H:Hp) (C:Addr) (cl:List (Str×Addr)) (fp:List Addr),PE (X.blk s H scope (compEnvC scope cl C X.env) fp) elt te) (hs:∀ x,foldedSetIterable iter X.env x=pure x:=by intro _;rfl) :
  PS X (.Assign [.Name y py] (.ListComp elt [⟨tg,iter,ifs,0⟩] scope pos) spos) (JQ (tLc wi g tt te (own.map (·.2))) (YF i)):=by
 intro pins s σ H D I h
 rw [exec_Assign_Name_used _ _ _ _ hsw]
 refine wpAny_bind (wpAny_standAt (wpAny_bind ?_))
 show wpAny _ X.A (do let _ ← comprehension (.ListComp elt [⟨tg,iter,ifs,0⟩] scope pos) scope X.env (firstIterPos [⟨tg,iter,ifs,0⟩] pos) (newList []) false (eval iter X.env) (some (assign (.Name y py) X.env))) _ _ s
 have h:tLc wi g tt te (own.map (·.2)) σ H (fun x H1=>YF i x σ H1 D.nx):=h
 refine wpAny_bind (thn (Zhe (Qf:=fun _ s'=>SP X pins D .next s') hc hN I hi ok hg ht he hs h fun L C s' m H' I' q hn f=>?_) fun _ s' hq=>wpAny_pure (wpAny_pure hq))
 show wpAny _ _ (assign (.Name y py) X.env (.ref L)) _ _ _
 refine wpAny_assign_Name (Zac (v:=V.ref L) I' hN hy (.inl hyl) rfl (fun s2 I2 ⟨a,sb,ha⟩=>?_) (.inr hyl))
 obtain ⟨f0,f1,f2,f3,f4,f5⟩:=f
 have haC:C≠a:=by
  rcases ha with z | z
  ·rw [z];exact f1
  ·exact fun e=>f4 y a z e.symm
 refine ⟨m,hn.sameBut sb haC,fun h3 sb3=>?_⟩
 exact ⟨_,H',I2.turned (t':=s2.toks) (fun b o hb e=>(sb3.2 b hb).trans e) f0 f1 f3 f4 f5,q⟩
theorem Jy {elt:Expr}{gs:List Comprehension}{scope:Scope}{pos py:Pos}{y:Str}{l:Nat}{env:Env}(hk:env.scope.kind=.function) (hy:env.scope.names.lookup y=some .local) (hl:(py.line==pos.line)=true)
  (ha:(scope.names.any fun (n,k)=>n==y&&(k==.local || k==.cell))=false):swapsWith (.ListComp elt gs scope pos) (some (.Name y py)) l env=pure true:=by
 have ky:env.kindOf y=some .local:=hy
 have hb:env.blockKind=.function:=by unfold Env.blockKind;rw [hk];rfl
 unfold swapsWith
 simp only [hb,ky,ha,Expr.pos,hl]
 rfl
end
theorem YM {K:PySem.W.Frag}{a:Addr}{xs:List V}{g:TG}{tt:TT}{te:TE}{vs:List Nat}{σ:St}{H1:Hp}{D:Addr}{Qd:Hp→Prop}(Pv:Nat→Hp→Prop) (h0:Pv 0 (upd H1 D (.lst []))) (hl:∀ i H,i≤xs.length→Pv i H→SqL K H a xs)
  (hs:∀ i x H,xs[i]?=some x→Pv i H→g x (wipe σ vs) H fun σ2 H2=>wipe σ2 vs=wipe σ vs∧tt σ2 H2 fun b H3 =>
   if b=true then te σ2 H3 fun y H4=>∃ acc,H4 D=some (.lst acc)∧acc.length<sizeLine∧Pv (i+1) (upd H4 D (.lst (acc++[y]))) else Pv (i+1) H3) (hd:∀ H,Pv xs.length H→Qd H) :
  ∃ W:Nat→Nat→Hp→Prop,(∃ m,W 0 m (upd H1 D (.lst [])))∧∀ i m H,W i m H →
   ((Itl K a).stop i H∧Qd H)∨((Itl K a).go i H∧∃ Nx:Hp→Prop,(∀ H',Nx H'→∃ m',m'<m∧W (i+1) m' H')∧∀ x H',(Itl K a).yld i H x H'→g x (wipe σ vs) H' fun σ2 H2=>wipe σ2 vs=wipe σ vs∧tt σ2 H2 fun b H3 =>
    if b=true then te σ2 H3 fun y H4=>∃ acc,H4 D=some (.lst acc)∧acc.length<sizeLine∧Nx (upd H4 D (.lst (acc++[y]))) else Nx H3):=by
 refine ⟨fun i m H=>m=xs.length-i∧i≤xs.length∧Pv i H,⟨xs.length,by simp,Nat.zero_le _,h0⟩,?_⟩
 rintro i m H ⟨rfl,hi,p⟩
 have q:=hl i H hi p
 by_cases hlt:i<xs.length
 ·refine .inr ⟨⟨xs,xs[i],q,by simp [hlt]⟩,Pv (i+1),fun H' p'=>⟨xs.length-(i+1),by lia,rfl,hlt,p'⟩,fun x H' y=>?_⟩
  obtain ⟨e,y⟩:=y
  subst e
  exact hs i x _ (y xs q) p
 ·have e:i=xs.length:=by lia
  subst e
  exact .inl ⟨⟨xs,q,Nat.le_refl _⟩,hd H p⟩
theorem ZlV {K:PySem.W.Frag}{a:Addr}{xs:List V}{g:TG}{tt:TT}{te:TE}{vs:List Nat}{σ:St}{H1:Hp}{D:Addr}{Qd:Hp→Prop}(Pv:Nat→Hp→Prop) (h0:Pv 0 (upd H1 D (.lst []))) (hl:∀ i H,i≤xs.length→Pv i H→SqT K H a xs)
  (hs:∀ i x H,xs[i]?=some x→Pv i H→g x (wipe σ vs) H fun σ2 H2=>wipe σ2 vs=wipe σ vs∧tt σ2 H2 fun b H3 =>
   if b=true then te σ2 H3 fun y H4=>∃ acc,H4 D=some (.lst acc)∧acc.length<sizeLine∧Pv (i+1) (upd H4 D (.lst (acc++[y]))) else Pv (i+1) H3) (hd:∀ H,Pv xs.length H→Qd H) :
  ∃ W:Nat→Nat→Hp→Prop,(∃ m,W 0 m (upd H1 D (.lst [])))∧∀ i m H,W i m H →
   ((Itt K a).stop i H∧Qd H)∨((Itt K a).go i H∧∃ Nx:Hp→Prop,(∀ H',Nx H'→∃ m',m'<m∧W (i+1) m' H')∧∀ x H',(Itt K a).yld i H x H'→g x (wipe σ vs) H' fun σ2 H2=>wipe σ2 vs=wipe σ vs∧tt σ2 H2 fun b H3 =>
    if b=true then te σ2 H3 fun y H4=>∃ acc,H4 D=some (.lst acc)∧acc.length<sizeLine∧Nx (upd H4 D (.lst (acc++[y]))) else Nx H3):=by
 refine ⟨fun i m H=>m=xs.length-i∧i≤xs.length∧Pv i H,⟨xs.length,by simp,Nat.zero_le _,h0⟩,?_⟩
 rintro i m H ⟨rfl,hi,p⟩
 have q:=hl i H hi p
 by_cases hlt:i<xs.length
 ·refine .inr ⟨⟨xs,xs[i],q,by simp [hlt]⟩,Pv (i+1),fun H' p'=>⟨xs.length-(i+1),by lia,rfl,hlt,p'⟩,fun x H' y=>?_⟩
  obtain ⟨e,y⟩:=y
  subst e
  exact hs i x _ (y xs q) p
 ·have e:i=xs.length:=by lia
  subst e
  exact .inl ⟨⟨xs,q,Nat.le_refl _⟩,hd H p⟩
end L2
namespace L2
open PySem PySem.Spec PyProof.Rows
section
variable {κ:Type}[DecidableEq κ]
def YO (kvs:List (κ×V)) (k:κ):Option V:=(kvs.find? fun kv=>decide (kv.1=k)).map (·.2)
def putK (kvs:List (κ×V)) (k:κ) (v:V):List (κ×V) :=
 if (kvs.any fun kv=>decide (kv.1=k))=true then kvs.map (fun kv=>if kv.1=k then (kv.1,v) else kv) else kvs++[(k,v)]
theorem ZjB {k:κ}:YO ([]:List (κ×V)) k=none:=rfl
theorem Yq {p:κ×V}{r:List (κ×V)}{k:κ}(e:p.1=k):YO (p::r) k=some p.2:=by simp [YO,List.find?_cons,e]
theorem Yo {p:κ×V}{r:List (κ×V)}{k:κ}(e:¬ p.1=k):YO (p::r) k=YO r k:=by simp [YO,List.find?_cons,e]
theorem JB (k:κ):∀ kvs:List (κ×V),(kvs.any fun kv=>decide (kv.1=k))=(YO kvs k).isSome
 | []=>rfl
 | p::r=>by
  rw [List.any_cons]
  by_cases e:p.1=k
  ·simp only [Yq e,decide_eq_true e,Bool.true_or,Option.isSome_some]
  ·rw [Yo e,decide_eq_false e,Bool.false_or];exact JB k r
theorem Zex (k j:κ) (y:V):∀ kvs:List (κ×V),YO (kvs.map fun kv=>if kv.1=k then (kv.1,y) else kv) j=(YO kvs j).map fun x=>if j=k then y else x
 | []=>rfl
 | p::r=>by
  have ih:=Zex k j y r
  rw [List.map_cons]
  by_cases h:p.1=k
  ·rw [if_pos h]
   by_cases e:p.1=j
   ·rw [Yq (p:=(p.1,y)) e,Yq e,Option.map_some,if_pos (e.symm.trans h)]
   ·rw [Yo (p:=(p.1,y)) e,Yo e,ih]
  ·rw [if_neg h]
   by_cases e:p.1=j
   ·rw [Yq (p:=p) e,Yq e,Option.map_some,if_neg (fun z=>h (e.trans z))]
   ·rw [Yo (p:=p) e,Yo e,ih]
theorem ZcO (k j:κ) (y:V):∀ kvs:List (κ×V),YO kvs k=none→YO (kvs++[(k,y)]) j=if j=k then some y else YO kvs j
 | [],_=>by
  by_cases e:k=j
  ·rw [if_pos e.symm];exact Yq (p:=(k,y)) e
  ·rw [if_neg (fun z=>e z.symm)];exact Yo (p:=(k,y)) e
 | p::r,hn=>by
  rw [List.cons_append]
  have hk:¬ p.1=k:=fun z=>by rw [Yq z] at hn;cases hn
  rw [Yo hk] at hn
  have ih:=ZcO k j y r hn
  by_cases e:p.1=j
  ·rw [Yq e,Yq e,if_neg (fun z=>hk (e.trans z))]
  ·rw [Yo e,Yo e,ih]
theorem Zjy (kvs:List (κ×V)) (k j:κ) (y:V):YO (putK kvs k y) j=if j=k then some y else YO kvs j:=by
 unfold putK
 by_cases a:(kvs.any fun kv=>decide (kv.1=k))=true
 ·rw [if_pos a,Zex]
  rw [JB] at a
  by_cases e:j=k
  ·obtain ⟨x,hx⟩:=Option.isSome_iff_exists.mp a
   rw [if_pos e,e,hx,Option.map_some,if_pos rfl]
  ·rw [if_neg e]
   cases YO kvs j with
   | none=>rfl
   | some x=>rw [Option.map_some,if_neg e]
 ·rw [if_neg a]
  refine ZcO k j y kvs ?_
  rw [JB] at a
  cases q:YO kvs k with
  | none=>rfl
  | some x=>rw [q] at a;exact (a rfl).elim
theorem ZaB (kvs:List (κ×V)) (k:κ) (v:V):(putK kvs k v).length≤kvs.length+1:=by
 unfold putK
 split
 ·rw [List.length_map];lia
 ·rw [List.length_append,List.length_cons,List.length_nil];lia
theorem QY.Zad {o:Option V}{u:Option Value}(r:QY o u):o.isSome=u.isSome:=by
 cases o with
 | none=>cases u with
  | none=>rfl
  | some _=>exact (show False from r).elim
 | some _=>cases u with
  | none=>exact (show False from r).elim
  | some _=>rfl
theorem KV.val {kvs:List (κ×V)}{vs:List (κ×Value)}(r:KV kvs vs) (k:κ):QY (YO kvs k) (valueAt vs k):=by
 unfold KV at r
 induction r with
 | nil=>exact True.intro
 | @cons p q ps qs h t ih =>
  obtain ⟨h1,h2⟩:=h
  by_cases e:p.1=k
  ·have e':q.1=k:=h1.symm.trans e
   have b:valueAt (q::qs) k=some q.2:=by simp [valueAt,List.find?_cons,e']
   rw [Yq e,b];exact h2
  ·have e':¬ q.1=k:=fun z=>e (h1.trans z)
   have b:valueAt (q::qs) k=valueAt qs k:=by simp [valueAt,List.find?_cons,e']
   rw [Yo e,b];exact ih
theorem KV.any {kvs:List (κ×V)}{vs:List (κ×Value)}(r:KV kvs vs) (k:κ):(kvs.any fun kv=>decide (kv.1=k))=vs.any fun kv=>decide (kv.1=k):=by
 unfold KV at r
 induction r with
 | nil=>rfl
 | cons h t ih=>rw [List.any_cons,List.any_cons,ih,h.1]
theorem KV.ZmN {kvs:List (κ×V)}{vs:List (κ×Value)}(r:KV kvs vs) (k:κ){y:V}{u:Value}(ry:RelV y u) :
  KV (kvs.map fun kv=>if kv.1=k then (kv.1,y) else kv) (vs.map fun kv=>if kv.1=k then (kv.1,u) else kv):=by
 unfold KV at r ⊢
 induction r with
 | nil=>exact .nil
 | @cons p q ps qs h t ih =>
  rw [List.map_cons,List.map_cons]
  refine .cons ?_ ih
  obtain ⟨h1,h2⟩:=h
  by_cases e:p.1=k
  ·rw [if_pos e,if_pos (h1.symm.trans e)];exact ⟨h1,ry⟩
  ·rw [if_neg e,if_neg (fun z=>e (h1.trans z))];exact ⟨h1,h2⟩
theorem KV.put {kvs:List (κ×V)}{vs:List (κ×Value)}(r:KV kvs vs) (k:κ){y:V}{u:Value}(ry:RelV y u):KV (putK kvs k y) (stored vs k u):=by
 unfold putK stored
 rw [r.any k]
 by_cases e:(vs.any fun kv=>decide (kv.1=k))=true
 ·rw [if_pos e,if_pos e];exact r.ZmN k ry
 ·rw [if_neg e,if_neg e];exact Paired.snoc r ⟨rfl,ry⟩
theorem KV.length {kvs:List (κ×V)}{vs:List (κ×Value)}(r:KV kvs vs):kvs.length=vs.length:=Paired.length r
end
theorem Zhl {P:Program}{w:World}{k:Key}{u:Value}(r:RelV (kV k) u):(Yw P w).is k u=true:=by
 cases k with
 | inl i=>obtain ⟨t,e⟩:=(show ∃ t,u=Value.int i t from r);subst e;exact ZeK P w i t
 | inr x=>obtain ⟨t,e⟩:=(show ∃ t,u=Value.str x t from r);subst e;exact Zfo P w x t
theorem ZcW {P:Program}{w:World}:∀ {ks:List Key}{us:List Value},Vals (ks.map kV) us→ItemsAre (Yw P w) ks us
 | [],_,r=>by rw [List.map_nil] at r;cases r;exact .nil
 | k::ks,_,r=>by
  rw [List.map_cons] at r
  cases r with
  | cons h t=>exact .cons (Zhl h) (ZcW t)
abbrev KT (H:Hp):List (List Key×V)→List (List Key×Addr×Value)→Prop:=Paired fun p q=>p.1=q.1∧H q.2.1=some (.tup (p.1.map kV))∧RelV p.2 q.2.2
theorem KT.val {H:Hp}{kvs:List (List Key×V)}{xs:List (List Key×Addr×Value)}(r:KT H kvs xs) (k:List Key):QY (YO kvs k) ((atKey xs k).map (·.2)):=by
 induction r with
 | nil=>exact True.intro
 | @cons p q ps qs h t ih =>
  obtain ⟨h1,_,h2⟩:=h
  by_cases e:p.1=k
  ·have e':q.1=k:=h1.symm.trans e
   have b:atKey (q::qs) k=some q.2:=by simp [atKey,List.find?_cons,e']
   rw [Yq e,b];exact h2
  ·have e':¬ q.1=k:=fun z=>e (h1.trans z)
   have b:atKey (q::qs) k=atKey qs k:=by simp [atKey,List.find?_cons,e']
   rw [Yo e,b];exact ih
theorem KT.ZmN {H:Hp}{kvs:List (List Key×V)}{xs:List (List Key×Addr×Value)}(r:KT H kvs xs) (k:List Key){y:V}{u:Value}(ry:RelV y u) :
  KT H (kvs.map fun kv=>if kv.1=k then (kv.1,y) else kv) (xs.map (putAt k u)):=by
 induction r with
 | nil=>exact .nil
 | @cons p q ps qs h t ih =>
  rw [List.map_cons,List.map_cons]
  refine .cons ?_ ih
  obtain ⟨h1,h2,h3⟩:=h
  unfold putAt
  by_cases e:p.1=k
  ·rw [if_pos e,if_pos (h1.symm.trans e)];exact ⟨h1,h2,ry⟩
  ·rw [if_neg e,if_neg (fun z=>e (h1.trans z))];exact ⟨h1,h2,h3⟩
theorem KT.put {H:Hp}{kvs:List (List Key×V)}{xs:List (List Key×Addr×Value)}(r:KT H kvs xs) (k:List Key){b:Addr}{y:V}{u:Value}(hb:H b=some (.tup (k.map kV))) (ry:RelV y u) :
  KT H (putK kvs k y) (storedH xs k b u):=by
 have e:(kvs.any fun kv=>decide (kv.1=k))=(atKey xs k).isSome:=by
  rw [JB,(r.val k).Zad,Option.isSome_map]
 unfold putK storedH
 rw [e]
 by_cases q:(atKey xs k).isSome=true
 ·rw [if_pos q,if_pos q];exact r.ZmN k ry
 ·rw [if_neg q,if_neg q];exact Paired.snoc r ⟨rfl,hb,ry⟩
theorem KT.keeps {H H':Hp}{kvs:List (List Key×V)}{xs:List (List Key×Addr×Value)}(r:KT H kvs xs) (ht:∀ b ys,H b=some (.tup ys)→H' b=some (.tup ys)):KT H' kvs xs :=
 Paired.Zmh r fun _ _ z=>⟨z.1,ht _ _ z.2.1,z.2.2⟩
section
variable {P:Program}{w:World}{H:Hp}{h:Heap}{a:Addr}
theorem Zlt {u:HO}(ok:HOk P w H h) (e:Rd H a u):Yb P w H h a u:=e.ok ok
theorem Zha {kvs:List (Key×V)}(ok:HOk P w H h) (e:Rd H a (.dK kvs)):kvs.length≤sizeLine∧(a==sysModules)=false∧∃ vs,KV kvs vs∧h.DictOf (Yw P w) a vs :=
 show Yb P w H h a (.dK kvs) from Zlt ok e
theorem Znk {kvs:List (Key×V)}(ok:HOk P w H h) (e:H a=some (.dK kvs)):kvs.length≤sizeLine∧(a==sysModules)=false∧∃ vs,KV kvs vs∧h.DictOf (Yw P w) a vs:=Zha ok (.inl e)
theorem Zdv {ks:List Key}(ok:HOk P w H h) (e:H a=some (.tup (ks.map kV))):(tupleKind (Yw P w)).is h ks a:=by
 obtain ⟨_,its,r,o,h1,h2,n,h3⟩:=(show Yb P w H h a (.tup (ks.map kV)) from ok a _ e)
 exact ⟨o,its.toArray,n,h1,h2,h3,by simpa using ZcW r⟩
theorem ZgU {kvs:List (List Key×V)}(ok:HOk P w H h) (e:Rd H a (.dT kvs)):kvs.length≤sizeLine∧(a==sysModules)=false ∧
  ∃ xs,KT H kvs xs∧h.DictOfH (tupleKind (Yw P w)) a xs:=by
 obtain ⟨z,y,xs,r,o,es,ep,h1,h2,h3,h4,h5⟩:=(show Yb P w H h a (.dT kvs) from Zlt ok e)
 refine ⟨z,y,xs,r,o,es,ep,h1,h2,h3,h4,fun x hx=>?_,h5⟩
 have all:∀ {l:List (List Key×V)}{m:List (List Key×Addr×Value)},KT H l m→∀ x∈m,(tupleKind (Yw P w)).is h x.1 x.2.1:=by
  intro l m q
  induction q with
  | nil=>intro x hx;exact nomatch hx
  | @cons p q ps qs hq t ih =>
   intro x hx
   rcases List.mem_cons.mp hx with e | hx
   ·subst e
    exact Zdv ok (by rw [← hq.1];exact hq.2.1)
   ·exact ih x hx
 exact all r x hx
theorem ZnH {kvs:List (List Key×V)}(ok:HOk P w H h) (e:H a=some (.dT kvs)):kvs.length≤sizeLine∧(a==sysModules)=false ∧
  ∃ xs,KT H kvs xs∧h.DictOfH (tupleKind (Yw P w)) a xs:=ZgU ok (.inl e)
end
def Zeo (H:Hp) (a:Addr) (y:V) (r:Option V):Prop :=
 (∃ kvs k,Rd H a (.dK kvs)∧y=kV k∧r=YO kvs k)∨∃ kvs k b,Rd H a (.dT kvs)∧y=.ref b∧H b=some (.tup (k.map kV))∧r=YO kvs k
def ZiQ (H:Hp) (a:Addr) (y v:V) (H':Hp):Prop :=
 (∃ kvs k,H a=some (.dK kvs)∧y=kV k∧kvs.length<sizeLine∧H'=upd H a (.dK (putK kvs k v))) ∨
 ∃ kvs k b,H a=some (.dT kvs)∧y=.ref b∧H b=some (.tup (k.map kV))∧kvs.length<sizeLine∧H'=upd H a (.dT (putK kvs k v))
theorem Zeo.k {H:Hp}{a:Addr}{kvs:List (Key×V)}{k:Key}(e:H a=some (.dK kvs)):Zeo H a (kV k) (YO kvs k):=.inl ⟨kvs,k,.inl e,rfl,rfl⟩
theorem ZiQ.k {H:Hp}{a:Addr}{kvs:List (Key×V)}{k:Key}{v:V}(e:H a=some (.dK kvs)) (hl:kvs.length<sizeLine):ZiQ H a (kV k) v (upd H a (.dK (putK kvs k v))):=.inl ⟨kvs,k,e,rfl,hl,rfl⟩
section
variable {X:Cx}{pins:List (Addr×Obj)}{σ:St}{H:Hp}{s:Shared}{a:Addr}{y v:V}{u r:Value}{o:Option V}{A:Around}{E:Value→Shared→Prop}
theorem Inv.big (I:Inv X pins σ H s):sysModules<s.heap.objs.size:=by
 have h:mainGlobals<s.heap.objs.size:=(I.mod.glob.keeps I.bk).lt
 exact Nat.lt_trans (by decide) h
theorem Zid {Q:Value→Shared→Prop}(hu:A.units+1<cLine) (I:Inv X pins σ H s) (g:Zeo H a y (some v)) (ry:RelV y u) (h:∀ w' s',Inv X pins σ H s'→RelV v w'→Q w' s') :
  wpAny (model X.prog X.w) A (getItem (.ref a) u) Q E s:=by
 rcases g with ⟨kvs,k,e,ey,l⟩ | ⟨kvs,k,b,e,ey,eb,l⟩
 ·subst ey
  obtain ⟨z,hd,vs,rel,dd⟩:=Zha I.hok e
  obtain ⟨w',hw,rw'⟩:=QY.some_of (v:=v) (o:=valueAt vs k) (by rw [l];exact rel.val k)
  exact wpAny_getItem_of (Zhl ry) dd.mapOf hw (h w' _ (I.tok _) rw')
 ·subst ey
  cases (show u=Value.ref b from ry)
  obtain ⟨z,hd,xs,rel,dd⟩:=ZgU I.hok e
  obtain ⟨w',hw,rw'⟩:=QY.some_of (v:=v) (o:=(atKey xs k).map (·.2)) (by rw [l];exact rel.val k)
  obtain ⟨p,hp,hp2⟩:=Option.map_eq_some_iff.mp hw
  refine wpAny_getItem_heap (tupleKind_room_in1 hu) (Zdv I.hok eb) dd hp ?_
  rw [hp2]
  exact h w' _ (I.tok _) rw'
theorem ZkC {Q:Value→Shared→Prop}(hu:A.units+1<cLine) (I:Inv X pins σ H s) (g:Zeo H a y o) (ry:RelV y u) (h:∀ s',Inv X pins σ H s'→Q (.bool (!o.isSome)) s') :
  wpAny (model X.prog X.w) A (compareOp .NotIn u (.ref a)) Q E s:=by
 rcases g with ⟨kvs,k,e,ey,l⟩ | ⟨kvs,k,b,e,ey,eb,l⟩
 ·subst ey
  obtain ⟨z,hd,vs,rel,dd⟩:=Zha I.hok e
  refine wpAny_notIn_of (Zhl ry) hd dd.mapOf ?_
  rw [← (rel.val k).Zad,← l]
  exact h _ (I.tok _)
 ·subst ey
  cases (show u=Value.ref b from ry)
  obtain ⟨z,hd,xs,rel,dd⟩:=ZgU I.hok e
  refine wpAny_notIn_heap (tupleKind_room_in1 hu) (Zdv I.hok eb) hd dd ?_
  have q:=(rel.val k).Zad
  rw [Option.isSome_map] at q
  rw [← q,← l]
  exact h _ (I.tok _)
theorem Zhf {h':Heap}{t':Nat}{ob:HO}(I:Inv X pins σ H s) (mu:Mut (H a)) (hs:Heap.SameBut a s.heap h') (he:∃ q,h'.get? a=some q) (new:Yb X.prog X.w (upd H a ob) h' a ob) :
  Inv X pins σ (upd H a ob) { s with heap:=h',toks:=t' } :=
 I.write (x:=a) (e:=a) mu (.inl rfl) (fun b q hb z=>(hs.2 b hb).trans z) he new
theorem ZlS {P:Program}{w:World}{H':Hp}{h':Heap}{kvs:List (Key×V)}{vs:List (Key×Value)}(z:kvs.length≤sizeLine) (hd:(a==sysModules)=false) (rel:KV kvs vs) (dd:h'.DictOf (Yw P w) a vs) :
  Yb P w H' h' a (.dK kvs):=⟨z,hd,vs,rel,dd⟩
theorem Zhy {H':Hp}{Q:Unit→Shared→Prop}(hu:A.units+1<cLine) (I:Inv X pins σ H s) (g:ZiQ H a y v H') (ry:RelV y u) (rv:RelV v r) (h:∀ s',Inv X pins σ H' s'→Q () s') :
  wpAny (model X.prog X.w) A (setItem (.ref a) u r) Q E s:=by
 rcases g with ⟨kvs,k,e,ey,l,eH⟩ | ⟨kvs,k,b,e,ey,eb,l,eH⟩
 ·subst ey eH
  obtain ⟨z,hd,vs,rel,dd⟩:=Znk I.hok e
  have hz:vs.length≤sizeLine:=by rw [← rel.length];exact z
  have hl:(putK kvs k v).length≤sizeLine:=by have:=ZaB kvs k v;lia
  refine wpAny_setItem_pairs (hsz:=hz) (Zhl ry) dd fun h' dd' hs=>h _ ?_
  have he:∃ q,h'.get? a=some q:=let ⟨q,_,_,hq,_⟩:=dd';⟨q,hq⟩
  exact Zhf I (by rw [e];exact True.intro) hs he (ZlS hl hd (rel.put k rv) dd')
 ·subst ey eH
  cases (show u=Value.ref b from ry)
  obtain ⟨z,hd,xs,rel,dd⟩:=ZnH I.hok e
  have hz:xs.length≤sizeLine:=by rw [← Paired.length rel];exact z
  have hl:(putK kvs k v).length≤sizeLine:=by have:=ZaB kvs k v;lia
  refine wpAny_setItem_heap (hsz:=hz) (tupleKind_room_in1 hu) (Zdv I.hok eb) dd fun h' dd' hs=>h _ ?_
  obtain ⟨q,es,ep,hq,h2,h3,h4,_,h5⟩:=dd'
  refine Zhf I (by rw [e];exact True.intro) hs ⟨q,hq⟩ ⟨hl,hd,_,(rel.put k eb rv).keeps fun c ys ec=>?_,q,es,ep,hq,h2,h3,h4,h5⟩
  rw [Zn (Xm ec e (fun z=>nomatch z))]
  exact ec
end
def ZnF (i:Expr):Prop:=∀ ov iv,subscripted i false ov iv=operate [ov,iv] (getItem ov iv)
theorem ZkQ {prog:Program}{w:World}{A:Around}{E:Value→Shared→Prop}{s:Shared}{env:Env}{value slice:Expr}{pos:Pos}{T id:String}{Q:Value→Shared→Prop}
  (hl:typeLookup (.type T) "__getitem__"=pure (some (.builtin id))) (hs:ZnF slice)
  (h:wpAny (model prog w) A (eval value env) (fun o s₁=>wpAny (model prog w) A (eval slice env) (fun i s₂=>s₂.TypeIs o T∧wpAny (model prog w) A (getItem o i) Q E s₂) E s₁) E s) :
  wpAny (model prog w) A (eval (.Subscript value slice pos) env) Q E s:=by
 refine Subscript_ (wpAny_mono h (fun o s₁ h₁=>wpAny_mono h₁ (fun i s₂ h₂=>?_) fun _ _ x=>x) fun _ _ x=>x)
 obtain ⟨hT,h₂⟩:=h₂
 unfold subscriptTail
 refine wpAny_bind ?_
 rw [getitemInPython_of_ne hT.not_modules]
 refine wpAny_bind (wpAny_specialOf hT hl ?_)
 have fin:wpAny (model prog w) A (subscripted slice false o i) (fun r s₃=>wpAny (model prog w) A (letTemporaryGo value o r >>= fun _=>pure r) Q E s₃) E s₂:=by
  rw [hs o i]
  exact wpAny_operating (wpAny_mono h₂ (fun r s₃ h₃=>wpAny_bind (wpAny_letTemporaryGo (wpAny_pure h₃))) fun _ _ x=>x)
 first
  | exact wpAny_pure (wpAny_bind fin)
  | exact wpAny_bind (wpAny_pure (wpAny_bind fin))
  | exact wpAny_bind fin
theorem ZeV {X:Cx}{pins:List (Addr×Obj)}{σ:St}{H:Hp}{s:Shared}{a:Addr}{y:V}{o:Option V}(I:Inv X pins σ H s) (g:Zeo H a y o):s.TypeIs (.ref a) "dict":=by
 rcases g with ⟨kvs,k,e,_,_⟩ | ⟨kvs,k,b,e,_,_,_⟩
 ·obtain ⟨_,_,vs,_,dd⟩:=Zha I.hok e
  exact dd.typeIs
 ·obtain ⟨_,_,xs,_,dd⟩:=ZgU I.hok e
  exact dd.typeIs
def Znd (td ty:TE):TE:=fun σ H Q=>td σ H fun x H1=>ty σ H1 fun y H2=>∃ a v,x=.ref a∧Zeo H2 a y (some v)∧Q v H2
def Zlg (ty td:TE):TE:=fun σ H Q=>ty σ H fun y H1=>td σ H1 fun x H2=>∃ a o,x=.ref a∧Zeo H2 a y o∧Q (.bl (!o.isSome)) H2
def ZnG (td ty tv:TE):TS:=fun D σ H=>tv σ H fun v H1=>td σ H1 fun x H2=>ty σ H2 fun y H3=>∃ a H4,x=.ref a∧ZiQ H3 a y v H4∧D.nx σ H4
section
variable {X:Cx}{o i e value:Expr}{pos pos' tpos:Pos}{td ty tv:TE}
theorem Zkq (hu:X.A.units+1<cLine) (ho:PE X o td) (hi:PE X i ty) (hs:ZnF i):PE X (.Subscript o i pos) (Znd td ty):=by
 intro pins s σ H Q I h
 refine ZkQ PySem.F.slot_dict_getitem.lookup hs (thn (ho pins s σ H _ I h) fun u s1 ⟨x,H1,I1,rx,q1⟩=>thn (hi pins s1 σ H1 _ I1 q1) fun iv s2 ⟨y,H2,I2,ry,a,v,ex,g,q2⟩=>?_)
 subst ex
 obtain rfl:u=Value.ref a:=rx
 exact ⟨ZeV I2 g,Zid hu I2 g ry fun w' s3 I3 rw'=>⟨v,H2,I3,rw',q2⟩⟩
theorem ZhT (hu:X.A.units+1<cLine) (hi:PE X i ty) (ho:PE X o td):PC X .NotIn i o (Zlg ty td):=by
 intro pins s σ H Q I h
 refine thn (hi pins s σ H _ I h) fun iv s1 ⟨y,H1,I1,ry,q1⟩=>thn (ho pins s1 σ H1 _ I1 q1) fun u s2 ⟨x,H2,I2,rx,a,ov,ex,g,q2⟩=>?_
 subst ex
 obtain rfl:u=Value.ref a:=rx
 exact ZkC hu I2 g ry fun s3 I3=>⟨.bl (!ov.isSome),H2,I3,rfl,q2⟩
theorem Zku (hu:X.A.units+1<cLine) (ho:PE X o td) (hi:PE X i ty) (hv:PE X value tv) (hs:swapsWith value (some (.Subscript o i pos')) pos.line X.env=pure false) :
  PS X (.Assign [.Subscript o i pos'] value pos) (ZnG td ty tv):=by
 intro pins s σ H D I h
 refine wpAny_Assign_Subscript (thn (hv pins s σ H _ I h) fun r s1 ⟨v,H1,I1,rv,q1⟩=>thn (ho pins s1 σ H1 _ I1 q1) fun u s2 ⟨x,H2,I2,rx,q2⟩=>thn (hi pins s2 σ H2 _ I2 q2) fun iv s3 ⟨y,H3,I3,ry,a,H4,ex,g,q3⟩=>?_) hs
 subst ex
 obtain rfl:u=Value.ref a:=rx
 exact Zhy hu I3 g ry rv fun s4 I4=>⟨σ,H4,I4,q3⟩
end
theorem Zjs {P:Program}{w:World}{H:Hp}(h:Heap) (hb:sysModules<h.objs.size):Yb P w H (h.push { cls:=.type "dict",data:=.dict #[] }) h.objs.size (.dK []) :=
 ⟨Nat.zero_le _,beq_eq_false_iff_ne.mpr (Ne.symm (Nat.ne_of_lt hb)),[],.nil,Heap.DictOf.new h⟩
def Zmi:TE:=fun _ H Q=>∀ p,H p=none→Q (.ref p) (upd H p (.dK []))
section
variable {X:Cx}{pos:Pos}
theorem Ziq:PE X (.Dict [] [] pos) Zmi:=fun pins s σ H Q I h =>
 wpAny_Dict_empty ⟨.ref s.heap.objs.size,_,I.laid (a:=s.heap.objs.size) (o:=.dK []) (t':=s.toks) (fun _ _ q=>Heap.get?_push_of_some _ q) (Nat.le_refl _) (Zjs s.heap I.big),rfl,h _ (I.hok.fresh (Nat.le_refl _))⟩
end
end L2
namespace L2
open PySem PySem.Spec PyProof.Rows
section
variable {X:Cx}{pins:List (Addr×Obj)}{σ:St}{H:Hp}{s:Shared}{h':Heap}
theorem Inv.ZgM {t':Nat}{ch:List Addr}(I:Inv X pins σ H s) (k:∀ b o,b∉ch→s.heap.get? b=some o→h'.get? b=some o) (hf:∀ b∈ch,QX X pins H b):Inv X pins σ H { s with heap:=h',toks:=t' }:=by
 have nit:∀ b u,H b=some u→b∉ch:=fun b u e z=>by
  have q:=(hf b z).1
  rw [q] at e;cases e
 refine I.step (g':=s.gens) (d':=s.drawn) (ch:=ch) (fun b hb=>⟨(hf b hb).2.2.2.1,(hf b hb).2.1,(hf b hb).2.2.2.2.1,(hf b hb).2.2.2.2.2⟩) (fun b o _ _ hc e _=>k b o hc e) (fun b o _ _ hc e _=>⟨o.slots,k b o hc e⟩)
  (fun _ _ _ _ n=>n) (fun b o hc e=>⟨o,k b o hc e⟩) (fun _ _ e=>e) (fun _ _ _ e=>e) (fun b ps e=>⟨#[],by rw [e];simp⟩) (fun m hm=>?_) (fun b u e=>?_) I.bare
 ·obtain ⟨o,es,ep,ho,r⟩:=hm
  exact ⟨o,es,ep,k _ o (fun z=>(hf _ z).2.1 rfl) ho,r⟩
 ·refine (I.hok b u e).stay (fun c v hc q=>k c v ?_ q) (fun _ q=>q) fun _ _ q=>q
  rcases hc with z | z
  ·rw [z];exact nit b u e
  ·exact nit c _ z
theorem Inv.Zak {t':Nat}{ch:List Addr}{T:Addr}{ob:HO}(I:Inv X pins σ H s) (k:∀ b o,b∉ch→s.heap.get? b=some o→h'.get? b=some o) (hf:∀ b∈ch,QX X pins H b) (hT:s.heap.objs.size≤T)
  (new:Yb X.prog X.w (upd H T ob) h' T ob):Inv X pins σ (upd H T ob) { s with heap:=h',toks:=t' }:=by
 have hn:H T=none:=I.hok.fresh hT
 have nit:∀ b u,H b=some u→b∉ch:=fun b u e z=>by
  have q:=(hf b z).1
  rw [q] at e;cases e
 refine I.step (g':=s.gens) (d':=s.drawn) (ch:=ch) (fun b hb=>⟨(hf b hb).2.2.2.1,(hf b hb).2.1,(hf b hb).2.2.2.2.1,(hf b hb).2.2.2.2.2⟩) (fun b o _ _ hc e _=>k b o hc e) (fun b o _ _ hc e _=>⟨o.slots,k b o hc e⟩)
  (fun b o _ e n=>?_) (fun b o hc e=>⟨o,k b o hc e⟩) (fun b xs e=>?_) (fun b o u e=>?_) (fun b ps e=>⟨#[],?_⟩) (fun m hm=>?_) (fun b u e=>?_) I.bare
 ·rw [Zn (Nat.ne_of_lt (Nat.lt_of_lt_of_le (Heap.lt_size e) hT))];exact n
 ·rw [Zn (Zs e hn)];exact e
 ·rw [Zn (Zs e hn)];exact e
 ·rw [Zn (Zs e hn),e];simp
 ·obtain ⟨o,es,ep,ho,r⟩:=hm
  exact ⟨o,es,ep,k _ o (fun z=>(hf _ z).2.1 rfl) ho,r⟩
 ·by_cases hb:b=T
  ·subst hb
   rw [Ze] at e
   cases e
   exact new
  ·rw [Zn hb] at e
   refine (I.hok b u e).stay (fun c v hc q=>k c v ?_ q) (fun c q=>by rw [Zn (Zs q hn)];exact q) fun c xs q=>by rw [Zn (Zs q hn)];exact q
   rcases hc with z | z
   ·rw [z];exact nit b u e
   ·exact nit c _ z
theorem Inv.lock {d:Addr}{u:HO}(I:Inv X pins σ H s) (h:H d=some u) (mu:Mut (some u)):∃ od,Inv X pins σ (upd H d (.frz od u)) s:=by
 have x:=I.hok d u h
 have ex:∃ od,s.heap.get? d=some od:=by
  cases u with
  | lst xs=>obtain ⟨_,_,_,_,e⟩:=x;exact ⟨_,e⟩
  | dK kvs=>obtain ⟨_,_,_,_,o,_,_,e,_⟩:=x;exact ⟨o,e⟩
  | dT kvs=>obtain ⟨_,_,_,_,o,_,_,e,_⟩:=x;exact ⟨o,e⟩
  | set S n=>obtain ⟨o,_,_,_,e,_⟩:=x;exact ⟨o,e⟩
  | ins C dx fs=>obtain ⟨_,_,_,e,_⟩:=x;exact ⟨_,e⟩
  | ext φ=>obtain ⟨_,⟨_,e⟩,_⟩:=x;exact ⟨_,e⟩
  | _=>exact False.elim mu
 obtain ⟨od,e⟩:=ex
 have new:Yb X.prog X.w (upd H d (.frz od u)) s.heap d (.frz od u):=by
  refine ⟨e,x.stay (fun b v _ q=>q) (fun b q=>?_) fun b xs q=>?_⟩
  ·rw [Zn (fun z=>by rw [z,h] at q;cases q;exact mu)];exact q
  ·rw [Zn (fun z=>by rw [z,h] at q;cases q;exact mu)];exact q
 exact ⟨od,I.write (x:=d) (e:=d) (t':=s.toks) (h':=s.heap) (by rw [h];exact mu) (.inl rfl) (fun b v _ q=>q) ⟨od,e⟩ new⟩
theorem Inv.Znv {d:Addr}{u:HO}(I:Inv X pins σ H s) (h:H d=some u) (mu:Mut (some u)):∀ o' u',X.H_0 d≠some (.frz o' u'):=fun o' u' e=>by
 have q:=I.base.frzs d o' u' e
 rw [h] at q
 cases q
 exact mu
theorem Inv.unlock {d:Addr}{od:Obj}{u:HO}(I:Inv X pins σ H s) (h:H d=some (.frz od u)) (hn:∀ o' u',X.H_0 d≠some (.frz o' u')):Inv X pins σ (upd H d u) s:=by
 have neH:∀ b o,H b=some o→(∀ o' u',o≠.frz o' u')→b≠d:=fun b o e hne z=>by
  rw [z,h] at e
  cases e
  exact hne _ _ rfl
 have neN:∀ b,H b=none→b≠d:=fun b e z=>by rw [z,h] at e;cases e
 refine ⟨I.ok,I.os,I.bare,⟨I.base.keep,I.base.slot,fun b o e n hx=>?_,I.base.there,fun b xs e=>?_,fun b o x e=>?_,fun b ps e=>?_⟩,I.loc,I.cell,?_,fun x c e=>?_,fun p hp=>?_,fun b o e=>?_,I.len⟩
 ·rw [Zn (neN b (I.base.free b o e n hx))];exact I.base.free b o e n hx
 ·have q:=I.base.tups b xs e
  rw [Zn (neH b _ q (fun _ _ z=>nomatch z))];exact q
 ·have q:=I.base.frzs b o x e
  rw [Zn (fun z=>by rw [z] at e;exact hn _ _ e)];exact q
 ·obtain ⟨m,q⟩:=I.base.tbls b ps e
  exact ⟨m,by rw [Zn (neH b _ q (fun _ _ z=>nomatch z))];exact q⟩
 ·rw [Zn (neN _ I.free)];exact I.free
 ·rw [Zn (neN c (I.freeC x c e))];exact I.freeC x c e
 ·obtain ⟨e,n,r⟩:=I.pin p hp
  exact ⟨e,by rw [Zn (neN _ n)];exact n,r⟩
 ·by_cases hb:b=d
  ·rw [hb,Ze] at e
   cases e
   rw [hb]
   obtain ⟨_,x⟩:=I.hok d _ h
   exact x.stay (fun c v _ q=>q) (fun c q=>by rw [Zn (neH c _ q (fun _ _ z=>nomatch z))];exact q) fun c xs q=>by rw [Zn (neH c _ q (fun _ _ z=>nomatch z))];exact q
  ·rw [Zn hb] at e
   exact (I.hok b o e).stay (fun c v _ q=>q) (fun c q=>by rw [Zn (neH c _ q (fun _ _ z=>nomatch z))];exact q) fun c xs q=>by rw [Zn (neH c _ q (fun _ _ z=>nomatch z))];exact q
end
def ZmD (t:TE):TE:=fun σ H Q=>∃ d u,H d=some u∧Mut (some u)∧∀ od,t σ (upd H d (.frz od u)) fun v H'=>H' d=some (.frz od u)∧Q v (upd H' d u)
section
variable {X:Cx}
theorem ZkN {e:Expr}{t:TE}(h:PE X e t):PE X e (ZmD t):=by
 intro pins s σ H Q I hw
 obtain ⟨d,u,hd,mu,hw⟩:=hw
 obtain ⟨od,I1⟩:=I.lock hd mu
 refine thn (h pins s σ _ _ I1 (hw od)) fun v s1 ⟨x,H1,I2,r,e2,q⟩=>?_
 exact ⟨x,_,I2.unlock e2 (I.Znv hd mu),r,q⟩
theorem Zmv {tg:Expr}{pins:List (Addr×Obj)}{σ:St}{H:Hp}{s:Shared}{R:It→Hp→Prop}{J:It}{tn:Nat→Heap→Prop}{tk:Nat}(I:Inv X pins σ H s) (o:Obj)
  (T:Turn X.prog X.w X.K tg J [s.heap.objs.size] s.heap.objs.size tn) (st:tn 0 (s.heap.push o)) (q:R J H):PIE X pins σ tg R (.ref s.heap.objs.size) { s with heap:=s.heap.push o,toks:=tk }:=by
 refine ⟨s.heap.objs.size,[s.heap.objs.size],tn,J,H,rfl,I.kept fun b ob e=>Heap.get?_push_of_some _ e,T,st,fun b hb=>?_,q⟩
 have e:b=s.heap.objs.size:=by simpa using hb
 subst e
 exact I.ZdQ (Nat.le_refl _) (I.hok.fresh (Nat.le_refl _))
end
def Itc (lo c:Int) (n:Nat):It:=⟨fun i _=>i<n,fun i H x H'=>H'=H∧x=.int (lo+(i:Nat)*c),fun i _=>n≤i⟩
theorem ZeG {P:Program}{w:World}{K:PySem.W.Frag}{tg:Expr}(it:Addr) (lo c:Int) (n:Nat):Turn P w K tg (Itc lo c n) [it] it (fun i h=>IsRangeIter h it (lo+(i:Nat)*c) ((n:Int)-(i:Nat)) c) where
 mem:=by simp
 obj:=fun i h st b hb=>by
  have e:b=it:=by simpa using hb
  subst e
  exact ⟨_,st,fun v z=>nomatch z⟩
 keep:=fun i h h' st k=>k it (by simp) _ st
 item:=by
  intro X hP hw hK hc i pins s σ H E I hf st hg
  subst hP hw hK
  obtain ⟨f0,f1,f2,f3,f4,f5⟩:=hf it (by simp)
  have W:=Walks.range (prog:=X.prog) (w:=X.w) (I.ok.hd hc) it lo c n
  refine W.item i s _ _ hg st fun v h' tk hv st' kk=>?_
  obtain ⟨t,rfl⟩:=hv
  have I1:Inv X pins σ H { s with heap:=h',toks:=tk }:=I.turned (fun b o hb e=>kk b o (by simpa using hb) e) f0 f1 f3 f4 f5
  exact ⟨_,rfl,Zhj (s:={ s with heap:=h',toks:=tk }) (n:="range_iterator") st' rfl rfl (by decide) ⟨.int (lo+(i:Nat)*c),H,I1,⟨t,rfl⟩,⟨rfl,rfl⟩,st',fun b hb=>(hf b hb).1⟩⟩
 done:=by
  intro X hP hw hK hc i pins s σ H E I hf st hg
  subst hP hw hK
  obtain ⟨f0,f1,f2,f3,f4,f5⟩:=hf it (by simp)
  exact wpAny_pyNext_range_end (I.ok.hd hc) st (by have:n≤i:=hg;lia) fun h' eb=>⟨rfl,I.turned (t':=s.toks) (fun b o hb e=>eb b o hb e) f0 f1 f3 f4 f5⟩
 self:=fun A i s Q E st h=>wpAny_pyIter_rangeiter st h
def RgC (i j c:Int) (n:Nat):Prop:=c≠0∧c.natAbs<1073741824∧Builtin.Range.small i j c=true∧Builtin.Range.rangeSize i j c=n
def ZmY (ta:TA):TI:=fun σ H R=>ta σ H fun vs H1=>∃ (i j c:Int) (n:Nat),vs=[.int i,.int j,.int c]∧RgC i j c n∧R (Itc i c n) H1
section
variable {X:Cx}{tg:Expr}
theorem Xs {a b c:Expr}{ta:TA}{p pos:Pos}(hg:Gl X "range") (hm:X.mg "range"=none) (ha:PA X [a,b,c] ta)
  (hs:starEach [a,b,c] X.env=(false,eval a X.env)::starEach [b,c] X.env:=by rfl) (hpl:(backTo pos (starEach [b,c] X.env)).any (·.1)=false:=by rfl) :
  PI X tg (.Call (.Name "range" p) [a,b,c] [] pos) (ZmY ta):=by
 intro pins s σ H R I h
 refine Call_ (QN I hg hm boot_range (PyProof.Rows.callWith_type1 (thn (ha pos pins s σ H _ I h) fun us s1 ⟨vs,H1,I1,r1,q1⟩=>?_) hs hpl))
 obtain ⟨i,j,k,n,e,⟨c0,c1,c2,c3⟩,q⟩:=q1
 subst e
 cases r1 with
 | cons r rr =>
  cases rr with
  | cons r' rr =>
   cases rr with
   | cons r'' rr =>
    cases rr
    obtain ⟨t,rfl⟩:=r
    obtain ⟨t',rfl⟩:=r'
    obtain ⟨t'',rfl⟩:=r''
    refine call_range_3 c0 ?_ (.inl (PyProof.noPylong_small c1))
    refine wpAny_pyIter_range (IsRange.new ..) c2 ?_
    have I2:Inv X pins σ H1 { s1 with heap:=s1.heap.push { cls:=.type "range",data:=.fields #[.int i t,.int j t',.int k t''] } }:=I1.kept (t':=s1.toks) fun b o e=>Heap.get?_push_of_some _ e
    refine Zmv (tk:=s1.toks) I2 _ (ZeG _ i k n) ?_ q
    have e1:i+((0:Nat):Int)*k=i:=by simp
    have e2:(n:Int)-((0:Nat):Int)=Builtin.Range.rangeSize i j k:=by rw [c3];simp
    show IsRangeIter _ _ (i+((0:Nat):Int)*k) ((n:Int)-((0:Nat):Int)) k
    rw [e1,e2]
    exact Heap.get?_push_size _ rfl
end
theorem Zci {lo c:Int}{n:Nat}{g:TG}{tb:TS}{D:Ends}{σ:St}{H:Hp}(Pv:Nat→St→Hp→Prop) (h0:Pv 0 σ H)
  (hs:∀ i σ H,i<n→Pv i σ H→g (.int (lo+(i:Nat)*c)) σ H fun σ2 H2=>tb { D with nx:=Pv (i+1),ct:=Pv (i+1),bk:=D.nx } σ2 H2) (hd:∀ σ H,Pv n σ H→D.nx σ H) :
  ∃ W:Nat→Nat→St→Hp→Prop,(∃ m,W 0 m σ H)∧∀ i m σ H,W i m σ H →
   ((Itc lo c n).stop i H∧D.nx σ H)∨((Itc lo c n).go i H∧∃ N:St→Hp→Prop,(∀ σ' H',N σ' H'→∃ m',m'<m∧W (i+1) m' σ' H')∧∀ x H',(Itc lo c n).yld i H x H'→g x σ H' fun σ2 H2=>tb { D with nx:=N,ct:=N,bk:=D.nx } σ2 H2):=by
 refine ⟨fun i m σ H=>m=n-i∧i≤n∧Pv i σ H,⟨n,by simp,Nat.zero_le _,h0⟩,?_⟩
 rintro i m σ H ⟨rfl,hi,p⟩
 by_cases hlt:i<n
 ·refine .inr ⟨hlt,Pv (i+1),fun σ' H' p'=>⟨n-(i+1),by lia,rfl,hlt,p'⟩,fun x H' y=>?_⟩
  obtain ⟨e,y⟩:=y
  subst e y
  exact hs i σ _ hlt p
 ·have e:i=n:=by lia
  subst e
  exact .inl ⟨Nat.le_refl _,hd σ H p⟩
def Ite (K:PySem.W.Frag) (a:Addr):It :=
 ⟨fun i H=>∃ (xs:List V) (x:V),SqL K H a xs∧xs[i]?=some x,fun i H v H'=>∃ T x,v=.ref T∧H T=none∧H'=upd H T (.tup [.int (i:Nat),x])∧∀ xs,SqL K H a xs→xs[i]?=some x,fun i H=>∃ xs:List V,SqL K H a xs∧xs.length≤i⟩
theorem ZhZ {P:Program}{w:World}{K:PySem.W.Frag}{elts:List Expr}{kk:Nat}{tpos:Pos}(a e it:Addr) :
  Turn P w K (.Tuple elts kk tpos) (Ite K a) [e,it] e (fun i h=>(∃ old,IsEnum h e it ((i:Nat):Int) old)∧h.IsListIter it a i∧e≠it) where
 mem:=by simp
 obj:=fun i h st b hb=>by
  obtain ⟨⟨old,he⟩,⟨o,ho,hc,hd⟩,_⟩:=st
  have e':b=e∨b=it:=by simpa using hb
  rcases e' with z | z
  ·rw [z];exact ⟨_,he,fun v q=>nomatch q⟩
  ·rw [z];exact ⟨o,ho,fun v q=>by rw [hd] at q;cases q⟩
 keep:=fun i h h' st k=>let ⟨⟨old,he⟩,hi,hne⟩:=st;⟨⟨old,k e (by simp) _ he⟩,hi.at fun o q=>k it (by simp) o q,hne⟩
 item:=by
  intro X hP hw hK hc i pins s σ H E I hf st hg
  subst hP hw hK
  obtain ⟨⟨old,he⟩,hit,hne⟩:=st
  obtain ⟨xs,x,hq,hx⟩:=hg
  obtain ⟨its,rv,p,hz⟩:=I.list hq
  obtain ⟨u,hu,ru⟩:=rv.get hx
  have hel:e<s.heap.objs.size:=Heap.lt_size he
  have hil:it<s.heap.objs.size:=by obtain ⟨_,q,_⟩:=hit;exact Heap.lt_size q
  refine wpAny_pyNext_enum_item he hit p.isList (x:=u) (by simpa using hu) hne fun h' ho hit' hT hsz hk=>?_
  refine ⟨_,rfl,wpAny_letOwnedTupleGo_enum (s:={ s with heap:=h',toks:=s.toks+1 }) ho fun h'' he' sb=>?_⟩
  have hT2:h''.get? s.heap.objs.size=some { cls:=.type "tuple",data:=.seq #[.int i s.toks,u] }:=(sb.2 _ (Nat.ne_of_gt hel)).trans hT
  have new:Yb X.prog X.w (upd H s.heap.objs.size (.tup [.int (i:Nat),x])) h'' s.heap.objs.size (.tup [.int (i:Nat),x]) :=
   ⟨by show 2≤sizeLine;decide,[.int i s.toks,u],.cons ⟨_,rfl⟩ (.cons ru .nil),⟨_,hT2,rfl,_,rfl⟩⟩
  have I1:Inv X pins σ (upd H s.heap.objs.size (.tup [.int (i:Nat),x])) { s with heap:=h'',toks:=s.toks+1 } :=
   I.Zak (ch:=[e,it]) (fun b ob hb q=>(sb.2 b (fun z=>hb (by simp [z]))).trans (hk b ob (fun z=>hb (by simp [z])) (fun z=>hb (by simp [z])) q)) hf (Nat.le_refl _) new
  refine ⟨.ref s.heap.objs.size,_,I1,rfl,⟨_,x,rfl,I.hok.fresh (Nat.le_refl _),rfl,fun ys hy=>by rw [I.JO hy hq];exact hx⟩,⟨⟨u,?_⟩,hit'.at fun o q=>(sb.2 it (Ne.symm hne)).trans q,hne⟩,fun b hb=>?_⟩
  ·have e1:((i+1:Nat):Int)=(i:Int)+1:=by lia
   rw [e1];exact he'
  ·have hb':b<s.heap.objs.size:=by
    have e':b=e∨b=it:=by simpa using hb
    rcases e' with z | z
    ·rw [z];exact hel
    ·rw [z];exact hil
   rw [Zn (Nat.ne_of_lt hb')]
   exact (hf b hb).1
 done:=by
  intro X hP hw hK hc i pins s σ H E I hf st hg
  subst hP hw hK
  obtain ⟨⟨old,he⟩,hit,hne⟩:=st
  obtain ⟨xs,hq,hx⟩:=hg
  obtain ⟨its,rv,p,hz⟩:=I.list hq
  obtain ⟨f0,f1,f2,f3,f4,f5⟩:=hf it (by simp)
  have hl:=rv.length
  exact wpAny_pyNext_enum_end (I.ok.hd hc) he hit p.isList (by simp;lia) fun h' eb=>⟨rfl,I.turned (t':=s.toks) (fun b o hb q=>eb b o hb q) f0 f1 f3 f4 f5⟩
 self:=fun A i s Q E st h=>let ⟨⟨_,he⟩,_⟩:=st;wpAny_pyIter_enum he h
def Znf (K:PySem.W.Frag) (ta:TA):TI:=fun σ H R=>ta σ H fun vs H1=>∃ a xs,vs=[.ref a]∧SqL K H1 a xs∧R (Ite K a) H1
theorem Zkn {X:Cx}{e:Expr}{ta:TA}{p pos tpos:Pos}{elts:List Expr}{kk:Nat}(hg:Gl X "enumerate") (hm:X.mg "enumerate"=none) (ha:PA X [e] ta) (hs:starEach [e] X.env=[(false,eval e X.env)]:=by rfl) :
  PI X (.Tuple elts kk tpos) (.Call (.Name "enumerate" p) [e] [] pos) (Znf X.K ta):=by
 intro pins s σ H R I h
 refine Call_ (QN I hg hm boot_enumerate (PyProof.Rows.callWith_type1 (thn (ha pos pins s σ H _ I h) fun us s1 ⟨vs,H1,I1,r1,q1⟩=>?_) hs rfl))
 obtain ⟨a,xs,ex,hq,q⟩:=q1
 subst ex
 cases r1 with
 | cons r rr =>
  cases rr
  cases r
  obtain ⟨its,rv,p',hz⟩:=I1.list hq
  refine call_enumerate_list p'.isList fun h' he hit hsz hk=>wpAny_pyIter_enum he ?_
  have I2:Inv X pins σ H1 { s1 with heap:=h' }:=I1.kept (t':=s1.toks) hk
  refine ⟨s1.heap.objs.size+1,[s1.heap.objs.size+1,s1.heap.objs.size],_,_,H1,rfl,I2,ZhZ a (s1.heap.objs.size+1) s1.heap.objs.size,⟨⟨.none,he⟩,hit,Nat.succ_ne_self _⟩,fun b hb=>?_,q⟩
  have e':b=s1.heap.objs.size+1∨b=s1.heap.objs.size:=by simpa using hb
  have hle:s1.heap.objs.size≤b:=by
   rcases e' with z | z
   ·rw [z];exact Nat.le_add_right _ _
   ·rw [z];exact Nat.le_refl _
  exact I1.ZdQ hle (I1.hok.fresh hle)
theorem Zdc:bootBuiltins "zip"=some (.type "zip"):=by decide +kernel
def Itz (K:PySem.W.Frag) (a b:Addr):It :=
 ⟨fun i H=>∃ (xs ys:List V) (x y:V),SqL K H a xs∧SqL K H b ys∧xs[i]?=some x∧ys[i]?=some y,
  fun i H v H'=>∃ T x y,v=.ref T∧H T=none∧H'=upd H T (.tup [x,y])∧(∀ xs,SqL K H a xs→xs[i]?=some x)∧∀ ys,SqL K H b ys→ys[i]?=some y,
  fun i H=>∃ xs ys:List V,SqL K H a xs∧SqL K H b ys∧(xs.length≤i∨ys.length≤i)⟩
theorem ZjV {P:Program}{w:World}{K:PySem.W.Frag}{elts:List Expr}{kk:Nat}{tpos:Pos}{a b z TI TO i1 i2:Addr}(D:ZipApart z TI TO i1 i2 a b) :
  Turn P w K (.Tuple elts kk tpos) (Itz K a b) [z,TI,TO,i1,i2] z (fun i h=>IsZip h z TI TO .none∧IsPair h TI (.ref i1) (.ref i2)∧(∃ x y,IsPair h TO x y)∧h.IsListIter i1 a i∧h.IsListIter i2 b i) where
 mem:=by simp
 obj:=fun i h st c hc=>by
  obtain ⟨hz,hTI,⟨x,y,hTO⟩,⟨o1,e1,_,d1⟩,⟨o2,e2,_,d2⟩⟩:=st
  have e':c=z∨c=TI∨c=TO∨c=i1∨c=i2:=by simpa using hc
  rcases e' with q | q | q | q | q
  ·rw [q];exact ⟨_,hz,fun v q=>nomatch q⟩
  ·rw [q];exact ⟨_,hTI,fun v q=>nomatch q⟩
  ·rw [q];exact ⟨_,hTO,fun v q=>nomatch q⟩
  ·rw [q];exact ⟨o1,e1,fun v q=>by rw [d1] at q;cases q⟩
  ·rw [q];exact ⟨o2,e2,fun v q=>by rw [d2] at q;cases q⟩
 keep:=fun i h h' st k=>by
  obtain ⟨hz,hTI,⟨x,y,hTO⟩,h1,h2⟩:=st
  exact ⟨k z (by simp) _ hz,k TI (by simp) _ hTI,⟨x,y,k TO (by simp) _ hTO⟩,h1.at fun o q=>k i1 (by simp) o q,h2.at fun o q=>k i2 (by simp) o q⟩
 item:=by
  intro X hP hw hK hc i pins s σ H E I hf st hg
  subst hP hw hK
  obtain ⟨hz,hTI,⟨x0,y0,hTO⟩,h1,h2⟩:=st
  obtain ⟨xs,ys,x,y,hqx,hqy,hx,hy⟩:=hg
  obtain ⟨its,rv,p,_⟩:=I.list hqx
  obtain ⟨its2,rv2,p2,_⟩:=I.list hqy
  obtain ⟨u,hu,ru⟩:=rv.get hx
  obtain ⟨u2,hu2,ru2⟩:=rv2.get hy
  have hzl:z<s.heap.objs.size:=Heap.lt_size hz
  refine wpAny_pyNext_zip_item D hz hTI hTO h1 h2 p.isList p2.isList (x:=u) (y:=u2) (by simpa using hu) (by simpa using hu2) fun h' z' TO' h1' h2' hT hsz hk=>?_
  refine ⟨_,rfl,wpAny_letOwnedTupleGo_zip (s:={ s with heap:=h' }) z' fun h'' z'' sb=>?_⟩
  have hT2:h''.get? s.heap.objs.size=some { cls:=.type "tuple",data:=.seq #[u,u2] }:=(sb.2 _ (Nat.ne_of_gt hzl)).trans hT
  have new:Yb X.prog X.w (upd H s.heap.objs.size (.tup [x,y])) h'' s.heap.objs.size (.tup [x,y]) :=
   ⟨by show 2≤sizeLine;decide,[u,u2],.cons ru (.cons ru2 .nil),⟨_,hT2,rfl,_,rfl⟩⟩
  have I1:Inv X pins σ (upd H s.heap.objs.size (.tup [x,y])) { s with heap:=h'' } :=
   I.Zak (t':=s.toks) (ch:=[z,TI,TO,i1,i2]) (fun c o hb q=>(sb.2 c (fun q'=>hb (by simp [q']))).trans (hk c o (fun q'=>hb (by simp [q'])) (fun q'=>hb (by simp [q'])) (fun q'=>hb (by simp [q'])) (fun q'=>hb (by simp [q'])) q)) hf (Nat.le_refl _) new
  refine ⟨.ref s.heap.objs.size,_,I1,rfl,⟨_,x,y,rfl,I.hok.fresh (Nat.le_refl _),rfl,fun l hl=>by rw [I.JO hl hqx];exact hx,fun l hl=>by rw [I.JO hl hqy];exact hy⟩,⟨z'',?_,⟨u,u2,?_⟩,?_,?_⟩,fun c hcm=>?_⟩
  ·exact (sb.2 _ D.TIz).trans (hk _ _ D.TIz D.TITO D.TIi1 D.TIi2 hTI)
  ·exact (sb.2 _ D.TOz).trans TO'
  ·exact h1'.at fun o q=>(sb.2 _ D.i1z).trans q
  ·exact h2'.at fun o q=>(sb.2 _ D.i2z).trans q
  ·have hlt:c<s.heap.objs.size:=by
    have e':c=z∨c=TI∨c=TO∨c=i1∨c=i2:=by simpa using hcm
    rcases e' with q | q | q | q | q
    ·rw [q];exact hzl
    ·rw [q];exact Heap.lt_size hTI
    ·rw [q];exact Heap.lt_size hTO
    ·rw [q];obtain ⟨_,e1,_⟩:=h1;exact Heap.lt_size e1
    ·rw [q];obtain ⟨_,e2,_⟩:=h2;exact Heap.lt_size e2
   rw [Zn (Nat.ne_of_lt hlt)]
   exact (hf c hcm).1
 done:=by
  intro X hP hw hK hc i pins s σ H E I hf st hg
  subst hP hw hK
  obtain ⟨hz,hTI,⟨x0,y0,hTO⟩,h1,h2⟩:=st
  obtain ⟨xs,ys,hqx,hqy,hend⟩:=hg
  obtain ⟨its,rv,p,_⟩:=I.list hqx
  obtain ⟨its2,rv2,p2,_⟩:=I.list hqy
  have l1:=rv.length
  have l2:=rv2.length
  have he:its.toArray[i]?=none∨its2.toArray[i]?=none:=by
   rcases hend with q | q
   ·exact .inl (by simp;lia)
   ·exact .inr (by simp;lia)
  exact wpAny_pyNext_zip_end (I.ok.hd hc) D hz hTI hTO h1 h2 p.isList p2.isList he fun h' hk=>⟨rfl,I.ZgM (t':=s.toks) (ch:=[z,TI,TO,i1,i2]) (fun c o hb q =>
   hk c o (fun q'=>hb (by simp [q'])) (fun q'=>hb (by simp [q'])) (fun q'=>hb (by simp [q'])) (fun q'=>hb (by simp [q'])) q) hf⟩
 self:=fun A i s Q E st h=>wpAny_pyIter_zip st.1 h
def Zon (K:PySem.W.Frag) (ta:TA):TI:=fun σ H R=>ta σ H fun vs H1=>∃ a b xs ys,vs=[.ref a,.ref b]∧SqL K H1 a xs∧SqL K H1 b ys∧R (Itz K a b) H1
theorem Zep {X:Cx}{e e2:Expr}{ta:TA}{p pos tpos:Pos}{elts:List Expr}{kk:Nat}(hg:Gl X "zip") (hm:X.mg "zip"=none) (ha:PA X [e,e2] ta)
  (hs:starEach [e,e2] X.env=(false,eval e X.env)::starEach [e2] X.env:=by rfl) (hpl:(backTo pos (starEach [e2] X.env)).any (·.1)=false:=by rfl) :
  PI X (.Tuple elts kk tpos) (.Call (.Name "zip" p) [e,e2] [] pos) (Zon X.K ta):=by
 intro pins s σ H R I h
 refine Call_ (QN I hg hm Zdc (PyProof.Rows.callWith_type1 (thn (ha pos pins s σ H _ I h) fun us s1 ⟨vs,H1,I1,r1,q1⟩=>?_) hs hpl))
 obtain ⟨a,b,xs,ys,ex,hqx,hqy,q⟩:=q1
 subst ex
 cases r1 with
 | cons r rr =>
  cases rr with
  | cons r' rr =>
   cases rr
   cases r
   cases r'
   obtain ⟨its,rv,p1,_⟩:=I1.list hqx
   obtain ⟨its2,rv2,p2,_⟩:=I1.list hqy
   have la:a<s1.heap.objs.size:=p1.lt
   have lb:b<s1.heap.objs.size:=p2.lt
   refine call_zip_2 p1.isList p2.isList fun h' hz hTI hTO h1 h2 hsz hk=>wpAny_pyIter_zip hz ?_
   have I2:Inv X pins σ H1 { s1 with heap:=h' }:=I1.kept (t':=s1.toks) hk
   refine ⟨s1.heap.objs.size+4,[s1.heap.objs.size+4,s1.heap.objs.size+2,s1.heap.objs.size+3,s1.heap.objs.size,s1.heap.objs.size+1],_,_,H1,rfl,I2,ZjV (PySem.W.ktu_apart s1.heap.objs.size a b la lb),⟨hz,hTI,⟨_,_,hTO⟩,h1,h2⟩,fun c hcm=>?_,q⟩
   have e':c=s1.heap.objs.size+4∨c=s1.heap.objs.size+2∨c=s1.heap.objs.size+3∨c=s1.heap.objs.size∨c=s1.heap.objs.size+1:=by simpa using hcm
   have hle:s1.heap.objs.size≤c:=by
    rcases e' with z | z | z | z | z
    ·rw [z];exact Nat.le_add_right _ _
    ·rw [z];exact Nat.le_add_right _ _
    ·rw [z];exact Nat.le_add_right _ _
    ·rw [z];exact Nat.le_refl _
    ·rw [z];exact Nat.le_add_right _ _
   exact I1.ZdQ hle (I1.hok.fresh hle)
end L2
namespace L2
open PySem PySem.Spec PyProof.Rows
abbrev KOf {K:PySem.W.Frag}{h:Heap}(_:K.In h):PySem.W.Frag:=K
end L2
namespace L2
open PySem PySem.Spec PyProof.Rows
def inClass (s:Stmt) (j:Nat):Stmt:=match s with
 | .ClassDef _ _ _ body _ _ _ _ _ _ _=>body.getD j (.Pass ⟨0,0,0,0⟩)
 | _=>.Pass ⟨0,0,0,0⟩
def Yz (s:Stmt):Arguments:=match s with
 | .FunctionDef _ a _ _ _ _ _ _ _ _=>a
 | _=>{ posonlyargs:=[],args:=[],vararg:=none,kwonlyargs:=[],kw_defaults:=[],kwarg:=none,defaults:=[] }
def ZK (s:Stmt):List Stmt:=match s with
 | .FunctionDef _ _ b _ _ _ _ _ _ _=>b
 | _=>[]
def Zk (s:Stmt):Scope:=match s with
 | .FunctionDef _ _ _ _ _ _ sc _ _ _=>sc
 | _=>{ kind:=.function,names:=[],isGenerator:=false,isCoroutine:=false }
abbrev CX0:CXT:=fun _ _ _ _ _ _=>False
abbrev E0:XK:=fun _ _ _=>False
theorem Zi {X:Cx}:Passes CX0 X E0:=fun _ _ _ _ _ _ _ h=>h.elim
structure Fun (K:PySem.W.Frag) (x qual:Str) (st:Stmt) (f:Addr) (fd:FuncData):Prop where
 ex:∃ (oc:Value) (od:Option Addr) (kV doc pm:Value) (an:Option Addr) (cdv ct:Value) (osl:Array (Option Value)),
  fd=PySem.W.fnOf x qual (Yz st) (ZK st) (Zk st) .none kV doc pm an cdv ct∧K.lookup f=some ⟨oc,od,.func fd,osl⟩∧PySem.W.codeIn K cdv qual=true
 kp:PySem.W.keepIn K (.ref f)=true
section
variable {P:Program}{w:World}{K:PySem.W.Frag}{mg:Str→Option Value}{base:Heap}
theorem Fun.ok {x qual:Str}{st:Stmt}{f:Addr}{fd:FuncData}{N ps:List Str}{k:Nat}{sp:Sp}(F:Fun K x qual st f fd) (S:ZW N ps (Zk st)) (len:∀ vs H Q E,sp vs H Q E→vs.length=ps.length)
  (hbody:∀ (cdv:Value) (A:Around) (outer:List Env) (s:Shared) (H:Hp) (vs:List V) (Q:VK) (E:XK),Yf k (A.deeper (envOfC qual (Zk st) s.heap.objs.size f cdv))→sp vs H Q E →
   ∃ t,PSs (Ja CX0 P w K mg base N qual (Zk st) f cdv A outer s H E).nox (ZK st) t∧t { nx:=fun _ H'=>Q .non H',rt:=Q } (start N vs) H):Yi P w K mg base CX0 (k+1) f fd ps sp:=by
 obtain ⟨oc,od,kV,doc,pm,an,cdv,ct,osl,rfl,lk,hcd⟩:=F.ex
 refine Zlx lk hcd S len fun A outer s H vs Q E hr hsp=>?_
 obtain ⟨t,h,q⟩:=hbody cdv A outer s H vs Q E hr hsp
 exact ⟨t,h.nox,q⟩
theorem Fun.binds {x qual:Str}{st:Stmt}{f:Addr}{fd:FuncData}{ps:List Str}(F:Fun K x qual st f fd)
  (h:∀ (kV doc pm:Value) (an:Option Addr) (cdv ct:Value) (us:List Value),us.length=ps.length→bindArgs (PySem.W.fnOf x qual (Yz st) (ZK st) (Zk st) .none kV doc pm an cdv ct) ⟨us,[]⟩=pure (ps.zip us)):Binds K fd ps []:=by
 obtain ⟨oc,od,kV,doc,pm,an,cdv,ct,osl,rfl,lk,hcd⟩:=F.ex
 exact .all (h kV doc pm an cdv ct)
theorem Zdp {x qual:Str}{st:Stmt}{f:Addr}{oc:Value}{od an:Option Addr}{osl:Array (Option Value)}{kV doc pm cdv ct:Value}(l:K.lookup f=some ⟨oc,od,.func (PySem.W.fnOf x qual (Yz st) (ZK st) (Zk st) .none kV doc pm an cdv ct),osl⟩)
  (c:PySem.W.codeIn K cdv qual=true) (k:PySem.W.keepIn K (.ref f)=true):Fun K x qual st f (PySem.W.fnOf x qual (Yz st) (ZK st) (Zk st) .none kV doc pm an cdv ct):=⟨⟨oc,od,kV,doc,pm,an,cdv,ct,osl,rfl,l,c⟩,k⟩
end
theorem Ziz {A:Around}{k:Nat}(hr:Yf k A):A.units+1<cLine:=Nat.lt_of_le_of_lt (Nat.add_le_add_left (by decide:1≤64) _) hr.units
section
variable {X:Cx}
theorem pv (i:Nat){x:Str}{pos:Pos}(hN:X.N[i]?=some x:=by rfl) (hv:Vis X.env.scope x:=by first | exact Or.inl rfl | exact Or.inr (Or.inl rfl) | exact Or.inr (Or.inr rfl)) (hd:(x==("__debug__":Str))=false:=by decide)
  (hcd:(x==("__classdict__":Str))=false:=by decide):PE X (.Name x pos) (ZH i):=ZmQ hN hv hd hcd
end
theorem ZfI {A B:Prop}(h:B):if false=true then A else B:=by
 rw [if_neg Bool.false_ne_true]
 exact h
theorem Zjw {A B:Prop}(h:A):if true=true then A else B:=by
 rw [if_pos rfl]
 exact h
theorem Ye {c A B:Prop}[Decidable c] (h1:c→A) (h2:¬ c→B):if c then A else B:=by
 by_cases h:c
 ·rw [if_pos h]
  exact h1 h
 ·rw [if_neg h]
  exact h2 h
def Zq (H H':Hp):Prop:=∀ b o,H b=some o→H' b=some o
theorem Zq.refl (H:Hp):Zq H H:=fun _ _ h=>h
theorem Zq.trans {H H1 H2:Hp}(a:Zq H H1) (b:Zq H1 H2):Zq H H2:=fun c o h=>b c o (a c o h)
theorem Zq.free {H H':Hp}(e:Zq H H'){l:Addr}(h:H' l=Option.none):H l=Option.none:=by
 cases q:H l with
 | none=>rfl
 | some o =>
  rw [e l o q] at h
  cases h
theorem Zq.seq {K:PySem.W.Frag}{H H':Hp}{a:Addr}{xs:List V}(e:Zq H H') (h:SqL K H a xs):SqL K H' a xs:=by
 rcases h with (h | ⟨o,h⟩) | h
 ·exact .inl (.inl (e _ _ h))
 ·exact .inl (.inr ⟨o,e _ _ h⟩)
 ·exact .inr h
theorem Zq.made {H H1:Hp}{x dx C:Addr}(nx:H x=Option.none) (nd:H dx=Option.none) (k:∀ b o,(upd (upd H dx (.own x)) x (.ins C dx [])) b=some o→b≠x→H1 b=some o):Zq H H1:=fun b o e =>
 k b o (by rw [Zn (Zs e nx),Zn (Zs e nd)];exact e) (Zs e nx)
end L2
section
set_option maxHeartbeats 2000000
namespace L2
open PySem PySem.Spec PyProof.Rows
open PySem.W (WData Codec OpenSpec Well WellAll ReadsW ReadsAllW)
mutual
inductive Dw (K:PySem.W.Frag) (H:Hp):V→WData→Prop
 | non:Dw K H .non .none
 | bl (b:Bool):Dw K H (.bl b) (.bool b)
 | int (i:Int):Dw K H (.int i) (.int i)
 | str (x:Str):Dw K H (.str x) (.str x)
 | byt (b:Array UInt8):Dw K H (.byt b) (.bytes b.toList)
 | lst {a:Addr}{xs:List V}{ds:List WData}:SqL K H a xs→XE K H xs ds→Dw K H (.ref a) (.list ds)
 | tup {a:Addr}{xs:List V}{ds:List WData}:SqT K H a xs→XE K H xs ds→Dw K H (.ref a) (.tuple ds)
inductive XE (K:PySem.W.Frag) (H:Hp):List V→List WData→Prop
 | nil:XE K H [] []
 | cons {v:V}{vs:List V}{d:WData}{ds:List WData}:Dw K H v d→XE K H vs ds→XE K H (v::vs) (d::ds)
end
theorem ZgE {K:PySem.W.Frag}{H:Hp}:∀ ns:List Int,XE K H (ns.map V.int) (ns.map WData.int)
 | []=>.nil
 | n::r=>.cons (.int n) (ZgE r)
theorem ZgC {K:PySem.W.Frag}{H:Hp}:∀ (ns:List Int) (xs:List V),XE K H xs (ns.map WData.int)→xs=ns.map V.int
 | [],xs,h=>by
  cases h
  rfl
 | n::r,xs,h=>by
  cases h with
  | cons h1 h2 =>
   cases h1
   rw [ZgC r _ h2] <;> rfl
section
variable {P:Program}{w:World}{K:PySem.W.Frag}{H:Hp}{h:Heap}{R:PySem.W.WRecords}{cl:Str→Option Addr}
theorem Zmc {a:Addr}{xs:List V}(hok:HOk P w H h) (KX:K.In h) (q:SqL K H a xs):∃ (its:List Value) (o:Obj) (n:Nat),Vals xs its∧h.get? a=some o∧o.cls=.type "list"∧o.data=.seq its.toArray n:=by
 rcases q with q | ⟨o,its,n,e,hc,_,hd,_,hv⟩
 ·obtain ⟨_,its,n,hv,e⟩:=(show Yb P w H h a (.lst xs) from q.ok hok)
  exact ⟨its,_,n,hv,e,rfl,rfl⟩
 ·exact ⟨its.toList,o,n,hv,KX _ _ e,hc,by simp [hd]⟩
theorem ZlL {a:Addr}{xs:List V}(hok:HOk P w H h) (KX:K.In h) (q:SqT K H a xs):∃ (its:List Value) (o:Obj) (n:Nat),Vals xs its∧h.get? a=some o∧o.cls=.type "tuple"∧o.data=.seq its.toArray n:=by
 rcases q with q | ⟨o,its,n,e,hc,hd,_,hv⟩
 ·obtain ⟨_,its,hv,o,e,hc,n,hd⟩:=(show Yb P w H h a (.tup xs) from q.ok hok)
  exact ⟨its,o,n,hv,e,hc,hd⟩
 ·exact ⟨its.toList,o,n,hv,KX _ _ e,hc,by simp [hd]⟩
mutual
theorem Dw.reads (hok:HOk P w H h) (KX:K.In h):∀ (d:WData) (v:V) (u:Value),Dw K H v d→RelV v u→∃ as,ReadsW R cl h u d as
 | .none,_,_,x,r=>by
  cases x
  cases r
  exact ⟨_,ReadsW.none⟩
 | .bool b,_,_,x,r=>by
  cases x
  cases r
  exact ⟨_,ReadsW.bool b⟩
 | .int i,_,_,x,r=>by
  cases x
  obtain ⟨t,rfl⟩:=r
  exact ⟨_,ReadsW.int i t⟩
 | .str s,_,_,x,r=>by
  cases x
  obtain ⟨t,rfl⟩:=r
  exact ⟨_,ReadsW.str s t⟩
 | .bytes b,_,_,x,r=>by
  cases x
  obtain ⟨t,rfl⟩:=r
  exact ⟨_,ReadsW.bytes _ t⟩
 | .list ds,_,_,x,r=>by
  cases x with
  | lst hs ha =>
   cases r
   obtain ⟨its,o,n,rv,ho,hc,hd⟩:=Zmc hok KX hs
   obtain ⟨as,hr⟩:=Dw.readsAll hok KX ds _ its ha rv
   exact ⟨_,ReadsW.list ho hc hd hr⟩
 | .tuple ds,_,_,x,r=>by
  cases x with
  | tup hs ha =>
   cases r
   obtain ⟨its,o,n,rv,ho,hc,hd⟩:=ZlL hok KX hs
   obtain ⟨as,hr⟩:=Dw.readsAll hok KX ds _ its ha rv
   exact ⟨_,ReadsW.tuple ho hc hd hr⟩
 | .float _,_,_,x,_=>by cases x
 | .dict _,_,_,x,_=>by cases x
 | .bytearray _,_,_,x,_=>by cases x
 | .set _,_,_,x,_=>by cases x
 | .frozenset _,_,_,x,_=>by cases x
 | .obj _ _,_,_,x,_=>by cases x
theorem Dw.readsAll (hok:HOk P w H h) (KX:K.In h):∀ (ds:List WData) (vs:List V) (us:List Value),XE K H vs ds→Vals vs us→∃ as,ReadsAllW R cl h us ds as
 | [],_,_,x,r=>by
  cases x
  cases r
  exact ⟨_,ReadsAllW.nil⟩
 | d::ds,_,_,x,r=>by
  cases x with
  | cons h1 h2 =>
   cases r with
   | cons r1 r2 =>
    obtain ⟨as,q1⟩:=Dw.reads hok KX d _ _ h1 r1
    obtain ⟨bs,q2⟩:=Dw.readsAll hok KX ds _ _ h2 r2
    exact ⟨_,ReadsAllW.cons q1 q2⟩
end
end
mutual
def plW:WData→Bool
 | .none=>true
 | .bool _=>true
 | .int _=>true
 | .str _=>true
 | .bytes _=>true
 | .list xs=>ZaO xs
 | .tuple xs=>ZaO xs
 | _=>false
def ZaO:List WData→Bool
 | []=>true
 | x::r=>plW x&&ZaO r
end
theorem Zfs {α:Type}{f:α→WData}(h:∀ a,plW (f a)=true):∀ l:List α,ZaO (l.map f)=true
 | []=>rfl
 | x::r=>by
  show (plW (f x)&&ZaO (r.map f))=true
  rw [h x,Zfs h r] <;> rfl
theorem Qo:∀ (c:Codec) (a:c.denote),plW (c.enc a)=true
 | .unit,_=>rfl
 | .bool,_=>rfl
 | .int _ _,_=>rfl
 | .nat _ _,_=>rfl
 | .u8,_=>rfl
 | .bytes _ _,_=>rfl
 | .text _ _ _ _,_=>rfl
 | .list _ _ c,a=>Zfs (fun x=>Qo c x) a
 | .pair c d,a=>by
  show (plW (c.enc a.1)&&(plW (d.enc a.2)&&true))=true
  rw [Qo c a.1,Qo d a.2] <;> rfl
 | .triple c d e,a=>by
  show (plW (c.enc a.1)&&(plW (d.enc a.2.1)&&(plW (e.enc a.2.2)&&true)))=true
  rw [Qo c a.1,Qo d a.2.1,Qo e a.2.2] <;> rfl
 | .option c,none=>rfl
 | .option c,some x=>Qo c x
theorem ZcZ:∀ (cs:List Codec) (a:Codec.denoteAll cs),ZaO (Codec.encAll cs a)=true
 | [],_=>rfl
 | c::cs,a=>by
  show (plW (c.enc a.1)&&ZaO (Codec.encAll cs a.2))=true
  rw [Qo c a.1,ZcZ cs a.2] <;> rfl
theorem Jk:∀ {xs:List WData}{d:WData},d∈xs→d.weight≤WData.weightAll xs
 | [],d,h=>absurd h (by simp)
 | x::r,d,h=>by
  show d.weight≤x.weight+1+WData.weightAll r
  rcases List.mem_cons.mp h with e | m
  ·rw [e]
   lia
  ·have z:=Jk m
   lia
def toV:Value→V
 | .none=>.non
 | .bool b=>.bl b
 | .int i _=>.int i
 | .str x _=>.str x
 | .bytes b _=>.byt b
 | .ref a=>.ref a
 | _=>.non
def OkU (A:List Addr):Value→Prop
 | .none=>True
 | .bool _=>True
 | .int _ _=>True
 | .str _ _=>True
 | .bytes _ _=>True
 | .ref a=>a∈A
 | _=>False
theorem OkU.mono {A B:List Addr}(h:∀ a∈A,a∈B):∀ {u:Value},OkU A u→OkU B u:=fun {u} x=>by
 cases u with
 | ref a=>exact h a x
 | none=>trivial
 | bool b=>trivial
 | int i t=>trivial
 | str s t=>trivial
 | bytes b t=>trivial
 | _=>exact False.elim x
theorem ZjZ {A:List Addr}{u:Value}(x:OkU A u):RelV (toV u) u:=by
 cases u with
 | ref a=>rfl
 | none=>rfl
 | bool b=>rfl
 | int i t=>exact ⟨t,rfl⟩
 | str s t=>exact ⟨t,rfl⟩
 | bytes b t=>exact ⟨t,rfl⟩
 | _=>exact False.elim x
theorem XC {A:List Addr}:∀ {vs:List Value},(∀ u∈vs,OkU A u)→Vals (vs.map toV) vs
 | [],_=>.nil
 | u::r,h=>.cons (ZjZ (h u (List.mem_cons_self ..))) (XC fun x hx=>h x (List.mem_cons_of_mem _ hx))
def Qe (h:Heap) (A:List Addr) (a:Addr):Prop:=∃ vs:List Value,vs.length≤sizeLine∧(∀ u∈vs,OkU A u) ∧
 (h.get? a=some { cls:=.type "list",data:=.seq vs.toArray }∨h.get? a=some { cls:=.type "tuple",data:=.seq vs.toArray })
theorem Qe.mono {h:Heap}{A B:List Addr}{a:Addr}(k:∀ a∈A,a∈B) (x:Qe h A a):Qe h B a:=by
 obtain ⟨vs,h1,h2,h3⟩:=x
 exact ⟨vs,h1,fun u hu=>(h2 u hu).mono k,h3⟩
theorem Xj {P:Params}{h:Heap}:∀ {vs:List Value}{ds:List WData},WellAll P h vs ds→vs.length=ds.length
 | _,_,.nil=>rfl
 | _,_,.cons _ b=>by
  show _+1=_+1
  rw [Xj b]
theorem Zdj {P:Params}{h:Heap}{v:Value}{ds:List WData}(x:Well P h v (.list ds)):∃ (a:Addr) (vs:List Value),v=.ref a∧h.get? a=some { cls:=.type "list",data:=.seq vs.toArray }∧WellAll P h vs ds:=by
 cases x with
 | list ho hall=>exact ⟨_,_,rfl,ho,hall⟩
theorem Zbs {P:Params}{h:Heap}{v:Value}{ds:List WData}(x:Well P h v (.tuple ds)):∃ (a:Addr) (vs:List Value),v=.ref a∧h.get? a=some { cls:=.type "tuple",data:=.seq vs.toArray }∧WellAll P h vs ds:=by
 cases x with
 | tuple ho hall=>exact ⟨_,_,rfl,ho,hall⟩
theorem ZcM {P:Params}{h:Heap}{us:List Value}{d:WData}{ds:List WData}(x:WellAll P h us (d::ds)):∃ (v:Value) (vs:List Value),us=v::vs∧Well P h v d∧WellAll P h vs ds:=by
 cases x with
 | cons a b=>exact ⟨_,_,rfl,a,b⟩
theorem ZgG {n:Nat}(h:n≤1048576):n≤sizeLine:=Nat.le_trans h (by decide)
section
variable {P:Params}{h:Heap}
mutual
theorem Zja:∀ (d:WData) (v:Value),Well P h v d→plW d=true→d.weight≤1048576→∃ A:List Addr,OkU A v∧∀ a∈A,Qe h A a
 | .none,_,x,_,_=>by
  cases x
  exact ⟨[],trivial,fun a m=>absurd m (by simp)⟩
 | .bool b,_,x,_,_=>by
  cases x
  exact ⟨[],trivial,fun a m=>absurd m (by simp)⟩
 | .int i,_,x,_,_=>by
  cases x
  exact ⟨[],trivial,fun a m=>absurd m (by simp)⟩
 | .str s,_,x,_,_=>by
  cases x
  exact ⟨[],trivial,fun a m=>absurd m (by simp)⟩
 | .bytes b,_,x,_,_=>by
  cases x
  exact ⟨[],trivial,fun a m=>absurd m (by simp)⟩
 | .list ds,_,x,p,z=>by
  obtain ⟨a,vs,rfl,ho,hall⟩:=Zdj x
  have z2:WData.weightAll ds≤1048576:=z
  obtain ⟨A,h1,h2⟩:=JE ds _ hall p fun d hd=>Nat.le_trans (Jk hd) z2
  have k:∀ b∈A,b∈a::A:=fun b hb=>List.mem_cons_of_mem _ hb
  refine ⟨a::A,List.mem_cons_self ..,fun b hb=>?_⟩
  rcases List.mem_cons.mp hb with e | m
  ·rw [e]
   exact ⟨vs,ZgG (by rw [Xj hall];exact Nat.le_trans (PySem.W.length_le_weightAllW ds) z2),fun u hu=>(h1 u hu).mono k,.inl ho⟩
  ·exact (h2 b m).mono k
 | .tuple ds,_,x,p,z=>by
  obtain ⟨a,vs,rfl,ho,hall⟩:=Zbs x
  have z2:WData.weightAll ds≤1048576:=z
  obtain ⟨A,h1,h2⟩:=JE ds _ hall p fun d hd=>Nat.le_trans (Jk hd) z2
  have k:∀ b∈A,b∈a::A:=fun b hb=>List.mem_cons_of_mem _ hb
  refine ⟨a::A,List.mem_cons_self ..,fun b hb=>?_⟩
  rcases List.mem_cons.mp hb with e | m
  ·rw [e]
   exact ⟨vs,ZgG (by rw [Xj hall];exact Nat.le_trans (PySem.W.length_le_weightAllW ds) z2),fun u hu=>(h1 u hu).mono k,.inr ho⟩
  ·exact (h2 b m).mono k
 | .float _,_,_,p,_=>Bool.noConfusion (show false=true from p)
 | .dict _,_,_,p,_=>Bool.noConfusion (show false=true from p)
 | .bytearray _,_,_,p,_=>Bool.noConfusion (show false=true from p)
 | .set _,_,_,p,_=>Bool.noConfusion (show false=true from p)
 | .frozenset _,_,_,p,_=>Bool.noConfusion (show false=true from p)
 | .obj _ _,_,_,p,_=>Bool.noConfusion (show false=true from p)
theorem JE:∀ (ds:List WData) (vs:List Value),WellAll P h vs ds→ZaO ds=true→(∀ d∈ds,d.weight≤1048576)→∃ A:List Addr,(∀ u∈vs,OkU A u)∧∀ a∈A,Qe h A a
 | [],_,x,_,_=>by
  cases x
  exact ⟨[],fun u m=>absurd m (by simp),fun a m=>absurd m (by simp)⟩
 | d::ds,_,x,p,z=>by
  obtain ⟨v,vs,rfl,x1,x2⟩:=ZcM x
  have q:plW d=true∧ZaO ds=true:=Bool.and_eq_true_iff.mp p
  obtain ⟨A,a1,a2⟩:=Zja d v x1 q.1 (z d (List.mem_cons_self ..))
  obtain ⟨B,b1,b2⟩:=JE ds vs x2 q.2 fun e he=>z e (List.mem_cons_of_mem _ he)
  have kA:∀ b∈A,b∈A++B:=fun b hb=>List.mem_append.mpr (.inl hb)
  have kB:∀ b∈B,b∈A++B:=fun b hb=>List.mem_append.mpr (.inr hb)
  refine ⟨A++B,fun u hu=>?_,fun b hb=>?_⟩
  ·rcases List.mem_cons.mp hu with e | m
   ·rw [e]
    exact a1.mono kA
   ·exact (b1 u m).mono kB
  ·rcases List.mem_append.mp hb with m | m
   ·exact (a2 b m).mono kA
   ·exact (b2 b m).mono kB
end
end
def Zks (o:Obj):Option HO:=match o.data with
 | .seq vs _=>if (o.cls==Value.type "list")=true then some (.frz o (.lst (vs.toList.map toV))) else some (.frz o (.tup (vs.toList.map toV)))
 | _=>none
def XM (K:PySem.W.Frag) (h:Heap) (A:List Addr):Hp:=fun b=>if b∈A then (if (K.lookup b).isNone=true then (h.get? b).bind Zks else none) else none
def ZcN (H:Hp):Prop:=∀ b,H b=none∨∃ o u,H b=some (.frz o u)
theorem Zez (vs:List Value):Zks { cls:=.type "list",data:=.seq vs.toArray }=some (.frz { cls:=.type "list",data:=.seq vs.toArray } (.lst (vs.map toV))):=by
 show (if (Value.type "list"==Value.type "list")=true then some (HO.frz { cls:=.type "list",data:=.seq vs.toArray } (.lst (vs.toArray.toList.map toV))) else some (HO.frz { cls:=.type "list",data:=.seq vs.toArray } (.tup (vs.toArray.toList.map toV))))=_
 rw [if_pos (beq_self_eq_true _)]
theorem Zfk (vs:List Value):Zks { cls:=.type "tuple",data:=.seq vs.toArray }=some (.frz { cls:=.type "tuple",data:=.seq vs.toArray } (.tup (vs.map toV))):=by
 show (if (Value.type "tuple"==Value.type "list")=true then some (HO.frz { cls:=.type "tuple",data:=.seq vs.toArray } (.lst (vs.toArray.toList.map toV))) else some (HO.frz { cls:=.type "tuple",data:=.seq vs.toArray } (.tup (vs.toArray.toList.map toV))))=_
 rw [if_neg (by decide)]
section
variable {P:Program}{w:World}{K:PySem.W.Frag}{h:Heap}{A:List Addr}
theorem Zbe {b:Addr}{o:Obj}(hb:b∈A) (hk:K.lookup b=none) (e:h.get? b=some o):XM K h A b=Zks o:=by
 unfold XM
 rw [if_pos hb,hk,if_pos (show (none:Option Obj).isNone=true from rfl),e] <;> rfl
theorem ZkY {b:Addr}{u:HO}(q:XM K h A b=some u):b∈A∧K.lookup b=none:=by
 unfold XM at q
 by_cases hb:b∈A
 ·rw [if_pos hb] at q
  cases hk:K.lookup b with
  | none=>exact ⟨hb,rfl⟩
  | some o =>
   rw [hk,if_neg (by simp)] at q
   cases q
 ·rw [if_neg hb] at q
  cases q
theorem Zbc (ar:∀ a∈A,Qe h A a){b:Addr}{u:HO}(q:XM K h A b=some u):K.lookup b=none∧∃ vs:List Value,vs.length≤sizeLine∧(∀ u∈vs,OkU A u) ∧
  ((h.get? b=some { cls:=.type "list",data:=.seq vs.toArray }∧u=.frz { cls:=.type "list",data:=.seq vs.toArray } (.lst (vs.map toV))) ∨
   (h.get? b=some { cls:=.type "tuple",data:=.seq vs.toArray }∧u=.frz { cls:=.type "tuple",data:=.seq vs.toArray } (.tup (vs.map toV)))):=by
 obtain ⟨hb,hk⟩:=ZkY q
 obtain ⟨vs,h1,h2,h3⟩:=ar b hb
 refine ⟨hk,vs,h1,h2,?_⟩
 rcases h3 with e | e
 ·rw [Zbe hb hk e,Zez] at q
  exact .inl ⟨e,(Option.some.inj q).symm⟩
 ·rw [Zbe hb hk e,Zfk] at q
  exact .inr ⟨e,(Option.some.inj q).symm⟩
theorem ZhD (ar:∀ a∈A,Qe h A a):ZcN (XM K h A):=fun b=>by
 cases q:XM K h A b with
 | none=>exact .inl rfl
 | some u =>
  obtain ⟨_,vs,_,_,⟨_,e⟩ | ⟨_,e⟩⟩:=Zbc ar q
  ·exact .inr ⟨_,_,by rw [e]⟩
  ·exact .inr ⟨_,_,by rw [e]⟩
theorem ZkG (ar:∀ a∈A,Qe h A a):HOk P w (XM K h A) h:=fun b u q=>by
 obtain ⟨_,vs,h1,h2,⟨e,rfl⟩ | ⟨e,rfl⟩⟩:=Zbc ar q
 ·exact ⟨e,by rw [List.length_map];exact h1,vs,_,XC h2,e⟩
 ·exact ⟨e,by rw [List.length_map];exact h1,vs,XC h2,_,e,rfl,_,rfl⟩
theorem Zbh {c c':Value}{vs us:List Value}(e:(some { cls:=c,data:=.seq vs.toArray }:Option Obj)=some { cls:=c',data:=.seq us.toArray }):c=c'∧vs=us:=by
 have e1:=Option.some.inj e
 have e2:c=c':=congrArg Obj.cls e1
 have e3:Data.seq vs.toArray=Data.seq us.toArray:=congrArg Obj.data e1
 injection e3 with e4
 refine ⟨e2,?_⟩
 have e5:=congrArg Array.toList e4
 simpa using e5
theorem ZnR (KX:K.In h) (ar:∀ a∈A,Qe h A a){a:Addr}{vs:List Value}(ha:a∈A) (e:h.get? a=some { cls:=.type "list",data:=.seq vs.toArray }):(∀ u∈vs,OkU A u)∧SqL K (XM K h A) a (vs.map toV):=by
 obtain ⟨us,h1,h2,h3⟩:=ar a ha
 have hu:us=vs:=by
  rcases h3 with q | q
  ·rw [e] at q
   exact (Zbh q).2.symm
  ·rw [e] at q
   exact absurd (Value.type.inj (Zbh q).1) (by decide)
 subst hu
 refine ⟨h2,?_⟩
 cases hk:K.lookup a with
 | none=>exact .inl (.inr ⟨_,by rw [Zbe ha hk e,Zez]⟩)
 | some o =>
  have e2:=KX a o hk
  rw [e] at e2
  obtain rfl:=Option.some.inj e2
  exact .inr ⟨_,us.toArray,_,hk,rfl,rfl,rfl,by rw [List.size_toArray];exact h1,by simpa using XC h2⟩
theorem ZnL (KX:K.In h) (ar:∀ a∈A,Qe h A a){a:Addr}{vs:List Value}(ha:a∈A) (e:h.get? a=some { cls:=.type "tuple",data:=.seq vs.toArray }):(∀ u∈vs,OkU A u)∧SqT K (XM K h A) a (vs.map toV):=by
 obtain ⟨us,h1,h2,h3⟩:=ar a ha
 have hu:us=vs:=by
  rcases h3 with q | q
  ·rw [e] at q
   exact absurd (Value.type.inj (Zbh q).1) (by decide)
  ·rw [e] at q
   exact (Zbh q).2.symm
 subst hu
 refine ⟨h2,?_⟩
 cases hk:K.lookup a with
 | none=>exact .inl (.inr ⟨_,by rw [Zbe ha hk e,Zfk]⟩)
 | some o =>
  have e2:=KX a o hk
  rw [e] at e2
  obtain rfl:=Option.some.inj e2
  exact .inr ⟨_,us.toArray,_,hk,rfl,rfl,by rw [List.size_toArray];exact h1,by simpa using XC h2⟩
mutual
theorem Zmj {Pm:Params}(KX:K.In h) (ar:∀ a∈A,Qe h A a):∀ (d:WData) (v:Value),Well Pm h v d→plW d=true→OkU A v→Dw K (XM K h A) (toV v) d
 | .none,_,x,_,_=>by
  cases x
  exact .non
 | .bool b,_,x,_,_=>by
  cases x
  exact .bl b
 | .int i,_,x,_,_=>by
  cases x
  exact .int i
 | .str s,_,x,_,_=>by
  cases x
  exact .str s
 | .bytes b,_,x,_,_=>by
  cases x
  have z:=Dw.byt (K:=K) (H:=XM K h A) b.toArray
  exact z
 | .list ds,_,x,p,hu=>by
  obtain ⟨a,vs,rfl,ho,hall⟩:=Zdj x
  obtain ⟨h2,hs⟩:=ZnR KX ar hu ho
  exact .lst hs (ZdB KX ar ds _ hall p h2)
 | .tuple ds,_,x,p,hu=>by
  obtain ⟨a,vs,rfl,ho,hall⟩:=Zbs x
  obtain ⟨h2,hs⟩:=ZnL KX ar hu ho
  exact .tup hs (ZdB KX ar ds _ hall p h2)
 | .float _,_,_,p,_=>Bool.noConfusion (show false=true from p)
 | .dict _,_,_,p,_=>Bool.noConfusion (show false=true from p)
 | .bytearray _,_,_,p,_=>Bool.noConfusion (show false=true from p)
 | .set _,_,_,p,_=>Bool.noConfusion (show false=true from p)
 | .frozenset _,_,_,p,_=>Bool.noConfusion (show false=true from p)
 | .obj _ _,_,_,p,_=>Bool.noConfusion (show false=true from p)
theorem ZdB {Pm:Params}(KX:K.In h) (ar:∀ a∈A,Qe h A a):∀ (ds:List WData) (vs:List Value),WellAll Pm h vs ds→ZaO ds=true→(∀ u∈vs,OkU A u)→XE K (XM K h A) (vs.map toV) ds
 | [],_,x,_,_=>by
  cases x
  exact .nil
 | d::ds,_,x,p,hu=>by
  obtain ⟨v,vs,rfl,x1,x2⟩:=ZcM x
  have q:plW d=true∧ZaO ds=true:=Bool.and_eq_true_iff.mp p
  exact .cons (Zmj KX ar d v x1 q.1 (hu _ (List.mem_cons_self ..))) (ZdB KX ar ds vs x2 q.2 fun u m=>hu u (List.mem_cons_of_mem _ m))
end
end
theorem ZhP {P:Program}{w:World}{K:PySem.W.Frag}{mg mb:Str→Option Value}{CX:CXT}{k:Nat}{fa:Addr}{fd:FuncData}{ps:List Str}{sp:Sp}{s₁:Shared}{vals:List Value}{ds:List WData}{R:PySem.W.WRecords}{cl:Str→Option Addr}{d0:WData}
  (KX:K.In s₁.heap) (hns:s₁.heap.Ns mainGlobals mg) (hb:s₁.heap.Ns builtinsNs mb) (hbb:∀ x:Str,x≠"__name__"→mb x=bootBuiltins x) (hlim:s₁.heap.NoLimit) (hg:s₁.gens=#[])
  (hwl:WellAll w.params s₁.heap vals ds) (hpl:ZaO ds=true) (hwt:∀ d∈ds,d.weight≤1048576) (hr:Yf k callerA)
  (F:∀ base:Heap,K.In base→base.Ns mainGlobals mg→Yi P w K mg base CX k fa fd ps sp) (hbind:∀ (s:Shared) (us:List Value),us.length=ps.length→BindsTo s fd ⟨us,[]⟩ (ps.zip us)) (hlen:ds.length=ps.length)
  (hsp:∀ (H:Hp) (xs:List V),ZcN H→XE K H xs ds→sp xs H (fun v H'=>Dw K H' v d0) fun _ _ _=>False)
  (hCX:∀ H e s',CX [] H s₁ (fun _ _ _=>False) e s'→False) :
  codeAny (model P w) callerA (.call (.ref fa) ⟨vals,[]⟩) (fun r s'=>∃ u as,r=.ok (.ret u)∧ReadsW R cl s'.heap u d0 as∧OldK s₁.heap s'.heap∧s'.os=s₁.os∧AllBare s'.gens) s₁:=by
 obtain ⟨A,ho,ar⟩:=JE ds vals hwl hpl hwt
 have hO:ZcN (XM K s₁.heap A):=ZhD ar
 have hok:HOk P w (XM K s₁.heap A) s₁.heap:=ZkG ar
 have hS:=ZdB KX ar ds vals hwl hpl ho
 have hV:=XC ho
 have hK:∀ b u,XM K s₁.heap A b=some u→K.lookup b=none:=fun b u q=>(Zbc ar q).1
 have noA:∀ {b:Addr}{o:Obj}{es:Array DictEntry}{ep:Nat},s₁.heap.get? b=some o→o.data=.dict es ep→XM K s₁.heap A b=none:=fun {b o es ep} e d=>by
  cases q:XM K s₁.heap A b with
  | none=>rfl
  | some u =>
   obtain ⟨_,vs,_,_,⟨e2,_⟩ | ⟨e2,_⟩⟩:=Zbc ar q
   ·rw [e2] at e
    cases e
    have d':Data.seq vs.toArray _=Data.dict es ep:=d
    cases d'
   ·rw [e2] at e
    cases e
    have d':Data.seq vs.toArray _=Data.dict es ep:=d
    cases d'
 generalize XM K s₁.heap A=H at hO hok hS hK noA
 have base_of:∀ {b:Addr}{o:Obj},s₁.heap.get? b=some o→H b=none→(ZdZ s₁.heap H).get? b=some o:=fun e n=>ZiA e n
 have nsK:∀ {b:Addr}{m:Str→Option Value},s₁.heap.Ns b m→(ZdZ s₁.heap H).Ns b m:=fun {b m} ⟨o,es,ep,e,d,r⟩=>⟨o,es,ep,base_of e (noA e d),d,r⟩
 have nK:∀ b o,K.lookup b=some o→H b=none:=fun b o e=>by
  cases q:H b with
  | none=>rfl
  | some u =>
   rw [hK b u q] at e
   cases e
 have hKb:K.In (ZdZ s₁.heap H):=fun b o e=>base_of (KX b o e) (nK b o e)
 have hM:Mod K mg (ZdZ s₁.heap H):=⟨hKb,nsK hns,⟨mb,nsK hb,hbb⟩,let ⟨mc,h1,h2⟩:=hlim;⟨mc,nsK h1,h2⟩⟩
 have e0:ZfG P w K mg (ZdZ s₁.heap H) callerA [] s₁ H:=⟨rfl,hM,fun b o e=>Zlh e,Nat.le_of_eq (ZhO _ _),trivial,fun b hb=>absurd (show b∈([]:List Addr) from hb) (by simp),hok,.of_eq hg⟩
 have hl:vals.length=ps.length:=by rw [Xj hwl];exact hlen
 refine codeAny_mono ((F _ hKb (nsK hns)).run callerA [] s₁ H ⟨vals,[]⟩ vals (vals.map toV) _ _ hr e0 (hbind s₁ vals hl) hV (hsp H _ hO hS)) fun r s' x=>?_
 cases r with
 | error e=>exact (hCX H e s' x).elim
 | ok fl =>
  cases fl with
  | next=>exact False.elim x
  | brk=>exact False.elim x
  | cont=>exact False.elim x
  | ret u =>
   obtain ⟨v,H',os,bare,un,hok',r',q⟩:=x
   have kept:∀ b o,s₁.heap.get? b=some o→s'.heap.get? b=some o:=fun b o e=>by
    cases q2:H b with
    | none=>exact un.keep b o e q2 (by intro z;exact absurd (show b∈([]:List Addr) from z) (by simp)) (by simp)
    | some u2 =>
     rcases hO b with z | ⟨ob,u3,z⟩
     ·rw [q2] at z
      cases z
     ·have z2:=un.frzs b ob _ z
      obtain ⟨e1,_⟩:=hok b _ z
      obtain ⟨e2,_⟩:=hok' b _ z2
      rw [e] at e1
      cases e1
      exact e2
   have KX':K.In s'.heap:=fun b o e=>kept b o (KX b o e)
   obtain ⟨as,hrd⟩:=Dw.reads (R:=R) (cl:=cl) hok' KX' d0 v u q r'
   exact ⟨u,as,rfl,hrd,OldK.of_keep kept,os,bare⟩
theorem Zcp {ds:List WData}(h:WData.layableAll ds=true):∀ d∈ds,d.weight≤1048576:=fun d hd =>
 (PySem.W.layableW_iff.mp (List.all_eq_true.mp h d hd)).2.2
theorem Zbr:∀ (cs:List Codec) (a:Codec.denoteAll cs),(Codec.encAll cs a).length=cs.length
 | [],_=>rfl
 | c::cs,a=>by
  show (Codec.encAll cs a.2).length+1=cs.length+1
  rw [Zbr cs a.2]
theorem Zij {r:OpenSpec}{k:Nat}{q:Program}{loose:List Str}{XP:(Str→Option Value)→Heap→Prop}{YP:World→Heap→Prop}{d:DefRec}{K:Params→PySem.W.Frag}{CX:World→CXT}{ps:List Str}{sp:World→Sp}
  (hwell:r.wellSaid=true) (hdf:d.params.defaults=[]) (hlen:r.args.length=ps.length) (hr:Yf k callerA)
  (hY:∀ (w:World) (h:Heap),YP w h→(K w.params).In h)
  (F:∀ (w:World) (mg:Str→Option Value) (fa:Addr) (h:Heap),YP w h→(K w.params).In h→h.Ns mainGlobals mg→mg d.name=some (.ref fa) →
   ∃ fd:FuncData,(∀ (s:Shared) (us:List Value),us.length=ps.length→BindsTo s fd ⟨us,[]⟩ (ps.zip us)) ∧
    ∀ base:Heap,(K w.params).In base→base.Ns mainGlobals mg→Yi r.prog w (K w.params) mg base (CX w) k fa fd ps (sp w))
  (hsp:∀ (w:World) (H:Hp) (xs:List V) (a:Codec.denoteAll r.args),ZcN H→Codec.withinAll r.args a=true→Codec.app r.args r.asked a=true→XE (K w.params) H xs (Codec.encAll r.args a) →
   sp w xs H (fun v H'=>Dw (K w.params) H' v (r.ret.enc (Codec.app r.args r.f a))) fun _ _ _=>False)
  (hCX:∀ (w:World) (H:Hp) (s:Shared) (e:Value) (s':Shared),CX w [] H s (fun _ _ _=>False) e s'→False) :
  PySem.W.WalkOS q loose XP YP r d [] (fun f vs=>PySem.call f vs):=by
 intro w s_0 s₁ mg mb G Y fa o pm cd doc dV kV ho hd hcd hD hmg hg args vals as hpre hlay hrd hwl hlo
 obtain ⟨a,e1,e2⟩:=PySem.W.os_pre_some hpre
 obtain ⟨e3,hwi⟩:=Codec.encAll_of_decAll r.args args a e1
 subst e3
 have KX:=hY w _ Y
 obtain ⟨fd,hb,hF⟩:=F w mg fa _ Y KX G.T.g hmg
 refine PySem.W.enter_call (codeAny_mono (ZhP (R:=[]) (cl:=classAt s_0.heap) (d0:=r.ret.enc (Codec.app r.args r.f a)) KX G.T.g G.T.b G.T.builtins G.T.nolimit hg hwl (ZcZ _ _) (Zcp hlay) hr hF hb (by rw [Zbr];exact hlen)
  (fun H xs hO hS=>hsp w H xs a hO hwi e2 hS) fun H e s'=>hCX w H s₁ e s') fun r' s' hq=>?_)
 obtain ⟨u,as',rfl,h1,h2,h3,h4⟩:=hq
 exact ⟨.inl ⟨u,_,as',rfl,fun _=>rfl,h1,(OpenSpec.post_iff hwell hwi _ _).mpr rfl,fun z=>Bool.noConfusion (show false=true from z)⟩,h2,h3,h4⟩
theorem Zgl {r:OpenSpec}{k:Nat}{q:Program}{loose:List Str}{XP:(Str→Option Value)→Heap→Prop}{YP:World→Heap→Prop}{d:DefRec}{K:Params→PySem.W.Frag}{CX:CXT}{ps:List Str}{sp:PySem.W.Frag→Sp}
  (hwell:r.wellSaid=true) (hdf:d.params.defaults=[]) (hlen:r.args.length=ps.length) (hr:Yf k callerA)
  (hY:∀ (w:World) (h:Heap),YP w h→(K w.params).In h)
  (F:∀ (w:World) (mg:Str→Option Value) (fa:Addr) (h:Heap),YP w h→(K w.params).In h→h.Ns mainGlobals mg→mg d.name=some (.ref fa) →
   ∃ fd:FuncData,(∀ (s:Shared) (us:List Value),us.length=ps.length→BindsTo s fd ⟨us,[]⟩ (ps.zip us)) ∧
    ∀ base:Heap,(K w.params).In base→base.Ns mainGlobals mg→Yi r.prog w (K w.params) mg base CX k fa fd ps (sp (K w.params)))
  (hsp:∀ (K:PySem.W.Frag) (H:Hp) (xs:List V) (a:Codec.denoteAll r.args),ZcN H→Codec.withinAll r.args a=true→Codec.app r.args r.asked a=true→XE K H xs (Codec.encAll r.args a) →
   sp K xs H (fun v H'=>Dw K H' v (r.ret.enc (Codec.app r.args r.f a))) fun _ _ _=>False)
  (hCX:∀ (H:Hp) (s:Shared) (e:Value) (s':Shared),CX [] H s (fun _ _ _=>False) e s'→False) :
  PySem.W.WalkOS q loose XP YP r d [] (fun f vs=>PySem.call f vs) :=
 Zij (K:=K) (CX:=fun _=>CX) (sp:=fun w=>sp (K w.params)) hwell hdf hlen hr hY F (fun w H xs a h1 h2 h3 h4=>hsp (K w.params) H xs a h1 h2 h3 h4) fun _ H s e s'=>hCX H s e s'
end L2
end
namespace LX
open PySem PySem.Spec PyProof.Rows L2
def Trc (B h:Heap) (e:Addr) (C:Value) (b:Bool):Prop:=∃ oe vs,h.get? e=some oe∧oe.cls=C∧oe.data=.fields vs∧1<vs.size ∧
 ((∃ T oT ts fl,vs[1]?=some (.ref T)∧B.get? T=none∧T≠e∧h.get? T=some oT∧oT.data=.fields ts∧ts[3]?=some fl)∨(b=true∧vs[1]?=some .none))
def Fly (B:Heap) (l:List Env) (e:Addr) (C:Value) (b:Bool) (h:Heap):Prop:=B.StaysIn h∧B.get? e=none∧h.FunFrames B l∧Trc B h e C b
theorem Fly.up {B h:Heap}{l:List Env}{e:Addr}{C:Value}{b:Bool}(x:Fly B l e C b h):Fly B l e C true h:=by
 obtain ⟨h1,h2,h3,oe,vs,x1,x2,x3,x4,x5⟩:=x
 exact ⟨h1,h2,h3,oe,vs,x1,x2,x3,x4,x5.imp id fun z=>⟨rfl,z.2⟩⟩
theorem Fly.tail {B h:Heap}{env:Env}{l:List Env}{e:Addr}{C:Value}{b:Bool}(x:Fly B (env::l) e C b h):Fly B l e C b h:=⟨x.1,x.2.1,x.2.2.1.2.2,x.2.2.2⟩
theorem Fly.there {B h:Heap}{l:List Env}{e:Addr}{C:Value}{b:Bool}(x:Fly B l e C b h):∃ ob,h.get? e=some ob∧ob.cls=C:=by
 obtain ⟨_,_,_,oe,vs,h1,h2,_⟩:=x
 exact ⟨oe,h1,h2⟩
theorem ZbN {e:Value}{env env':Env}(h:env.frame=env'.frame):noteFrame e env=noteFrame e env':=by
 unfold noteFrame PySem.frameOf
 rw [h]
theorem ZeT (T:Addr):(Value.ref T != Value.none)=true:=by simp
theorem Fly.tb {B h:Heap}{l:List Env}{e:Addr}{C:Value}(x:Fly B l e C false h):∃ oe vs T oT ts fl,(h.get? e=some oe∧oe.data=.fields vs∧vs[1]?=some (.ref T))∧(h.get? T=some oT∧oT.data=.fields ts∧3<ts.size∧ts[3]?=some fl) ∧
  ∀ y,Fly B l e C false (h.update T (Obj.mapFields (·.setIfInBounds 3 y)))∧h.UpToSlots (h.update T (Obj.mapFields (·.setIfInBounds 3 y))):=by
 obtain ⟨stay,new,fr,oe,vs,ge,ce,de,ze,c⟩:=x
 cases c with
 | inr r=>exact nomatch r.1
 | inl c =>
  obtain ⟨T,oT,ts,fl,p,nT,ne,gT,dT,q⟩:=c
  have lt:3<ts.size:=(Array.getElem?_eq_some_iff.mp q).1
  refine ⟨oe,vs,T,oT,ts,fl,⟨ge,de,p⟩,⟨gT,dT,lt,q⟩,fun y=>?_⟩
  generalize eu:h.update T (Obj.mapFields (·.setIfInBounds 3 y))=h'
  have sb:Heap.SameBut T h h':=eu▸Heap.SameBut.update ..
  have gT':h'.get? T=some (oT.mapFields (·.setIfInBounds 3 y)):=eu▸Heap.get?_update_self _ gT (Obj.isFreed_of_fields (Obj.data_mapFields dT _))
  have on:∀ b o,h.get? b=some o→(∀ us,o.data≠.fields us)→h'.get? b=some o:=fun b o g n=>(sb.2 b fun e=>n ts (Option.some.inj (gT.symm.trans (e▸g))▸dT)).trans g
  exact ⟨⟨fun b o g=>(sb.2 b fun e=>by rw [e,nT] at g;cases g).trans (stay b o g),new,fr.of_keeps fun b o g n=>⟨o,on b o g n,rfl⟩,oe,vs,(sb.2 _ ne.symm).trans ge,ce,de,ze,
   .inl ⟨T,_,_,y,p,nT,ne,gT',Obj.data_mapFields dT _,by simp [lt]⟩⟩,fun b o g n=>⟨o.slots,on b o g n⟩⟩
section
variable {M:Model}{A:Around}{E:Value→Shared→Prop}{s:Shared}{B:Heap}{env:Env}{outer:List Env}{L e:Addr}{C:Value}{b:Bool}{Q:Unit→Shared→Prop}
theorem Zdg {hd:Value}{n:Bool}(hfr:A.frames=some (env::outer)) (hf:env.frame=some L) (x:Fly B (env::outer) e C b s.heap)
  (h:∀ h',Fly B (env::outer) e C false h'→s.heap.UpToSlots h'→Q () { s with heap:=h' }) :
  wpAny M A (do let f ← PySem.frameOf env;let pl ← entryPlaceOf L n;let t ← EntryCells.newEntry hd f .none (rawInt L) .none pl;setField (.ref e) 1 t) Q E s:=by
 obtain ⟨stay,new,fr,oe,vs,ge,ce,de,ze,-⟩:=x
 refine wpAny_entryW hfr fr hf ge stay new de ze (Array.getElem?_eq_getElem (Nat.lt_trans Nat.zero_lt_one ze)) fun h' N=>h h' ⟨N.1,new,N.2.1,?_⟩ N.2.2.2
 obtain ⟨o',vs',T,oT,ts,g1,c1,d1,p1,n1,e1,gT,dT,q⟩:=N.2.2.1
 exact ⟨o',vs',g1,c1.1.trans ce,d1,(Array.getElem?_eq_some_iff.mp p1).1,.inl ⟨T,oT,ts,_,p1,n1,e1,gT,dT,q⟩⟩
theorem Zbn (hfr:A.frames=some (env::outer)) (hf:env.frame=some L) (x:Fly B (env::outer) e C b s.heap)
  (h:∀ h',Fly B (env::outer) e C false h'→s.heap.UpToSlots h'→Q () { s with heap:=h' }):wpAny M A (noteFrame (.ref e) env) Q E s:=by
 obtain ⟨stay,new,fr,o,us,g,c,d,z,t⟩:=id x
 unfold noteFrame
 simp only [hf]
 cases t with
 | inr r =>
  refine wpAny_bind (wpAny_field g d r.2 ?_)
  exact Zdg hfr hf x h
 | inl t =>
  have y:Fly B (env::outer) e C false s.heap:=⟨stay,new,fr,o,us,g,c,d,z,.inl t⟩
  obtain ⟨oe,vs,T,oT,ts,fl,⟨ge,de,p⟩,⟨gT,dT,lt,q⟩,wr⟩:=y.tb
  refine wpAny_bind (wpAny_field ge de p ?_)
  rw [ZeT,if_pos rfl]
  refine wpAny_bind (wpAny_field gT dT q ?_)
  split
  ·exact wpAny_pure (h _ y (.refl _))
  ·exact wpAny_bind (wpAny_setField gT dT lt (Zdg hfr hf (wr .none).1 fun h' v u=>h h' v ((wr .none).2.trans u)))
theorem XT {l:List Env}{fr:Option Addr}(x:Fly B l e C false s.heap) (h:∀ h',Fly B l e C false h'→s.heap.UpToSlots h'→Q () { s with heap:=h' }):wpAny M A (setFlight (.ref e) fr) Q E s:=by
 obtain ⟨oe,vs,T,oT,ts,fl,⟨ge,de,p⟩,⟨gT,dT,lt,-⟩,wr⟩:=x.tb
 unfold setFlight
 refine wpAny_bind (wpAny_field ge de p ?_)
 rw [ZeT,if_pos rfl]
 exact wpAny_setField gT dT lt (h _ (wr _).1 (wr _).2)
theorem Zew (hfr:A.frames=some (env::outer)) (hf:env.frame=some L) (x:Fly B (env::outer) e C b s.heap)
  (h:∀ h',Fly B outer e C false h'→s.heap.UpToSlots h'→Q () { s with heap:=h' }):wpAny M A (leaving env (.ref e)) Q E s:=by
 unfold leaving
 refine wpAny_bind (Zbn hfr hf x fun h1 x1 u1=>?_)
 exact XT x1 fun h2 x2 u2=>h h2 x2.tail (u1.trans u2)
theorem ZjJ {α:Type}{Q:α→Shared→Prop}{l:List Env}{env:Env}{w:String}(x:Fly B l e C false s.heap) (h:∀ h',Fly B l e C false h'→s.heap.UpToSlots h'→E (.ref e) { s with heap:=h' }) :
  wpAny M A (PySem.passOn w (.ref e) env:Sem α) Q E s:=by
 obtain ⟨oe,vs,T,-,-,-,⟨ge,de,p⟩,-⟩:=x.tb
 unfold PySem.passOn
 refine wpAny_bind (wpAny_field ge de p ?_)
 rw [show (Value.ref T==Value.none)=false by simp]
 exact wpAny_bind (XT x fun h' y u=>wpAny_throw (h h' y u))
end
end LX
namespace LX
open PySem PySem.Spec PyProof.Rows L2
structure Go (P:Program) (w:World) (B:Heap) (outer:List Env) (ex:List Addr) (H H':Hp) (s s':Shared):Prop where
 os:s'.os=s.os
 bare:AllBare s'.gens
 un:Un (frs outer) ex H H' s.heap s'.heap
 hok:HOk P w H' s'.heap
 frf:∀ b∈frs outer,H' b=none
 cov:∀ b o,s'.heap.get? b=some o→b∉frs outer→((∃ o0,s.heap.get? b=some o0)∧b∉ex)∨H' b≠none→B.get? b=some o
theorem Go.step {P:Program}{w:World}{B:Heap}{outer:List Env}{ex:List Addr}{H H':Hp}{s s1:Shared}{h2:Heap}(g:Go P w B outer ex H H' s s1) (st:B.StaysIn h2) (up:s1.heap.UpToSlots h2) (ff:s1.heap.FunFrames B outer) :
  Go P w B outer ex H H' s { s1 with heap:=h2 }:=by
 have fr:∀ b o,b∈frs outer→s1.heap.get? b=some o→∃ sl,h2.get? b=some { o with slots:=sl }:=fun b o hb e=>by
  obtain ⟨_,o',e',nf⟩:=ff.mem hb
  rw [e] at e';cases e'
  exact up b o e nf
 have tr:∀ b u,H' b=some u→∀ o,s1.heap.get? b=some o→h2.get? b=some o:=fun b u q o e =>
  st b o (g.cov b o e (fun z=>by rw [g.frf b z] at q;cases q) (.inr (by rw [q];simp)))
 refine ⟨g.os,g.bare,⟨fun b o e n hb hx=>?_,fun b o e n hb hx=>?_,g.un.free,fun b o e hx=>?_,g.un.tups,g.un.frzs,g.un.tbls⟩,fun a o q=>?_,g.frf,fun b o e hb hc=>?_⟩
 ·have e1:=g.un.keep b o e n hb hx
  exact st b o (g.cov b o e1 hb (.inl ⟨⟨o,e⟩,hx⟩))
 ·obtain ⟨sl,e1⟩:=g.un.slot b o e n hb hx
  obtain ⟨sl',e2⟩:=fr b _ hb e1
  exact ⟨sl',e2⟩
 ·obtain ⟨o',e1⟩:=g.un.there b o e hx
  by_cases hb:b∈frs outer
  ·obtain ⟨sl,e2⟩:=fr b o' hb e1
   exact ⟨_,e2⟩
  ·exact ⟨o',st b o' (g.cov b o' e1 hb (.inl ⟨⟨o,e⟩,hx⟩))⟩
 ·refine (g.hok a o q).stay (fun b u hb e=>?_) (fun _ z=>z) fun _ _ z=>z
  rcases hb with rfl | hb
  ·exact tr _ _ q u e
  ·exact tr _ _ hb u e
 ·have there:∃ o1,s1.heap.get? b=some o1:=by
   rcases hc with ⟨⟨o0,e0⟩,hx⟩ | hc
   ·exact g.un.there b o0 e0 hx
   ·cases q:H' b with
    | none=>exact absurd q hc
    | some u =>
     have:=(g.hok b u q).lt
     cases z:s1.heap.get? b with
     | some o1=>exact ⟨o1,rfl⟩
     | none =>
      have hk:=g.hok b u q
      exfalso
      revert hk
      cases u with
      | lst xs=>rintro ⟨_,_,_,_,e⟩;rw [z] at e;cases e
      | tup xs=>rintro ⟨_,_,_,o,e,_⟩;rw [z] at e;cases e
      | dK kvs=>rintro ⟨_,_,_,_,o,_,_,e,_⟩;rw [z] at e;cases e
      | dT kvs=>rintro ⟨_,_,_,_,o,_,_,e,_⟩;rw [z] at e;cases e
      | set S n=>rintro ⟨o,_,_,_,e,_⟩;rw [z] at e;cases e
      | ins C dx fs=>rintro ⟨_,_,_,e,_⟩;rw [z] at e;cases e
      | own y=>rintro ⟨_,e⟩;rw [z] at e;cases e
      | xd fs=>rintro ⟨_,⟨_,_,_,e,_⟩,_⟩;rw [z] at e;cases e
      | rng lo hi=>rintro ⟨_,_,_,e⟩;rw [z] at e;cases e
      | frz ob u=>rintro ⟨e,_⟩;rw [z] at e;cases e
      | tbl ps=>intro e;rw [show s1.heap.get? b=some _ from e] at z;cases z
      | met f y=>intro e;rw [show s1.heap.get? b=some _ from e] at z;cases z
      | ext φ=>rintro ⟨_,⟨_,e⟩,_⟩;rw [z] at e;cases e
  obtain ⟨o1,e1⟩:=there
  have eB:=g.cov b o1 e1 hb hc
  have e2:=st b o1 eB
  have:o=o1:=Option.some.inj (e.symm.trans e2)
  rw [this];exact eB
def CXR (P:Program) (w:World):CXT:=fun outer H s E e s'=>∃ (a:Addr) (C:Value) (H':Hp) (B:Heap),e=.ref a∧Fly B outer a C false s'.heap∧Go P w B outer [] H H' s s'∧E C none H'
def Zlj (X:Cx) (pins:List (Addr×Obj)) (ex:List Addr):Prop :=
 ∀ b∈ex,(b∈X.ex∨X.s_0.heap.objs.size≤b)∧b≠X.env.locals∧(∀ x c,X.env.cells.lookup x=some c→c≠b)∧∀ p∈X.pn++pins,p.1≠b
def YH (X:Cx) (E:XK) (e:Value) (s':Shared):Prop :=
 ∃ (pins:List (Addr×Obj)) (σ:L2.St) (H:Hp) (s:Shared) (ex:List Addr) (a:Addr) (C:Value) (H':Hp) (B:Heap),e=.ref a∧Inv X pins σ H s∧Zlj X pins ex∧Fly B X.stack a C true s'.heap∧Go X.prog X.w B X.stack ex H H' s s'∧E C none H'
theorem ZbR {X:Cx}{pins:List (Addr×Obj)}:Zlj X pins []:=fun b z=>absurd z (by simp)
theorem Go.inv {X:Cx}{pins:List (Addr×Obj)}{σ:L2.St}{H H':Hp}{s s':Shared}{B:Heap}{ex:List Addr}(g:Go X.prog X.w B X.stack ex H H' s s') (I:Inv X pins σ H s) (hx:Zlj X pins ex):Inv X pins σ H' s' :=
 I.Zix g.os g.un g.hok g.bare hx
theorem Go.pop {X:Cx}{pins:List (Addr×Obj)}{σ:L2.St}{H H':Hp}{s s':Shared}{B:Heap}{ex:List Addr}(g:Go X.prog X.w B X.stack ex H H' s s') (I:Inv X pins σ H s) (hx:Zlj X pins ex) (h0:X.ex=[]) :
  Go X.prog X.w B X.outer [] X.H_0 H' X.s_0 s':=by
 have I':=g.inv I hx
 refine ⟨I'.os,I'.bare,by have:=I'.base;rw [h0] at this;exact this,I'.hok,fun b hb=>?_,fun b o e hb hc=>?_⟩
 ·obtain ⟨_,o,ho,_⟩:=I'.ok.funs.mem hb
  exact I'.base.free b o ho (I'.ok.frf b hb) (by rw [h0];simp)
 ·have nl:b≠X.env.locals:=by
   rcases hc with ⟨⟨o0,e0⟩,_⟩ | hc
   ·exact Nat.ne_of_lt (Nat.lt_of_lt_of_le (Heap.lt_size e0) I.ok.above)
   ·rintro rfl;exact hc I'.free
  refine g.cov b o e (fun z=>(List.mem_cons.mp (I.Zbp b z)).elim nl hb) ?_
  rcases hc with ⟨⟨o0,e0⟩,_⟩ | hc
  ·refine .inl ⟨I.base.there b o0 e0 (by rw [h0];simp),fun z=>?_⟩
   rcases (hx b z).1 with q | q
   ·rw [h0] at q;cases q
   ·exact absurd (Nat.lt_of_lt_of_le (Heap.lt_size e0) q) (Nat.lt_irrefl _)
  ·exact .inr hc
section
variable {P:Program}{w:World}{K:PySem.W.Frag}{mg:Str→Option Value}{base:Heap}{N:List Str}{qual:Str}{scope:Scope}{f:Addr}{cd:Value}{A:Around}{outer:List Env}{s0:Shared}{H0:Hp}{E:XK}
abbrev cxR (P:Program) (w:World) (K:PySem.W.Frag) (mg:Str→Option Value) (base:Heap) (N:List Str) (qual:Str) (scope:Scope) (f:Addr) (cd:Value) (A:Around) (outer:List Env) (s:Shared) (H:Hp) (E:XK):Cx :=
 (Ja (CXR P w) P w K mg base N qual scope f cd A outer s H E).Qm (YH (Ja (CXR P w) P w K mg base N qual scope f cd A outer s H E) E)
theorem ZdV {e:Value}{s':Shared}(h:YH (Ja (CXR P w) P w K mg base N qual scope f cd A outer s0 H0 E) E e s'):(Ja (CXR P w) P w K mg base N qual scope f cd A outer s0 H0 E).xe e s':=by
 obtain ⟨pins,σ,H,s,ex,a,C,H',B,rfl,I,hx,fl,g,q⟩:=h
 have g':=g.pop I hx rfl
 have fr:=I.ok.frames
 refine Zew (env:=envOfC qual scope s0.heap.objs.size f cd) (outer:=outer) (L:=s0.heap.objs.size) fr rfl fl fun h2 fl2 up=>?_
 exact ⟨a,C,H',B,rfl,fl2,g'.step fl2.1 up fl.2.2.1.2.2,q⟩
theorem ZM {X:Cx}{E:XK}:Passes (CXR X.prog X.w) (X.Qm (YH X E)) E:=fun pins σ H s e s' I h=>by
 obtain ⟨a,C,H',B,rfl,fl,g,q⟩:=h
 exact ⟨pins,σ,H,s,[],a,C,H',B,rfl,I.YS,ZbR,fl.up,g,q⟩
end
theorem Fun.okx {P:Program}{w:World}{K:PySem.W.Frag}{mg:Str→Option Value}{base:Heap}{x qual:Str}{st:Stmt}{f:Addr}{fd:FuncData}{N ps:List Str}{k:Nat}{sp:Sp}(F:L2.Fun K x qual st f fd) (S:ZW N ps (Zk st)) (len:∀ vs H Q E,sp vs H Q E→vs.length=ps.length)
  (hbody:∀ (cdv:Value) (A:Around) (outer:List Env) (s:Shared) (H:Hp) (vs:List V) (Q:VK) (E:XK),Yf k (A.deeper (envOfC qual (Zk st) s.heap.objs.size f cdv))→sp vs H Q E →
   ∃ t,PSs (cxR P w K mg base N qual (Zk st) f cdv A outer s H E) (ZK st) t∧t { nx:=fun _ H'=>Q .non H',rt:=Q } (start N vs) H):Yi P w K mg base (CXR P w) (k+1) f fd ps sp:=by
 obtain ⟨oc,od,kV,doc,pm,an,cdv,ct,osl,rfl,lk,hcd⟩:=F.ex
 refine Zlx lk hcd S len fun A outer s H vs Q E hr hsp=>?_
 obtain ⟨t,h,q⟩:=hbody cdv A outer s H vs Q E hr hsp
 exact ⟨t,fun pins s σ H D I hw=>wpAny_mono (h pins s σ H D (I.Qm _) hw) (fun _ _ q=>q.YS) fun _ _ z=>ZdV z,q⟩
end LX
namespace LX
open PySem PySem.Spec PyProof.Rows L2
def ExcAt (K:PySem.W.Frag) (C:Addr):Prop:=PySem.W.excIn K C [.type "Exception",.type "BaseException",.type "object"] "Exception.__new__"=true
theorem Zis {K:PySem.W.Frag}{C:Addr}{B:List Value}{n:String}(q:PySem.W.excIn K C B n=true):∃ dd cd sl bm k0 k1 k2 k3 k5,K.lookup C=some ⟨.type "type",dd,.cls cd,sl⟩∧cd.mro=.ref C::bm ∧
  sl.toList=[k0,k1,k2,k3,some (.builtin n),k5]∧cd.hasDel=false∧PySem.W.tailIn K B bm=true∧PySem.W.nsOkIn K cd.ns=true∧PySem.W.nsIn K cd.ns "__init__"=some none:=by
 unfold PySem.W.excIn at q
 repeat' split at q
 any_goals contradiction
 simp only [Bool.and_eq_true,beq_iff_eq,Bool.not_eq_true'] at q
 grind
theorem ExcAt.obj {K:PySem.W.Frag}{C:Addr}{h:Heap}(q:ExcAt K C) (X:K.In h):∃ bm N nm qn bs hd sn sub ab col dd k0 k1 k2 k3 k5 mN,
  h.get? C=some (excClassObj nm qn C N bs bm hd sn sub ab col dd k0 k1 k2 k3 k5 "Exception.__new__")∧h.Ns N mN∧mN "__init__"=none∧OwnTail h [.type "Exception",.type "BaseException",.type "object"] bm:=by
 obtain ⟨dd,⟨nm,bs,mro,ns,qn,hd,sn,sub,ab,col,del⟩,⟨l⟩,bm,k0,k1,k2,k3,k5,lk,em,es,ed,tl,ok,ini⟩:=Zis q
 cases em;cases es;cases ed
 exact ⟨bm,ns,nm,qn,bs,hd,sn,sub,ab,col,dd,k0,k1,k2,k3,k5,_,X _ _ lk,.of_isNs (PySem.W.isNs_of_in X ok),PySem.W.nsMap_none_of_in X ok ini,PySem.W.tail_of_in X tl⟩
section
variable {X:Cx}{E:XK}{C:Addr}{x:Str}{np cpos pos:Pos}
theorem Zhw {pins:List (Addr×Obj)}{σ:L2.St}{H:Hp}{s:Shared}{h':Heap}{e:Addr}{cls:Value}{vs:List Value}(I:Inv X pins σ H s) (hx:Heap.MadeExcOf s.heap h' e cls vs) (q:E cls none H):YH X E (.ref e) { s with heap:=h' }:=by
 have hin:∀ env∈X.stack,∀ a,env.frame=some a→a∈frs X.stack:=fun env he a ha=>List.mem_filterMap.mpr ⟨env,he,ha⟩
 have ff:=PySem.W.funFrames_hide I.stack hin
 have st:(PySem.W.hideAll s.heap (frs X.stack)).StaysIn h':=fun b o hb=>hx.keeps b o (PySem.W.of_hideAll _ hb)
 have en:(PySem.W.hideAll s.heap (frs X.stack)).get? e=none:=by
  cases z:(PySem.W.hideAll s.heap (frs X.stack)).get? e with
  | none=>rfl
  | some o =>
   have:=PySem.W.of_hideAll _ z
   rw [hx.new] at this;cases this
 obtain ⟨t,he,_,_⟩:=hx.there
 refine ⟨pins,σ,H,s,[],e,cls,H,PySem.W.hideAll s.heap (frs X.stack),rfl,I,ZbR,⟨st,en,ff.of_keeps fun b o hb _=>⟨o,hx.keeps b o hb,rfl⟩,_,_,he,rfl,rfl,(by show 1<6;decide),.inr ⟨rfl,rfl⟩⟩,
  ⟨rfl,I.bare,Un.kept hx.keeps,I.hok.kept hx.keeps,I.ZaW,fun b o hb hf hc=>?_⟩,q⟩
 have there:∃ o0,s.heap.get? b=some o0:=by
  rcases hc with hc | hc
  ·exact hc.1
  ·cases z:s.heap.get? b with
   | some o0=>exact ⟨o0,rfl⟩
   | none =>
    exfalso
    cases qb:H b with
    | none=>exact hc qb
    | some u =>
     have hk:=I.hok b u qb
     revert hk
     cases u with
     | lst xs=>rintro ⟨_,_,_,_,e⟩;rw [z] at e;cases e
     | tup xs=>rintro ⟨_,_,_,o,e,_⟩;rw [z] at e;cases e
     | dK kvs=>rintro ⟨_,_,_,_,o,_,_,e,_⟩;rw [z] at e;cases e
     | dT kvs=>rintro ⟨_,_,_,_,o,_,_,e,_⟩;rw [z] at e;cases e
     | set S n=>rintro ⟨o,_,_,_,e,_⟩;rw [z] at e;cases e
     | ins C dx fs=>rintro ⟨_,_,_,e,_⟩;rw [z] at e;cases e
     | own y=>rintro ⟨_,e⟩;rw [z] at e;cases e
     | xd fs=>rintro ⟨_,⟨_,_,_,e,_⟩,_⟩;rw [z] at e;cases e
     | rng lo hi=>rintro ⟨_,_,_,e⟩;rw [z] at e;cases e
     | frz ob u=>rintro ⟨e,_⟩;rw [z] at e;cases e
     | tbl ps=>intro e;rw [show s.heap.get? b=some _ from e] at z;cases z
     | met f y=>intro e;rw [show s.heap.get? b=some _ from e] at z;cases z
     | ext φ=>rintro ⟨_,⟨_,e⟩,_⟩;rw [z] at e;cases e
 obtain ⟨o0,e0⟩:=there
 have:o=o0:=Option.some.inj (Eq.trans (show some o=h'.get? b from hb.symm) (hx.keeps b o0 e0))
 rw [this]
 exact PySem.W.hideAll_get _ e0 hf
def ZmF (E:XK) (C:Addr):TS:=fun _ _ H=>E (.ref C) none H
theorem JL (hc:X.calm=true) (hp:∀ e s',YH X E e s'→X.xe e s') (q:ExcAt X.K C) (hg:Gl X x) (hm:X.mg x=some (.ref C)) (hd:(x==("__debug__":Str))=false:=by decide) :
  PS X (.Raise (some (.Call (.Name x np) [] [] cpos)) none pos) (ZmF E C):=by
 intro pins s σ H D I h
 obtain ⟨bm,N,nm,qn,bs,hdc,sn,sub,ab,col,dd,k0,k1,k2,k3,k5,mN,hC,hN,hni,T⟩:=q.obj I.kIn
 refine wpAny_Raise_call_subU (C:=C) (nm:=nm) (q:=qn) (N:=N) (bs:=bs) (bm:=bm) (hdct:=hdc) (sn:=sn) (sub:=sub) (ab:=ab) (col:=col) (dd:=dd) (k0:=k0) (k1:=k1) (k2:=k2) (k3:=k3) (k5:=k5)
  PySem.F.excBase_Exception (by decide +kernel) PySem.F.excBase_Exception (mN:=mN) (T.hasType PySem.F.excBase_Exception.hasBase) (I.ok.hd hc) rfl hni (XZ I hg hm ⟨rfl,?_⟩ hd)
 exact evalArgs_empty ⟨rfl,Nat.zero_le _,hC,hN,T,fun h' e hx=>hp _ _ (Zhw I hx h)⟩
end
abbrev Cx.held (X:Cx) (pn:List (Addr×Obj)) (xe:Value→Shared→Prop):Cx:={ X with pn:=pn,xe:=xe }
abbrev Cx.suite (X:Cx) (e:Addr):Cx:={ X with A:=X.A.mark (some (.ref e)),calm:=false,xe:=fun _ _=>False }
theorem ZgR {X:Cx}{pn:List (Addr×Obj)}{xe:Value→Shared→Prop}(ok:X.Ok):(Cx.held X pn xe).Ok :=
 ⟨ok.mod,ok.kind,ok.glob,ok.blt,ok.above,ok.inj,ok.has,ok.cab,ok.hd,ok.frames,ok.stk,ok.exf,ok.bs,ok.bsz,ok.noex,ok.exfs,ok.funs,ok.frf⟩
theorem Zdk {X:Cx}{pn:List (Addr×Obj)}{xe:Value→Shared→Prop}(ok:(Cx.held X pn xe).Ok):X.Ok :=
 ⟨ok.mod,ok.kind,ok.glob,ok.blt,ok.above,ok.inj,ok.has,ok.cab,ok.hd,ok.frames,ok.stk,ok.exf,ok.bs,ok.bsz,ok.noex,ok.exfs,ok.funs,ok.frf⟩
theorem Zir {X:Cx}{e:Addr}(ok:X.Ok):(Cx.suite X e).Ok :=
 ⟨ok.mod,ok.kind,ok.glob,ok.blt,ok.above,ok.inj,ok.has,ok.cab,fun z=>(by cases z),ok.frames,ok.stk,ok.exf,ok.bs,ok.bsz,ok.noex,ok.exfs,ok.funs,ok.frf⟩
section
variable {X:Cx}{pins pins1:List (Addr×Obj)}{σ:L2.St}{H:Hp}{s:Shared}{xe:Value→Shared→Prop}
theorem Inv.ZmG (I:Inv X pins σ H s) (xe:Value→Shared→Prop):Inv (Cx.held X (X.pn++pins) xe) [] σ H s :=
 ⟨ZgR I.ok,I.os,I.bare,I.base,I.loc,I.cell,I.free,I.freeC,fun p hp=>I.pin p (by simpa using hp),I.hok,I.len⟩
theorem Inv.Zai (I:Inv (Cx.held X (X.pn++pins) xe) pins1 σ H s):Inv X pins σ H s :=
 ⟨Zdk I.ok,I.os,I.bare,I.base,I.loc,I.cell,I.free,I.freeC,fun p hp=>I.pin p (List.mem_append_left _ hp),I.hok,I.len⟩
theorem Inv.Zee (I:Inv X pins σ H s) (e:Addr):Inv (Cx.suite X e) pins σ H s :=
 ⟨Zir I.ok,I.os,I.bare,I.base,I.loc,I.cell,I.free,I.freeC,I.pin,I.hok,I.len⟩
end
theorem Zna {X:Cx}{pn:List (Addr×Obj)}{E:XK}:Passes (CXR X.prog X.w) (Cx.held X pn (YH (Cx.held X pn (fun _ _=>False)) E)) E:=fun pins σ H s e s' I h=>by
 obtain ⟨a,C,H',B,rfl,fl,g,q⟩:=h
 exact ⟨pins,σ,H,s,[],a,C,H',B,rfl,⟨ZgR (Zdk I.ok),I.os,I.bare,I.base,I.loc,I.cell,I.free,I.freeC,I.pin,I.hok,I.len⟩,ZbR,fl.up,g,q⟩
theorem hpR {X:Cx}{E:XK}:∀ e s',YH (X.Qm (YH X E)) E e s'→YH X E e s':=fun e s' h=>by
 obtain ⟨pins,σ,H,s,ex,a,C,H',B,h1,I,h2,h3,h4,h5⟩:=h
 exact ⟨pins,σ,H,s,ex,a,C,H',B,h1,I.YS,h2,h3,h4,h5⟩
end LX
namespace LX
open PySem PySem.Spec PyProof.Rows L2
theorem ZcJ {B:Heap}{C b:Addr}{o:Obj}(h:(PySem.W.hideAll B [C]).get? b=some o):B.get? b=some o∧b≠C:=by
 refine ⟨PySem.W.of_hideAll _ h,fun z=>?_⟩
 rw [z,PySem.W.hideAll_none [C] (List.mem_singleton.mpr rfl)] at h
 cases h
theorem Jj {B:Heap}{C b:Addr}(h:B.get? b=none):(PySem.W.hideAll B [C]).get? b=none:=by
 cases z:(PySem.W.hideAll B [C]).get? b with
 | none=>rfl
 | some o=>rw [(ZcJ z).1] at h;cases h
theorem Zin {B h1 h2:Heap}{l:List Env}{e C:Addr}{cls:Value}{b:Bool}{m:Str→Option Value}(x:Fly B l e cls b h1) (hn:h1.Ns C m) (sb:Heap.SameBut C h1 h2) (hl:∀ b∈frs l,b≠C):Fly (PySem.W.hideAll B [C]) l e cls b h2:=by
 obtain ⟨st,en,ff,oe,vs,he,hc,hd,hsz,ht⟩:=x
 obtain ⟨oC,es,ep,hoC,hdC,_⟩:=hn
 have rec_ne:∀ q o ws,h1.get? q=some o→o.data=.fields ws→q≠C:=fun q o ws e1 e2 z=>by
  subst z
  rw [hoC] at e1;cases e1;rw [hdC] at e2;cases e2
 refine ⟨fun q o e=>?_,Jj en,?_,oe,vs,?_,hc,hd,hsz,ht.imp ?_ id⟩
 ·obtain ⟨e1,ne⟩:=ZcJ e
  exact (sb.2 q ne).trans (st q o e1)
 ·have key:∀ l':List Env,(∀ b∈frs l',b≠C)→h1.FunFrames B l'→h2.FunFrames (PySem.W.hideAll B [C]) l':=by
   intro l'
   induction l' with
   | nil=>intro _ _;trivial
   | cons env r ih =>
    intro hne hl'
    obtain ⟨hk,⟨L,o,hf,hnb,ho,hdd⟩,hr⟩:=hl'
    have hL:L≠C:=hne L (List.mem_filterMap.mpr ⟨env,List.mem_cons_self,hf⟩)
    exact ⟨hk,⟨L,o,hf,Jj hnb,(sb.2 L hL).trans ho,hdd⟩,ih (fun b hb=>hne b (by
     obtain ⟨env',he',hfe⟩:=List.mem_filterMap.mp hb
     exact List.mem_filterMap.mpr ⟨env',List.mem_cons_of_mem _ he',hfe⟩)) hr⟩
  exact key l hl ff
 ·exact (sb.2 e (rec_ne e oe vs he hd)).trans he
 ·rintro ⟨T,oT,ts,fl,h1',hnT,hTe,hT,hdT,h3⟩
  exact ⟨T,oT,ts,fl,h1',Jj hnT,hTe,(sb.2 T (rec_ne T oT ts hT hdT)).trans hT,hdT,h3⟩
section
variable {X:Cx}
theorem ZfN {pins:List (Addr×Obj)}{σ:L2.St}{s3 s':Shared}{H3:Hp}{scope:Scope}{ce:Env}{fp:List Addr}{E:XK}{e:Value}{use:Option (Value→Sem Unit)}{Qf:Value→Shared→Prop}{D:Addr}{env0:Env}{rest:List Env}{L:Addr}
  (hs:X.stack=env0::rest) (h0:env0.frame=some L) (hfe:X.env.frame=some L) (hce:ce.frame=X.env.frame) (cL:ce.locals=s3.heap.objs.size) (I3:Inv X pins σ H3 s3) (hfp:∀ b∈fp,QX X pins H3 b)
  (hp:∀ e s',YH X E e s'→X.xe e s') (h:YH (X.blk s3 H3 scope ce fp) E e s') :
  notedBy (model X.prog X.w) X.A ce (fun x s''=>compPost (model X.prog X.w) X.A X.xe use Qf (.ref D) s3.heap.objs.size (.error x) s'') e s':=by
 obtain ⟨pins1,σ1,H1,s1,ex,a,Cc,H',B,rfl,I1,hx,fl,g,q⟩:=h
 have fr:=I3.ok.frames
 rw [hs] at fr
 unfold notedBy
 rw [ZbN (env':=env0) (hce.trans (hfe.trans h0.symm))]
 have fl0:Fly B (env0::rest) a Cc true s'.heap:=by rw [← hs];exact fl
 have ff:s'.heap.FunFrames B X.stack:=fl.2.2.1
 refine Zbn fr h0 fl0 fun h1 fl1 up1=>?_
 have g1:=g.step (h2:=h1) fl1.1 up1 ff
 have I':=g1.inv I1 hx
 obtain ⟨m,hn,_⟩:=id I'.loc
 have hn:h1.Ns ce.locals m:=hn
 rw [cL] at hn
 have hCn:H' s3.heap.objs.size=none:=by
  have z:H' ce.locals=none:=I'.free
  rw [cL] at z;exact z
 have frlt:∀ b∈frs X.stack,b≠s3.heap.objs.size:=fun b hb=>by
  obtain ⟨_,o,ho,_⟩:=I3.stack.mem hb
  exact Nat.ne_of_lt (Heap.lt_size ho)
 refine ⟨m,hn,fun h2 sb cenv _=>?_⟩
 have fl2:Fly (PySem.W.hideAll B [s3.heap.objs.size]) X.stack a Cc false h2:=Zin (by rw [hs];exact fl1) hn sb frlt
 have un1:Un (frs X.stack) fp H3 H' s3.heap h1:=I'.base
 have ne3:∀ b o,s3.heap.get? b=some o→b≠s3.heap.objs.size:=fun b o e=>Nat.ne_of_lt (Heap.lt_size e)
 have g2:Go X.prog X.w (PySem.W.hideAll B [s3.heap.objs.size]) X.stack fp H3 H' s3 { s' with heap:=h2 }:=by
  refine ⟨I'.os,I'.bare,⟨fun b o e n hb hx=>?_,fun b o e n hb hx=>?_,un1.free,fun b o e hx=>?_,un1.tups,un1.frzs,un1.tbls⟩,fun b u e=>?_,fun b hb=>?_,fun b o e hb hc=>?_⟩
  ·exact (sb.2 b (ne3 b o e)).trans (un1.keep b o e n hb hx)
  ·obtain ⟨sl,e1⟩:=un1.slot b o e n hb hx
   exact ⟨sl,(sb.2 b (ne3 b o e)).trans e1⟩
  ·obtain ⟨o',e1⟩:=un1.there b o e hx
   exact ⟨o',(sb.2 b (ne3 b o e)).trans e1⟩
  ·refine (I'.hok b u e).stay (fun c v hc z=>(sb.2 c ?_).trans z) (fun _ z=>z) fun _ _ z=>z
   rintro rfl
   rcases hc with rfl | hc
   ·rw [hCn] at e;cases e
   ·rw [hCn] at hc;cases hc
  ·obtain ⟨_,o,ho,_⟩:=I3.stack.mem hb
   exact un1.free b o ho (I3.ZaW b hb) fun z=>by
    have:=(hfp b z)
    rcases List.mem_cons.mp (I3.Zbp b hb) with w' | w'
    ·exact this.2.1 w'
    ·exact this.2.2.1 w'
  ·have nC:b≠s3.heap.objs.size:=by
    rcases hc with ⟨⟨o0,e0⟩,_⟩ | hc
    ·exact ne3 b o0 e0
    ·rintro rfl;exact hc hCn
   have e1:h1.get? b=some o:=(sb.2 b nC).symm.trans e
   refine PySem.W.hideAll_get [s3.heap.objs.size] (g1.cov b o e1 hb ?_) (by simpa using nC)
   rcases hc with ⟨⟨o0,e0⟩,hxf⟩ | hc
   ·refine .inl ⟨I1.base.there b o0 e0 hxf,fun z=>?_⟩
    rcases (hx b z).1 with q' | q'
    ·exact hxf q'
    ·exact absurd (Nat.lt_of_lt_of_le (Heap.lt_size e0) q') (Nat.lt_irrefl _)
   ·exact .inr hc
 refine ZjJ fl2 fun h3 fl3 up3=>?_
 refine hp _ _ ⟨pins,σ,H3,s3,fp,a,Cc,H',_,rfl,I3,fun b hb=>?_,fl3.up,g2.step (h2:=h3) fl3.1 up3 fl2.2.2.1,q⟩
 obtain ⟨f0,f1,f2,f3,f4,f5⟩:=hfp b hb
 exact ⟨f3,f1,f4,f5⟩
theorem ZeE {pins:List (Addr×Obj)}{s:Shared}{σ:L2.St}{H:Hp}{Q:VK}{elt tg iter:Expr}{ifs:List Expr}{scope:Scope}{own:List (Str×Nat)}{pos pos':Pos}{wi:TI}{g:TG}{tt:TT}{te:TE}{use:Option (Value→Sem Unit)}{Qf:Value→Shared→Prop}
  (hc:X.calm=true) (hN:X.N.Nodup) (I:Inv X pins σ H s) (hi:PI X tg iter wi) (ok:Yj X.N X.env.scope scope own)
  (hg:∀ (s:Shared) (H:Hp) (C:Addr) (cl:List (Str×Addr)) (fp:List Addr),PG (X.blk s H scope (compEnvC scope cl C X.env) fp) tg g) (ht:∀ (s:Shared) (H:Hp) (C:Addr) (cl:List (Str×Addr)) (fp:List Addr),PTs (X.blk s H scope (compEnvC scope cl C X.env) fp) ifs tt)
  {env0:Env}{restE:List Env}{LF:Addr}{E:XK}(hst:X.stack=env0::restE) (hf0:env0.frame=some LF) (hfe:X.env.frame=some LF) (hp:∀ e s',YH X E e s'→X.xe e s')
  (he:∀ (s:Shared) (H:Hp) (C:Addr) (cl:List (Str×Addr)) (fp:List Addr),PE ((X.blk s H scope (compEnvC scope cl C X.env) fp).Qm (YH (X.blk s H scope (compEnvC scope cl C X.env) fp) E)) elt te) (hs:∀ x,foldedSetIterable iter X.env x=pure x)
  (h:tLc wi g tt te (own.map (·.2)) σ H Q)
  (hRR:∀ D C s' m H',Inv X pins σ H' s'→Q (.ref D) H'→s'.heap.Ns C m→QX X pins H' C→compPost (model X.prog X.w) X.A X.xe use Qf (.ref D) C (.ok .next) s') :
  wpAny (model X.prog X.w) X.A (comprehension (.ListComp elt [⟨tg,iter,ifs,0⟩] scope pos) scope X.env pos' (newList []) false (eval iter X.env) use) Qf X.xe s:=by
 have hfree:∀ y∈scope.names,y.2=.free→∃ c,X.env.cells.lookup y.1=some c:=fun y hy e=>by
  rcases ok.free y hy e with k | k
  ·exact I.ok.has _ (.inl k)
  ·exact I.ok.has _ (.inr k)
 refine wpAny_comprehension_free (use:=use) rfl hs (ZbO hfree) ok.kind (fun y hy e=>by rw [ok.uniq y hy,e])
  (thn (hi pins s σ H _ I h) fun xv s1 hx=>thn hx fun itv s2 h2=>?_)
 obtain ⟨it,fp,tn,J,H2,e,I2,T,st2,f2,q⟩:=h2
 subst e
 refine wpAny_newObj_type (ZaE ?_) (by show 0≤sizeLine;decide)
 generalize hD:s2.heap.objs.size=D
 have hDn:H2 D=none:=I2.hok.fresh (Nat.le_of_eq hD)
 obtain ⟨W,⟨m0,w0⟩,turn⟩:=q D hDn
 generalize hs3:({ s2 with heap:=s2.heap.push { cls:=.type "list",data:=.seq ([]:List Value).toArray } }:Shared)=s3
 have I3:Inv X pins σ (upd H2 D (.lst [])) s3:=by
  rw [← hs3]
  refine I2.laid (t':=s2.toks) (fun b o e=>Heap.get?_push_of_some _ e) (Nat.le_of_eq hD) ⟨Nat.zero_le _,[],0,.nil,?_⟩
  rw [← hD]
  exact Heap.get?_push_size _ rfl
 have h3:s3.heap=s2.heap.push { cls:=.type "list",data:=.seq ([]:List Value).toArray }:=by rw [← hs3]
 have sz:∀ b∈fp,b<s2.heap.objs.size:=fun b hb=>by
  obtain ⟨o,e,_⟩:=T.obj _ _ st2 b hb
  exact Heap.lt_size e
 have f3:∀ b∈fp,QX X pins (upd H2 D (.lst [])) b∧b<s3.heap.objs.size:=fun b hb=>by
  have hlt:=sz b hb
  refine ⟨⟨?_,(f2 b hb).2⟩,by rw [h3,Heap.size_push];exact Nat.lt_succ_of_lt hlt⟩
  rw [Zn (by rw [← hD];exact Nat.ne_of_lt hlt)]
  exact (f2 b hb).1
 have st3:tn 0 s3.heap:=T.keep _ _ _ st2 fun b _ o e=>by rw [h3];exact Heap.get?_push_of_some _ e
 have I4:=ZaA I3 ok hN f3
 have pg:=hg s3 (upd H2 D (.lst [])) s3.heap.objs.size (cellsFrom (s3.heap.objs.size+1) scope.names (ZF X.env.cells scope.names [])) fp
 have pt:=ht s3 (upd H2 D (.lst [])) s3.heap.objs.size (cellsFrom (s3.heap.objs.size+1) scope.names (ZF X.env.cells scope.names [])) fp
 have pe:=he s3 (upd H2 D (.lst [])) s3.heap.objs.size (cellsFrom (s3.heap.objs.size+1) scope.names (ZF X.env.cells scope.names [])) fp
 show codeAny _ _ (.compStart (.ListComp elt [⟨tg,iter,ifs,0⟩] scope pos) 0 (.ref it) (.ref D) (compEnvC scope (cellsFrom (s3.heap.objs.size+1) scope.names (ZF X.env.cells scope.names [])) s3.heap.objs.size X.env)) (compPost (model X.prog X.w) X.A X.xe use Qf (.ref D) s3.heap.objs.size) { s3 with heap:=pushCells (s3.heap.push { cls:=.type "dict",data:=.dict #[] }) scope.names }
 have nfp:∀ b∈fp,(upd H2 D (.lst [])) b=none:=fun b hb=>(f3 b hb).1.1
 generalize hce:compEnvC scope (cellsFrom (s3.heap.objs.size+1) scope.names (ZF X.env.cells scope.names [])) s3.heap.objs.size X.env=ce at I4 pg pt pe ⊢
 have cL:ce.locals=s3.heap.objs.size:=by subst hce;rfl
 have hceF:ce.frame=X.env.frame:=by subst hce;rfl
 generalize hH3:upd H2 D (.lst [])=H3 at I3 I4 pg pt pe w0 nfp f3
 generalize hs4:({ s3 with heap:=pushCells (s3.heap.push { cls:=.type "dict",data:=.dict #[] }) scope.names }:Shared)=s4 at I4 ⊢
 have st4:tn 0 s4.heap:=T.keep _ _ _ st3 fun b _ o e=>by rw [← hs4];exact pushCells_keeps _ _ _ _ (Heap.get?_push_of_some _ e)
 have stat:∀ {σ':L2.St}{H':Hp}{s':Shared},Inv (X.blk s3 H3 scope ce fp) [] σ' H' s'→(∀ b∈fp,H' b=none)→∀ b∈fp,QX (X.blk s3 H3 scope ce fp) [] H' b:=fun {σ' H' s'} I' hn b hb =>
  ⟨hn b hb,(I'.ok.exf b hb).1,I'.ok.exfs b hb,.inl hb,fun x c e=>(I'.ok.exf b hb).2 x c e,fun p hp=>absurd (show p∈([]:List (Addr×Obj))++[] from hp) (by simp)⟩
 have loop:codeAny (model X.prog X.w) X.A (.compLoop (.ListComp elt [⟨tg,iter,ifs,0⟩] scope pos) 0 (.ref it) (.ref D) ce) (compPost (model X.prog X.w) X.A X.xe use Qf (.ref D) s3.heap.objs.size) s4:=by
  refine JT (fun n s'=>∃ i H',Inv (X.blk s3 H3 scope ce fp) [] (wipe σ (own.map (·.2))) H' s'∧tn i s'.heap∧(∀ b∈fp,H' b=none)∧W i n H') ?_ m0 ⟨0,H3,I4,st4,nfp,w0⟩
  rintro n s5 ⟨i,H5,I5,st5,n5,w5⟩
  rcases turn i n H5 w5 with ⟨stop,qq⟩ | ⟨go,Nx,hNx,step⟩
  ·have td:=T.done (X.blk s3 H3 scope ce fp) rfl rfl rfl hc i [] s5 _ H5 (fun _ _=>False) I5 (stat I5 n5) st5 stop
   refine Zcd td fun r s6 ⟨hr,I6⟩=>?_
   subst hr
   have I7:Inv X pins σ H5 s6:=I3.Zix (ch:=fp) I6.os I6.base I6.hok I6.bare fun b hb=>⟨(f3 b hb).1.2.2.2.1,(f3 b hb).1.2.1,(f3 b hb).1.2.2.2.2.1,(f3 b hb).1.2.2.2.2.2⟩
   have nC:H5 s3.heap.objs.size=none:=by
    have z:H5 ce.locals=none:=I6.free
    rw [cL] at z
    exact z
   obtain ⟨m,hn,_⟩:=I6.loc
   have hn:s6.heap.Ns ce.locals m:=hn
   rw [cL] at hn
   exact hRR D s3.heap.objs.size s6 m H5 I7 qq hn (I3.ZdQ (Nat.le_refl _) nC)
  ·have ti:=T.item (X.blk s3 H3 scope ce fp) rfl rfl rfl hc i [] s5 _ H5 (fun _ _=>False) I5 (stat I5 n5) st5 go
   refine Zcd ti fun r s6 ⟨u,hr,h6⟩=>?_
   subst hr
   refine Zcd h6 fun _ s7 ⟨x,H7,I7,r7,y7,st7,n7⟩=>?_
   have I7':=I7.pinned (stat I7 n7) (T.obj _ _ st7)
   refine Zcd (pg _ s7 _ H7 x u _ I7' r7 (step x H7 y7)) fun _ s8 ⟨σ8,H8,I8,hw8,q8⟩=>?_
   refine Zcd (pt _ s8 σ8 H8 _ I8 q8) fun b s9 ⟨H9,I9,q9⟩=>?_
   have fin:∀ {s':Shared}{H':Hp},Inv (X.blk s3 H3 scope ce fp) ([]++Zax fp s7.heap) σ8 H' s'→Nx H'→∃ m,m<n∧∃ i H',Inv (X.blk s3 H3 scope ce fp) [] (wipe σ (own.map (·.2))) H' s'∧tn i s'.heap∧(∀ b∈fp,H' b=none)∧W i m H':=fun {s' H'} I' nx=>by
    obtain ⟨m',hm,w'⟩:=hNx H' nx
    have pin':∀ b∈fp,∀ o,s7.heap.get? b=some o→s'.heap.get? b=some o∧H' b=none:=fun b hb o e =>
     let z:=I'.pin (b,o) (List.mem_append_right _ (List.mem_append_right _ (XQ hb e)))
     ⟨z.1,z.2.1⟩
    have hl:(wipe σ (own.map (·.2))).length=σ8.length:=by rw [← hw8,Xo]
    refine ⟨m',hm,i+1,H',(I'.QK (pins:=[])).weak hl (fun j v e=>?_),T.keep _ _ _ st7 fun b hb o e=>(pin' b hb o e).1,fun b hb=>?_,w'⟩
    ·rw [← hw8] at e
     exact (QU e).1
    ·obtain ⟨o,e,_⟩:=T.obj _ _ st7 b hb
     exact (pin' b hb o e).2
   cases b with
   | false =>
    simp only [Bool.false_eq_true,if_false] at q9 ⊢
    exact fin I9 q9
   | true =>
    simp only [if_true] at q9 ⊢
    refine wpAny_mono (pe _ s9 σ8 H9 _ (I9.Qm _) q9) (fun z s10 ⟨yv,H10,I10',r10,acc,hD10,hz10,nx⟩=>?_) (fun ee s10 hq=>ZfN hst hf0 hfe hceF cL I3 (fun b hb=>(f3 b hb).1) hp hq)
    have I10:=I10'.YS
    exact ZiS (X:=X.blk s3 H3 scope ce fp) I10 hD10 hz10 r10 fun s11 I11=>fin I11 nx
 exact codeAny_compStart_list loop (T.self X.A 0 _ _ _ st4 loop)
theorem ZlE {elt tg iter:Expr}{ifs:List Expr}{scope:Scope}{own:List (Str×Nat)}{pos:Pos}{wi:TI}{g:TG}{tt:TT}{te:TE}(hc:X.calm=true) (hN:X.N.Nodup) (hi:PI X tg iter wi) (ok:Yj X.N X.env.scope scope own)
  (hg:∀ (s:Shared) (H:Hp) (C:Addr) (cl:List (Str×Addr)) (fp:List Addr),PG (X.blk s H scope (compEnvC scope cl C X.env) fp) tg g) (ht:∀ (s:Shared) (H:Hp) (C:Addr) (cl:List (Str×Addr)) (fp:List Addr),PTs (X.blk s H scope (compEnvC scope cl C X.env) fp) ifs tt)
  {env0:Env}{restE:List Env}{LF:Addr}{E:XK}(hst:X.stack=env0::restE) (hf0:env0.frame=some LF) (hfe:X.env.frame=some LF) (hp:∀ e s',YH X E e s'→X.xe e s')
  (he:∀ (s:Shared) (H:Hp) (C:Addr) (cl:List (Str×Addr)) (fp:List Addr),PE ((X.blk s H scope (compEnvC scope cl C X.env) fp).Qm (YH (X.blk s H scope (compEnvC scope cl C X.env) fp) E)) elt te) (hs:∀ x,foldedSetIterable iter X.env x=pure x:=by intro _;rfl) :
  PE X (.ListComp elt [⟨tg,iter,ifs,0⟩] scope pos) (tLc wi g tt te (own.map (·.2))):=by
 intro pins s σ H Q I h
 rw [eval_ListComp]
 refine ZeE hc hN I hi ok hg ht hst hf0 hfe hp he hs h fun D C s' m H' I' q hn f=>⟨m,hn,fun h'' sb=>?_⟩
 obtain ⟨f0,f1,f2,f3,f4,f5⟩:=f
 exact ⟨.ref D,H',I'.turned (t':=s'.toks) (fun b o hb e=>(sb.2 b hb).trans e) f0 f1 f3 f4 f5,rfl,q⟩
theorem ZcI {i:Nat}{y:Str}{py:Pos}{elt tg iter:Expr}{ifs:List Expr}{scope:Scope}{own:List (Str×Nat)}{pos spos:Pos}{wi:TI}{g:TG}{tt:TT}{te:TE}(hc:X.calm=true) (hN:X.N.Nodup) (hy:X.N[i]?=some y) (hyl:X.env.scope.names.lookup y=some .local)
  (hsw:swapsWith (.ListComp elt [⟨tg,iter,ifs,0⟩] scope pos) (some (.Name y py)) spos.line X.env=pure true) (hi:PI X tg iter wi) (ok:Yj X.N X.env.scope scope own)
  (hg:∀ (s:Shared) (H:Hp) (C:Addr) (cl:List (Str×Addr)) (fp:List Addr),PG (X.blk s H scope (compEnvC scope cl C X.env) fp) tg g) (ht:∀ (s:Shared) (H:Hp) (C:Addr) (cl:List (Str×Addr)) (fp:List Addr),PTs (X.blk s H scope (compEnvC scope cl C X.env) fp) ifs tt)
  {env0:Env}{restE:List Env}{LF:Addr}{E:XK}(hst:X.stack=env0::restE) (hf0:env0.frame=some LF) (hfe:X.env.frame=some LF) (hp:∀ e s',YH X E e s'→X.xe e s')
  (he:∀ (s:Shared) (H:Hp) (C:Addr) (cl:List (Str×Addr)) (fp:List Addr),PE ((X.blk s H scope (compEnvC scope cl C X.env) fp).Qm (YH (X.blk s H scope (compEnvC scope cl C X.env) fp) E)) elt te) (hs:∀ x,foldedSetIterable iter X.env x=pure x:=by intro _;rfl) :
  PS X (.Assign [.Name y py] (.ListComp elt [⟨tg,iter,ifs,0⟩] scope pos) spos) (JQ (tLc wi g tt te (own.map (·.2))) (YF i)):=by
 intro pins s σ H D I h
 rw [exec_Assign_Name_used _ _ _ _ hsw]
 refine wpAny_bind (wpAny_standAt (wpAny_bind ?_))
 show wpAny _ X.A (do let _ ← comprehension (.ListComp elt [⟨tg,iter,ifs,0⟩] scope pos) scope X.env (firstIterPos [⟨tg,iter,ifs,0⟩] pos) (newList []) false (eval iter X.env) (some (assign (.Name y py) X.env))) _ _ s
 have h:tLc wi g tt te (own.map (·.2)) σ H (fun x H1=>YF i x σ H1 D.nx):=h
 refine wpAny_bind (thn (ZeE (Qf:=fun _ s'=>SP X pins D .next s') hc hN I hi ok hg ht hst hf0 hfe hp he hs h fun L C s' m H' I' q hn f=>?_) fun _ s' hq=>wpAny_pure (wpAny_pure hq))
 show wpAny _ _ (assign (.Name y py) X.env (.ref L)) _ _ _
 refine wpAny_assign_Name (Zac (v:=V.ref L) I' hN hy (.inl hyl) rfl (fun s2 I2 ⟨a,sb,ha⟩=>?_) (.inr hyl))
 obtain ⟨f0,f1,f2,f3,f4,f5⟩:=f
 have haC:C≠a:=by
  rcases ha with z | z
  ·rw [z];exact f1
  ·exact fun e=>f4 y a z e.symm
 refine ⟨m,hn.sameBut sb haC,fun h3 sb3=>?_⟩
 exact ⟨_,H',I2.turned (t':=s2.toks) (fun b o hb e=>(sb3.2 b hb).trans e) f0 f1 f3 f4 f5,q⟩
end
end LX
namespace LX
open PySem PySem.Spec PyProof.Rows L2
section
variable {X:Cx}
def Sm (i:Int):Prop:=i.natAbs<2^4000
theorem ZfE {i:Int}{k:Nat}(h:i.natAbs<2^k):Builtin.Int.intBits i≤k:=by
 unfold Builtin.Int.intBits
 split
 ·exact Nat.zero_le _
 ·rename_i hz
  have h0:i.natAbs≠0:=by
   intro z
   apply hz
   have:i=0:=by lia
   simp [this]
  exact (Nat.log2_lt h0).mpr h
theorem Sm.bits {i:Int}(h:Sm i):Builtin.Int.intBits i≤4000:=ZfE h
theorem Sm.log {i:Int}(h:Sm i):i.natAbs.log2<9000:=by
 by_cases h0:i.natAbs=0
 ·rw [h0];decide
 ·exact Nat.lt_trans ((Nat.log2_lt h0).mpr h) (by decide)
theorem ZkK:OpR X (binaryOp .Mult) (rI (fun i j=>Sm i∧Sm j) fun i j=>.int (i*j)):=opI fun _ _ _ _ _ _ _ hc q=>mul_int q (IntMulOk.of_le hc.1.bits hc.2.bits (by decide))
theorem Zka:OpR X (binaryOp .FloorDiv) (rI (fun i j=>0<j∧Sm j) fun i j=>.int (i / j)):=opI fun i j _ _ _ _ _ hc q=>by
 have h1:(0:Int)<j:=hc.1
 refine floordiv_int (Int.ne_of_gt h1) ?_ (.inl (PyProof.noPylong_of_log2 hc.2.log))
 rw [Int.fdiv_eq_ediv_of_nonneg _ (Int.le_of_lt h1)]
 exact q
theorem Zkv:OpR X (binaryOp .LShift) (rI (fun i j=>0≤j∧j≤4000∧Sm i) fun i j=>.int (i*2^j.toNat)):=opI fun i j _ _ _ _ _ hc q=>by
 have h1:=hc.2.2.bits
 exact lshift_int hc.1 (by have:=hc.2.1;lia) q
theorem ZlR:OpR X (compareOp .Eq) (rI0 fun i j=>.bl (decide (i=j))):=ZhE fun _ _ _ _ _ _ _ q=>eq_int (by rw [Bool.beq_eq_decide_eq];exact q)
theorem ZlU:OpR X (compareOp .NotEq) (rI0 fun i j=>.bl (!decide (i=j))):=ZhE fun _ _ _ _ _ _ _ q=>ne_int (by rw [bne,Bool.beq_eq_decide_eq];exact q)
theorem Zkw:MtR X "int.bit_length" (fun x xs H Q=>∃ i,x=.int i∧xs=[]∧Q (.int (Builtin.Int.intBits i:Nat)) H):=by
 intro pins s σ H x xs v us Q I rx rs h
 obtain ⟨i,rfl,rfl,q⟩:=h
 obtain ⟨t,rfl⟩:=rx
 cases rs
 exact call_int_bit_length ⟨.int (Builtin.Int.intBits i:Nat),H,I.tok _,⟨_,rfl⟩,q⟩
def Ziu (P:Program) (w:World) (K:PySem.W.Frag) (mg:Str→Option Value) (base:Heap) (CX:CXT) (k:Nat) (E:XK) (tf:TE) (t:TA):TE:=fun σ H Q=>tf σ H fun v H1=>∃ (f:Addr) (fd:FuncData) (ps:List Str) (sp:Sp),v=.ref f∧Yi P w K mg base CX k f fd ps sp ∧
 PySem.W.keepIn K (.ref f)=true∧Binds K fd ps []∧t σ H1 fun vs H2=>sp vs H2 Q E
theorem ZiW {P:Program}{w:World}{K:PySem.W.Frag}{mg:Str→Option Value}{base:Heap}{CX:CXT}{k:Nat}{E:XK}{fe e:Expr}{es:List Expr}{tf:TE}{t:TA}{pos:Pos}(hr:Yf k X.A) (hx:Passes CX X E) (hf:PE X fe tf) (ha:PA X (e::es) t)
  (h1:X.prog=P:=by rfl) (h2:X.w=w:=by rfl) (h3:X.K=K:=by rfl) (h4:X.mg=mg:=by rfl) (h5:X.base=base:=by rfl)
  (harm:eval (.Call fe (e::es) [] pos) X.env=(do callWith pos (← eval fe X.env) [] (backTo pos (starEach (e::es) X.env)) (backToKw pos (keywordEach [] X.env))):=by rfl)
  (he:starEach (e::es) X.env=(false,eval e X.env)::starEach es X.env:=by rfl) (hpl:(backTo pos (starEach es X.env)).any (·.1)=false:=by rfl) :
  PE X (.Call fe (e::es) [] pos) (Ziu P w K mg base CX k E tf t):=by
 subst h1 h2 h3 h4 h5
 intro pins s σ H Q I h
 rw [harm]
 refine wpAny_bind (thn (hf pins s σ H _ I h) fun u s1 ⟨v,H1,I1,r,f,fd,ps,sp,ev,F,hk,hb,q⟩=>?_)
 subst ev
 obtain rfl:u=Value.ref f:=r
 refine PySem.W.callWith_K (h₀:=X.base) I.ok.mod.kin hk (thn (ha pos pins s1 σ H1 _ I1 q) fun us s2 ⟨vs,H2,I2,r2,q2⟩=>⟨I2.kIn,?_⟩) he hpl
 exact ZfZ (ds:=[]) (dvs:=[]) F hr hb .nil hx I2 r2 (by rw [List.append_nil];exact q2)
end
end LX
namespace LX
open PySem PySem.Spec PyProof.Rows L2
def ZgP:R2:=fun x y H Q=>∃ i j z,x=.int i∧y=.int j∧i+j=z∧Q (.int z) H
def ZiF:R2:=fun x y H Q=>∃ i j z,x=.int i∧y=.int j∧i-j=z∧Q (.int z) H
def Zlu:R2:=fun x y H Q=>∃ i j z,x=.int i∧y=.int j∧(Sm i∧Sm j)∧i*j=z∧Q (.int z) H
def Zmm:R2:=fun x y H Q=>∃ i j z,x=.int i∧y=.int j∧(0<j∧Sm j)∧i / j=z∧Q (.int z) H
def Znw:R2:=fun x y H Q=>∃ i j z,x=.int i∧y=.int j∧(0<j)∧i % j=z∧Q (.int z) H
def Zlz:R2:=fun x y H Q=>∃ i j z,x=.int i∧y=.int j∧(0≤j∧j≤4000∧Sm i)∧i*2^j.toNat=z∧Q (.int z) H
def ZlA:R2:=fun x y H Q=>∃ i j z,x=.int i∧y=.int j∧(0≤j)∧i / 2^j.toNat=z∧Q (.int z) H
def Znb:R2:=fun x y H Q=>∃ i j z,x=.int i∧y=.int j∧Builtin.bitAnd i j=z∧Q (.int z) H
def ZnX:R2:=fun x y H Q=>∃ i j z,x=.int i∧y=.int j∧Builtin.bitOr i j=z∧Q (.int z) H
def ZkX:R2:=fun x y H Q=>∃ i j,x=.int i∧y=.int j∧∀ b:Bool,(b=true↔i=j)→Q (.bl b) H
def ZnD:R2:=fun x y H Q=>∃ i j,x=.int i∧y=.int j∧∀ b:Bool,(b=true↔i<j)→Q (.bl b) H
def ZnP:R2:=fun x y H Q=>∃ i j,x=.int i∧y=.int j∧∀ b:Bool,(b=true↔i≤j)→Q (.bl b) H
def Zog:R2:=fun x y H Q=>∃ i j,x=.int i∧y=.int j∧∀ b:Bool,(b=true↔j<i)→Q (.bl b) H
def ZnM:R2:=fun x y H Q=>∃ i j,x=.int i∧y=.int j∧∀ b:Bool,(b=true↔j≤i)→Q (.bl b) H
def ZnZ:R2:=fun x y H Q=>∃ i j,x=.int i∧y=.int j∧∀ b:Bool,(b=true↔i≠j)→Q (.bl b) H
def Zhb:V→Hp→VK→Prop:=fun x H Q=>∃ i z,x=.int i∧-i=z∧Q (.int z) H
section
variable {X:Cx}
theorem Yh:OpR X (binaryOp .Add) ZgP:=fun pins s σ H x y v u Q I rx ry q=>by
 obtain ⟨i,j,z,e1,e2,e3,q⟩:=q
 exact ZlT pins s σ H x y v u Q I rx ry ⟨i,j,e1,e2,by subst e3;exact q⟩
theorem YK:OpR X (binaryOp .Sub) ZiF:=fun pins s σ H x y v u Q I rx ry q=>by
 obtain ⟨i,j,z,e1,e2,e3,q⟩:=q
 exact Zmd pins s σ H x y v u Q I rx ry ⟨i,j,e1,e2,by subst e3;exact q⟩
theorem Xu:OpR X (binaryOp .Mult) Zlu:=fun pins s σ H x y v u Q I rx ry q=>by
 obtain ⟨i,j,z,e1,e2,hc,e3,q⟩:=q
 exact ZkK pins s σ H x y v u Q I rx ry ⟨i,j,e1,e2,hc,by subst e3;exact q⟩
theorem Qc:OpR X (binaryOp .FloorDiv) Zmm:=fun pins s σ H x y v u Q I rx ry q=>by
 obtain ⟨i,j,z,e1,e2,hc,e3,q⟩:=q
 exact Zka pins s σ H x y v u Q I rx ry ⟨i,j,e1,e2,hc,by subst e3;exact q⟩
theorem ZkF:OpR X (binaryOp .Mod) Znw:=fun pins s σ H x y v u Q I rx ry q=>by
 obtain ⟨i,j,z,e1,e2,hc,e3,q⟩:=q
 exact Zmf pins s σ H x y v u Q I rx ry ⟨i,j,e1,e2,hc,by subst e3;exact q⟩
theorem QG:OpR X (binaryOp .LShift) Zlz:=fun pins s σ H x y v u Q I rx ry q=>by
 obtain ⟨i,j,z,e1,e2,hc,e3,q⟩:=q
 exact Zkv pins s σ H x y v u Q I rx ry ⟨i,j,e1,e2,hc,by subst e3;exact q⟩
theorem Jz:OpR X (binaryOp .RShift) ZlA:=fun pins s σ H x y v u Q I rx ry q=>by
 obtain ⟨i,j,z,e1,e2,hc,e3,q⟩:=q
 exact ZlD pins s σ H x y v u Q I rx ry ⟨i,j,e1,e2,hc,by subst e3;exact q⟩
theorem Zjx:OpR X (binaryOp .BitAnd) Znb:=fun pins s σ H x y v u Q I rx ry q=>by
 obtain ⟨i,j,z,e1,e2,e3,q⟩:=q
 exact ZlN pins s σ H x y v u Q I rx ry ⟨i,j,e1,e2,by subst e3;exact q⟩
theorem orE:OpR X (binaryOp .BitOr) ZnX:=fun pins s σ H x y v u Q I rx ry q=>by
 obtain ⟨i,j,z,e1,e2,e3,q⟩:=q
 exact ZnC pins s σ H x y v u Q I rx ry ⟨i,j,e1,e2,by subst e3;exact q⟩
theorem eqC:OpR X (compareOp .Eq) ZkX:=fun pins s σ H x y v u Q I rx ry q=>by
 obtain ⟨i,j,e1,e2,q⟩:=q
 exact ZlR pins s σ H x y v u Q I rx ry ⟨i,j,e1,e2,q _ decide_eq_true_iff⟩
theorem ltC:OpR X (compareOp .Lt) ZnD:=fun pins s σ H x y v u Q I rx ry q=>by
 obtain ⟨i,j,e1,e2,q⟩:=q
 exact Znu pins s σ H x y v u Q I rx ry ⟨i,j,e1,e2,q _ decide_eq_true_iff⟩
theorem leC:OpR X (compareOp .LtE) ZnP:=fun pins s σ H x y v u Q I rx ry q=>by
 obtain ⟨i,j,e1,e2,q⟩:=q
 exact Zno pins s σ H x y v u Q I rx ry ⟨i,j,e1,e2,q _ decide_eq_true_iff⟩
theorem gtC:OpR X (compareOp .Gt) Zog:=fun pins s σ H x y v u Q I rx ry q=>by
 obtain ⟨i,j,e1,e2,q⟩:=q
 exact ZnI pins s σ H x y v u Q I rx ry ⟨i,j,e1,e2,q _ decide_eq_true_iff⟩
theorem geC:OpR X (compareOp .GtE) ZnM:=fun pins s σ H x y v u Q I rx ry q=>by
 obtain ⟨i,j,e1,e2,q⟩:=q
 exact Znl pins s σ H x y v u Q I rx ry ⟨i,j,e1,e2,q _ decide_eq_true_iff⟩
theorem neC:OpR X (compareOp .NotEq) ZnZ:=fun pins s σ H x y v u Q I rx ry q=>by
 obtain ⟨i,j,e1,e2,q⟩:=q
 refine ZlU pins s σ H x y v u Q I rx ry ⟨i,j,e1,e2,q _ ?_⟩
 rw [Bool.not_eq_true',decide_eq_false_iff_not]
theorem Qk:UnR X (unaryOp .USub) Zhb:=fun pins s σ H x v Q I rx q=>by
 obtain ⟨i,z,e1,e2,q⟩:=q
 exact Zmn pins s σ H x v Q I rx ⟨i,e1,by subst e2;exact q⟩
theorem ZiT (hc:X.calm=true):XA X (.builtin "max") (fun xs H Q=>∃ i j z,xs=[.int i,.int j]∧max i j=z∧Q (.int z) H):=fun pins s σ H xs us Q I r q=>by
 obtain ⟨i,j,z,e1,e2,q⟩:=q
 refine Zii hc pins s σ H xs us Q I r ⟨i,j,e1,?_⟩
 have e:(if j>i then j else i)=z:=by split <;> lia
 rw [e];exact q
theorem ZjR (hc:X.calm=true):XA X (.builtin "min") (fun xs H Q=>∃ i j z,xs=[.int i,.int j]∧min i j=z∧Q (.int z) H):=fun pins s σ H xs us Q I r q=>by
 obtain ⟨i,j,z,e1,e2,q⟩:=q
 refine ZhH hc pins s σ H xs us Q I r ⟨i,j,e1,?_⟩
 have e:(if j<i then j else i)=z:=by split <;> lia
 rw [e];exact q
theorem Zeu:MtR X "int.bit_length" (fun x xs H Q=>∃ i z,x=.int i∧xs=[]∧((Builtin.Int.intBits i:Nat):Int)=z∧Q (.int z) H):=fun pins s σ H x xs v us Q I rx rs q=>by
 obtain ⟨i,z,e1,e2,e3,q⟩:=q
 exact Zkw pins s σ H x xs v us Q I rx rs ⟨i,e1,e2,by subst e3;exact q⟩
end
end LX
namespace LX
open PySem PySem.Spec PyProof.Rows L2
section
variable {X:Cx}
def rDm:List V→Hp→VK→Prop:=fun xs H Q=>∃ i j:Int,xs=[.int i,.int j]∧(0<j∧Sm j)∧∀ l,H l=none→Q (.ref l) (upd H l (.tup [.int (i / j),.int (i % j)]))
theorem Zlf:XA X (.builtin "divmod") rDm:=fun pins s σ H xs us Q I r q=>by
 obtain ⟨i,j,e1,⟨h1,h2⟩,q⟩:=q
 subst e1
 cases r with
 | cons r1 r2 =>
  cases r2 with
  | cons r2 r3 =>
   cases r3
   obtain ⟨t,rfl⟩:=r1
   obtain ⟨u,rfl⟩:=r2
   refine divmod_int (Int.ne_of_gt h1) ?_ (.inl (PyProof.noPylong_of_log2 h2.log))
   refine ⟨.ref s.heap.objs.size,_,I.laid (t':=s.toks+1+1) (o:=.tup [.int (i / j),.int (i % j)]) (fun b ob q=>Heap.get?_push_of_some _ q) (Nat.le_refl _) ?_,rfl,q _ (I.hok.fresh (Nat.le_refl _))⟩
   refine ⟨(by show 2≤sizeLine;decide),_,.cons ⟨s.toks,?_⟩ (.cons ⟨s.toks+1,?_⟩ .nil),IsTup.new _ _⟩
   ·rw [Int.fdiv_eq_ediv_of_nonneg _ (Int.le_of_lt h1)]
   ·rw [Int.fmod_eq_emod_of_nonneg _ (Int.le_of_lt h1)]
theorem ZmH:bootBuiltins "divmod"=some (.builtin "divmod"):=by decide +kernel
def ZlZ (r1 r2:R2) (ta tb tc:TE):TE:=fun σ H Q=>ta σ H fun x H1=>tb σ H1 fun y H2=>r1 x y H2 fun c H3=>∃ b:Bool,c=.bl b∧(b=true→tc σ H3 fun z H4=>r2 y z H4 Q)∧(b=false→Q (.bl false) H3)
theorem ZeP {op1 op2:CmpOp}{r1 r2:R2}{a b c:Expr}{ta tb tc:TE}{pos:Pos}(o1:OpR X (compareOp op1) r1) (o2:OpR X (compareOp op2) r2) (ha:PE X a ta) (hb:PE X b tb) (hc:PE X c tc)
  (hm:lastMarks [op1,op2] [b,c]=false:=by with_unfolding_all rfl):PE X (.Compare a [op1,op2] [b,c] pos) (ZlZ r1 r2 ta tb tc):=by
 intro pins s σ H Q I h
 refine Compare_chain (rs:=[]) ?_ hm
 refine thn (ha pins s σ H _ I h) fun v s1 ⟨x,H1,I1,q1,h1⟩=>?_
 refine chain_link ?_
 refine thn (hb pins s1 σ H1 _ I1 h1) fun u s2 ⟨y,H2,I2,q2,h2⟩=>?_
 refine thn (o1 pins s2 σ H2 x y v u _ I2 q1 q2 h2) fun w s3 ⟨c',H3,I3,q3,bb,e3,k1,k2⟩=>?_
 subst e3
 obtain rfl:w=Value.bool bb:=q3
 refine wpAny_truthy_bool ?_
 cases bb with
 | false=>rw [if_neg (by decide)];exact ⟨.bl false,H3,I3,rfl,k2 rfl⟩
 | true =>
  rw [if_pos rfl]
  refine chain_last ?_
  refine thn (hc pins s3 σ H3 _ I3 (k1 rfl)) fun p s4 ⟨z,H4,I4,q4,h4⟩=>?_
  exact o2 pins s4 σ H4 y z u p Q I4 q2 q4 h4
end
def Zek (K:PySem.W.Frag) (C:Addr):Prop:=(match K.lookup C with
 | some ⟨_,_,.cls cd,_⟩=>cd.mro==[.ref C,.type "Exception",.type "BaseException",.type "object"]
 | _=>false)=true
theorem Zek.mro {K:PySem.W.Frag}{C:Addr}{h:Heap}{o:Obj}{cd:ClassData}(q:Zek K C) (X:K.In h) (e:h.get? C=some o) (ed:o.data=.cls cd):cd.mro=[.ref C,.type "Exception",.type "BaseException",.type "object"]:=by
 unfold Zek at q
 split at q
 ·rename_i c0 d0 cd0 sl0 hl
  have:=X _ _ hl
  rw [e] at this
  cases this
  cases ed
  exact beq_iff_eq.mp q
 ·cases q
section
variable {M:Model}{A:Around}{E:Value→Shared→Prop}
theorem Zcq {s:Shared}{nm1 q1 nm2 q2:Str}{C1 C2 N1 N2:Addr}{bs1 bm1 bs2 bm2:List Value}{hd1 hd2:Bool}{sn1 sn2:List Str}{sub1 sub2:List Value}{ab1 ab2:Bool}{col1 col2:Option Bool}{dd1 dd2:Option Addr}
  {k0 k1 k2 k3 k5 l0 l1 l2 l3 l5:Option Value}{n1 n2:String}{e:Addr}{oe:Obj}{Q:Bool→Shared→Prop}
  (h1:s.heap.get? C1=some (excClassObj nm1 q1 C1 N1 bs1 bm1 hd1 sn1 sub1 ab1 col1 dd1 k0 k1 k2 k3 k5 n1)) (h2:s.heap.get? C2=some (excClassObj nm2 q2 C2 N2 bs2 bm2 hd2 sn2 sub2 ab2 col2 dd2 l0 l1 l2 l3 l5 n2))
  (he:s.heap.get? e=some oe) (hcls:oe.cls=.ref C2) (hb:bm1.contains (.type "BaseException")=true) (hn:(Value.ref C2::bm2).contains (.ref C1)=false) (hq:Q false s):wpAny M A (excMatches (.ref e) (.ref C1)) Q E s:=by
 obtain ⟨hp,gn,dr,tk,osx⟩:=s
 have hcB:(Value.ref C1::bm1).contains (.type "BaseException")=true:=by rw [List.contains_cons,hb,Bool.or_true]
 have f:=tc_notTuple
 unfold excMatches
 repeat (first | (with_reducible refine wpAny_loadPart_at he ?_;rw [hcls]) | with_reducible refine wpAny_loadPart_at h1 ?_ | (with_reducible refine wpAny_isSubtype_exc h1 ?_;rw [hcB]) | (with_reducible refine wpAny_isSubtype_exc h2 ?_;rw [hn]) | wp_step)
 exact hq
end
end LX
namespace LX
open PySem PySem.Spec PyProof.Rows L2
theorem Zff {X:Cx}{e:Addr}{pins:List (Addr×Obj)}{σ:L2.St}{H:Hp}{s0:Shared}{D:Ends}{f:Flow}{s:Shared}(I:Inv X pins σ H s0) (h:SP (Cx.suite X e) pins D f s):SP X pins D f s:=by
 have back:∀ {σ':L2.St}{H':Hp},Inv (Cx.suite X e) pins σ' H' s→Inv X pins σ' H' s:=fun I4=>⟨I.ok,I4.os,I4.bare,I4.base,I4.loc,I4.cell,I4.free,I4.freeC,I4.pin,I4.hok,I4.len⟩
 cases f with
 | next=>obtain ⟨σ',H4,I4,q4⟩:=h;exact ⟨σ',H4,back I4,q4⟩
 | brk=>obtain ⟨σ',H4,I4,q4⟩:=h;exact ⟨σ',H4,back I4,q4⟩
 | cont=>obtain ⟨σ',H4,I4,q4⟩:=h;exact ⟨σ',H4,back I4,q4⟩
 | ret u=>obtain ⟨v,σ',H4,I4,r,q4⟩:=h;exact ⟨v,σ',H4,back I4,r,q4⟩
def Zlv (C1 C2:Addr) (tb:XK→TS) (t1 t2:TS):TS:=fun D σ H=>tb (fun c _ H'=>(c=.ref C1∧∀ σ':L2.St,σ'.length=σ.length→t1 D σ' H')∨(c=.ref C2∧∀ σ':L2.St,σ'.length=σ.length→t2 D σ' H')) D σ H
theorem Zkm {X:Cx}{C1 C2:Addr}{x1 x2:Str}{np1 np2 hpos1 hpos2 pos:Pos}{body suite1 suite2:List Stmt}{b1 b2:Stmt}{tb:XK→TS}{t1 t2:TS}{env0:Env}{rest:List Env}{L:Addr}(hs:X.stack=env0::rest) (h0:env0.frame=some L) (he:X.env.frame=some L)
  (q1:ExcAt X.K C1) (q2:ExcAt X.K C2) (g1:Gl X x1) (g2:Gl X x2) (m1:X.mg x1=some (.ref C1)) (m2:X.mg x2=some (.ref C2)) (bare:Zek X.K C2) (ne:C1≠C2)
  (hb:∀ (pn:List (Addr×Obj)) (E:XK),PSs (Cx.held X pn (YH (Cx.held X pn (fun _ _=>False)) E)) body (tb E)) (hh1:∀ e,PSs (Cx.suite X e) (b1::suite1) t1) (hh2:∀ e,PSs (Cx.suite X e) (b2::suite2) t2)
  (hd1:(x1==("__debug__":Str))=false:=by decide) (hd2:(x2==("__debug__":Str))=false:=by decide) :
  PS X (.Try body [.ExceptHandler (some (.Name x1 np1)) none (b1::suite1) hpos1,.ExceptHandler (some (.Name x2 np2)) none (b2::suite2) hpos2] [] [] pos) (Zlv C1 C2 tb t1 t2):=by
 intro pins s σ H D I h
 refine wpAny_Try_except ?_
 refine wpAny_mono (hb (X.pn++pins) _ [] s σ H D (Inv.ZmG I _) h) (fun f s' hq=>?_) fun e s' hf=>?_
 ·cases f with
  | next=>obtain ⟨σ',H',I',q'⟩:=hq;exact wpAny_execs_nil ⟨σ',H',Inv.Zai I',q'⟩
  | brk=>obtain ⟨σ',H',I',q'⟩:=hq;exact ⟨σ',H',Inv.Zai I',q'⟩
  | cont=>obtain ⟨σ',H',I',q'⟩:=hq;exact ⟨σ',H',Inv.Zai I',q'⟩
  | ret u=>obtain ⟨v,σ',H',I',r,q'⟩:=hq;exact ⟨v,σ',H',Inv.Zai I',r,q'⟩
 ·obtain ⟨pins1,σ1,H1,s1,ex,a,Cv,H',B,rfl,I1,hx,fl,g,hth⟩:=hf
  have fr:=I.ok.frames
  rw [hs] at fr
  rw [ZbN (env':=env0) (he.trans h0.symm)]
  have fl0:Fly B (env0::rest) a Cv true s'.heap:=by rw [← hs];exact fl
  have ff:s'.heap.FunFrames B X.stack:=fl.2.2.1
  refine Zbn fr h0 fl0 fun h1 fl1 up1=>?_
  refine XT fl1 fun h2 fl2 up2=>?_
  have g2':=g.step (h2:=h2) fl2.1 (up1.trans up2) ff
  have I2:Inv X pins σ1 H' { s' with heap:=h2 }:=Inv.Zai (g2'.inv I1 hx)
  obtain ⟨bmA,NA,nmA,qnA,bsA,hdcA,snA,subA,abA,colA,ddA,kA0,kA1,kA2,kA3,kA5,mNA,hCA,hNA,hniA,TA⟩:=q1.obj I2.kIn
  obtain ⟨bmB,NB,nmB,qnB,bsB,hdcB,snB,subB,abB,colB,ddB,kB0,kB1,kB2,kB3,kB5,mNB,hCB,hNB,hniB,TB⟩:=q2.obj I2.kIn
  obtain ⟨oe,hoe,hcls⟩:=fl2.there
  have ln:σ1.length=σ.length:=I2.len.trans I.len.symm
  refine wpAny_handleBy_cons (codeAny_handlers_test ?_) (by intro z;cases z)
  refine XZ (X:=Cx.suite X a) (Inv.Zee I2 a) g1 m1 ?_ hd1
  have suit:∀ {t:TS}{b0:Stmt}{suite:List Stmt},(∀ e,PSs (Cx.suite X e) (b0::suite) t)→t D σ1 H'→wpAny (model X.prog X.w) (X.A.mark (some (.ref a))) (setFlight (.ref a) none) (fun _ s₁=>wpAny (model X.prog X.w) (X.A.mark (some (.ref a))) (execs (b0::suite) X.env) (fun f s₂=>SP X pins D f s₂) (fun _ _=>False) s₁) (fun _ _=>False) { s' with heap:=h2 }:=by
   intro t b0 suite hh hth'
   refine XT (B:=B) (l:=env0::rest) fl2 fun h3 fl3 up3=>?_
   have g3:=g.step (h2:=h3) fl3.1 ((up1.trans up2).trans up3) ff
   have I3:Inv X pins σ1 H' { s' with heap:=h3 }:=Inv.Zai (g3.inv I1 hx)
   exact wpAny_mono (hh a pins _ σ1 H' D (Inv.Zee I3 a) hth') (fun f s4 hq=>Zff I hq) fun _ _ z=>False.elim z
  rcases hth with ⟨eC,hth⟩ | ⟨eC,hth⟩
  ·subst eC
   refine wpAny_excMatches_sub_self hCA hoe hcls (TA.hasType PySem.F.excBase_Exception.hasBase) (codeAny_handlers_suite ?_)
   exact wpAny_mono (suit hh1 (hth σ1 ln)) (fun _ s3 q3=>wpAny_mono q3 (fun _ _ z=>z) fun _ _ z=>False.elim z) fun _ _ z=>False.elim z
  ·subst eC
   have hmr:bmB=[.type "Exception",.type "BaseException",.type "object"]:=by
    have:=bare.mro I2.kIn hCB rfl
    exact (List.cons.inj this).2
   refine Zcq hCA hCB hoe hcls (TA.hasType PySem.F.excBase_Exception.hasBase) ?_ ?_
   ·rw [hmr]
    have:(Value.ref C2==Value.ref C1)=false:=by
     rw [beq_eq_false_iff_ne];intro z;cases z;exact ne rfl
    simp [ne]
   refine wpAny_handleBy_cons (codeAny_handlers_test ?_) (by intro z;cases z)
   refine XZ (X:=Cx.suite X a) (Inv.Zee I2 a) g2 m2 ?_ hd2
   refine wpAny_excMatches_sub_self hCB hoe hcls (TB.hasType PySem.F.excBase_Exception.hasBase) (codeAny_handlers_suite ?_)
   exact wpAny_mono (suit hh2 (hth σ1 ln)) (fun _ s3 q3=>wpAny_mono q3 (fun _ _ z=>z) fun _ _ z=>False.elim z) fun _ _ z=>False.elim z
end LX
namespace LX
open PySem PySem.Spec PyProof.Rows
open Builtin.SmallTypes (nextOf)
section
variable {w:World}{prog:Program}{A:Around}{s:Shared}{E:Value→Shared→Prop}
theorem Xc {h h':Heap}{a t:Addr}{i:Nat}(x:h.IsTupleIter a t i) (k:∀ o,h.get? a=some o→h'.get? a=some o):h'.IsTupleIter a t i:=let ⟨o,e,r⟩:=x;⟨o,k o e,r⟩
theorem Zgq {g c:Addr}{n:Nat}{vs:Array Value}{v:Value}{Q:Value→Shared→Prop}(at_:s.heap.IsTupleIter g c n) (of_:s.heap.IsTuple c vs) (e:vs[n]?=some v)
  (k:∀ h':Heap,h'.IsTupleIter g c (n+1)→Heap.SameBut g s.heap h'→Q v {s with heap:=h'}):wpAny (model prog w) A (nextOf (.ref g)) Q E s:=by
 have ty:=at_.typeIs
 obtain ⟨⟨_,dg,_,sg⟩,hg,rfl,rfl⟩:=at_
 obtain ⟨⟨_,dc,_,sc⟩,hc,rfl,m,rfl⟩:=of_
 unfold nextOf
 refine wpAny_bind (wpAny_callSpecial?_slot ty F.slot_tuple_iterator_next (wpAny_call_entry F.slot_tuple_iterator_next ty F.entry_tuple_iterator_next ?_ (F.args_tuple_iterator_next_1 _)))
 wp_walk
 show wpAny _ _ (match vs[n]? with | some _=>_ | none=>_) _ _ _
 rw [e]
 wp_walk
 exact ⟨_,rfl,wpAny_pure (k _ ⟨_,Heap.get?_update_self _ hg rfl,rfl,rfl⟩ (Heap.SameBut.update ..))⟩
theorem Ziy {g c:Addr}{n:Nat}{vs:Array Value}{Q:Value→Shared→Prop}(hh:A.handled=none) (at_:s.heap.IsTupleIter g c n) (of_:s.heap.IsTuple c vs) (e:vs[n]?=none)
  (k:∀ (h':Heap) (x:Addr),Heap.ExtBut g s.heap h'→(∃ o,h'.get? x=some o∧o.cls=.type "StopIteration")→E (.ref x) {s with heap:=h'}):wpAny (model prog w) A (nextOf (.ref g)) Q E s:=by
 have ty:=at_.typeIs
 obtain ⟨⟨_,dg,_,sg⟩,hg,rfl,rfl⟩:=at_
 obtain ⟨⟨_,dc,_,sc⟩,hc,rfl,m,rfl⟩:=of_
 unfold nextOf
 refine wpAny_bind (wpAny_callSpecial?_slot ty F.slot_tuple_iterator_next (wpAny_call_entry F.slot_tuple_iterator_next ty F.entry_tuple_iterator_next ?_ (F.args_tuple_iterator_next_1 _)))
 wp_walk
 show wpAny _ _ (match vs[n]? with | some _=>_ | none=>_) _ _ _
 rw [e]
 wp_walk
 exact wpAny_raiseNew_none hh (k _ _ (fun b o hb q=>Heap.get?_push_of_some _ (Heap.get?_push_of_some _ (((Heap.SameBut.update ..).2 b hb).trans q))) ⟨_,Heap.get?_push_size _ rfl,rfl⟩)
set_option maxHeartbeats 4000000 in
theorem Zla {z T U g1 g2 c1 c2:Addr}{n1 n2:Nat}{vs us:Array Value}{a b x y:Value}{Q:Option Value→Shared→Prop}(D:ZipApart z T U g1 g2 c1 c2)
  (hz:IsZip s.heap z T U .none) (hT:IsPair s.heap T (.ref g1) (.ref g2)) (hU:IsPair s.heap U a b) (h1:s.heap.IsTupleIter g1 c1 n1) (h2:s.heap.IsTupleIter g2 c2 n2)
  (w1:s.heap.IsTuple c1 vs) (w2:s.heap.IsTuple c2 us) (ex:vs[n1]?=some x) (ey:us[n2]?=some y)
  (k:∀ h':Heap,IsZip h' z T U (rawInt s.heap.objs.size)→IsPair h' U x y→h'.IsTupleIter g1 c1 (n1+1)→h'.IsTupleIter g2 c2 (n2+1)→IsPair h' s.heap.objs.size x y →
   h'.objs.size=s.heap.objs.size+1→(∀ b o,b≠z→b≠U→b≠g1→b≠g2→s.heap.get? b=some o→h'.get? b=some o)→Q (some (.ref s.heap.objs.size)) {s with heap:=h'}) :
  wpAny (model prog w) A (pyNext (.ref z)) Q E s:=by
 have ty:s.TypeIs (.ref z) "zip":=⟨_,hz,rfl⟩
 unfold pyNext
 refine wpAny_bind (wpAny_attempt (wpAny_callSpecial?_slot ty F.slot_zip_next (wpAny_call_entry F.slot_zip_next ty F.entry_zip_next ?_ (F.args_zip_next_1 _))))
 wp_walk using wpAny_onRaise,Zgq
 ·exact Xc h1 fun o q=>((Heap.SameBut.update ..).2 _ D.i1z).trans q
 ·exact w1.extBut (Heap.SameBut.update ..).extBut D.l1z
 ·exact ex
 intro p ip sp
 have pz:p.get? z=some {cls:=.type "zip",dict:=none,data:=.fields #[.ellipsis,.bool false,.bool false,.ref T,.ref U],slots:=#[]}:=(sp.2 _ D.i1z.symm).trans (Heap.get?_update_self _ hz rfl)
 have pU:IsPair p U a b:=(sp.2 _ D.TOi1).trans (((Heap.SameBut.update ..).2 _ D.TOz).trans hU)
 refine wpAny_pure (wpAny_bind (wpAny_seqItems pU rfl (wpAny_bind (wpAny_updateSeq_pair pU fun r rU sr=>wpAny_bind (wpAny_letGo (wpAny_pure ?_))))))
 have rz:=(sr.2 _ D.TOz.symm).trans pz
 wp_walk using wpAny_onRaise,Zgq
 ·exact Xc h2 fun o q=>(sr.2 _ D.TOi2.symm).trans ((sp.2 _ D.i12.symm).trans (((Heap.SameBut.update ..).2 _ D.i2z).trans q))
 ·exact let ⟨o,q,f⟩:=w2;⟨o,(sr.2 _ D.l2TO).trans ((sp.2 _ D.l2i1).trans (((Heap.SameBut.update ..).2 _ D.l2z).trans q)),f⟩
 ·exact ey
 intro v iv sv
 have vU:IsPair v U x b:=(sv.2 _ D.TOi2).trans rU
 refine wpAny_pure (wpAny_bind (wpAny_seqItems vU rfl (wpAny_bind (wpAny_updateSeq_pair vU fun t (tU:IsPair t U x y) st=>wpAny_bind (wpAny_letGo (wpAny_pure (wpAny_pure (wpAny_bind (wpAny_seqItems tU rfl (wpAny_bind (wpAny_newTuple ?_ (show 2≤sizeLine by decide))))))))))))
 have tz:=(st.2 _ D.TOz.symm).trans ((sv.2 _ D.i2z.symm).trans rz)
 have sz:t.objs.size=s.heap.objs.size:=st.1.trans (sv.1.trans (sr.1.trans (sp.1.trans (Heap.SameBut.update ..).1)))
 refine wpAny_bind (wpAny_bind (wpAny_setField_rec (Heap.get?_push_of_some _ tz) (show 0<5 by decide) fun m mz sm=>wpAny_setField_rec mz (show 1<5 by decide) fun m2 mz2 sm2=>wpAny_pure ⟨_,rfl,wpAny_pure ?_⟩))
 have on:∀ b o,b≠z→t.get? b=some o→m2.get? b=some o:=fun b o nz q=>(sm2.2 b nz).trans ((sm.2 b nz).trans (Heap.get?_push_of_some _ q))
 have nw:m2.get? t.objs.size=_:=(sm2.2 _ (Nat.ne_of_gt (Heap.lt_size tz))).trans ((sm.2 _ (Nat.ne_of_gt (Heap.lt_size tz))).trans (Heap.get?_push_size _ rfl))
 have sm3:m2.objs.size=t.objs.size+1:=sm2.1.trans (sm.1.trans (by simp [Heap.push]))
 rw [sz] at nw sm3
 have fin:=k m2 (by rw [← sz];exact mz2) (on _ _ D.TOz tU) (Xc ip fun o q=>on _ _ D.i1z ((st.2 _ D.TOi1.symm).trans ((sv.2 _ D.i12).trans ((sr.2 _ D.TOi1.symm).trans q)))) (Xc iv fun o q=>on _ _ D.i2z ((st.2 _ D.TOi2.symm).trans q)) nw sm3
  fun b o n1 n2 n3 n4 q=>on _ _ n1 ((st.2 _ n2).trans ((sv.2 _ n4).trans ((sr.2 _ n2).trans ((sp.2 _ n3).trans (((Heap.SameBut.update ..).2 _ n1).trans q)))))
 rw [← sz] at fin
 exact fin
set_option maxHeartbeats 4000000 in
theorem Zms {z T U g1 g2 c1 c2:Addr}{n1 n2:Nat}{vs us:Array Value}{a b:Value}{Q:Option Value→Shared→Prop}(hh:A.handled=none) (D:ZipApart z T U g1 g2 c1 c2)
  (hz:IsZip s.heap z T U .none) (hT:IsPair s.heap T (.ref g1) (.ref g2)) (hU:IsPair s.heap U a b) (h1:s.heap.IsTupleIter g1 c1 n1) (h2:s.heap.IsTupleIter g2 c2 n2)
  (w1:s.heap.IsTuple c1 vs) (w2:s.heap.IsTuple c2 us) (out:vs[n1]?=none∨us[n2]?=none)
  (k:∀ h':Heap,(∀ b o,b≠z→b≠U→b≠g1→b≠g2→s.heap.get? b=some o→h'.get? b=some o)→Q none {s with heap:=h'}) :
  wpAny (model prog w) A (pyNext (.ref z)) Q E s:=by
 have ty:s.TypeIs (.ref z) "zip":=⟨_,hz,rfl⟩
 have last:∀ (h':Heap) (x:Addr) (s':Shared),s'={s with heap:=h'}→(∃ v0 v1 v2 v3 v4,h'.get? z=some {cls:=.type "zip",dict:=none,data:=.fields #[v0,v1,v2,v3,v4],slots:=#[]})→(∃ o,h'.get? x=some o∧o.cls=.type "StopIteration") →
   (∀ b o,b≠z→b≠U→b≠g1→b≠g2→s.heap.get? b=some o→h'.get? b=some o) →
   wpAny (model prog w) A.in1 (setField (.ref z) 0 .none) (fun _ s''=>wpAny (model prog w) A (do if ← isInstance (.ref x) (.type "StopIteration") then pure none else throw (.ref x)) Q E s'') (fun e s''=>wpAny (model prog w) A (do if ← isInstance e (.type "StopIteration") then pure none else throw e) Q E s'') s':=by
  intro h' x s' es ⟨v0,v1,v2,v3,v4,zz⟩ ⟨o,xo,xc⟩ far
  subst es
  have nx:x≠z:=fun e=>by rw [e,zz] at xo;cases xo;injection xc with q;exact absurd q (by decide)
  exact wpAny_setField_rec zz (show 0<5 by decide) fun m mz sm=>wpAny_bind (wpAny_isInstance ⟨o,(sm.2 _ nx).trans xo,xc⟩ isSubtype_stop (wpAny_pure (k m fun b o n1 n2 n3 n4 q=>(sm.2 _ n1).trans (far b o n1 n2 n3 n4 q))))
 unfold pyNext
 refine wpAny_bind (wpAny_attempt (wpAny_callSpecial?_slot ty F.slot_zip_next (wpAny_call_entry F.slot_zip_next ty F.entry_zip_next ?_ (F.args_zip_next_1 _))))
 have z1:(s.heap.update z (Obj.mapFields fun x=>x.setIfInBounds 0 Value.ellipsis)).get? z=some {cls:=.type "zip",dict:=none,data:=.fields #[.ellipsis,.bool false,.bool false,.ref T,.ref U],slots:=#[]}:=Heap.get?_update_self _ hz rfl
 have sb:Heap.SameBut z s.heap (s.heap.update z (Obj.mapFields fun x=>x.setIfInBounds 0 Value.ellipsis)):=Heap.SameBut.update ..
 cases ev:vs[n1]? with
 | none =>
  wp_walk using wpAny_onRaise,Ziy
  ·exact hh
  ·exact Xc h1 fun o q=>(sb.2 _ D.i1z).trans q
  ·exact w1.extBut sb.extBut D.l1z
  ·exact ev
  intro h' x ext st
  exact last h' x _ rfl ⟨_,_,_,_,_,ext z _ D.i1z.symm z1⟩ st fun b o n1 n2 n3 n4 q=>ext b o n3 ((sb.2 _ n1).trans q)
 | some v =>
  have eu:us[n2]?=none:=out.resolve_left fun q=>nomatch ev.symm.trans q
  wp_walk using wpAny_onRaise,Zgq
  ·exact Xc h1 fun o q=>(sb.2 _ D.i1z).trans q
  ·exact w1.extBut sb.extBut D.l1z
  ·exact ev
  intro p ip sp
  have pU:IsPair p U a b:=(sp.2 _ D.TOi1).trans ((sb.2 _ D.TOz).trans hU)
  refine wpAny_pure (wpAny_bind (wpAny_seqItems pU rfl (wpAny_bind (wpAny_updateSeq_pair pU fun r rU sr=>wpAny_bind (wpAny_letGo (wpAny_pure ?_))))))
  have rz:=(sr.2 _ D.TOz.symm).trans ((sp.2 _ D.i1z.symm).trans z1)
  wp_walk using wpAny_onRaise,Ziy
  ·exact hh
  ·exact Xc h2 fun o q=>(sr.2 _ D.TOi2.symm).trans ((sp.2 _ D.i12.symm).trans ((sb.2 _ D.i2z).trans q))
  ·exact let ⟨o,q,f⟩:=w2;⟨o,(sr.2 _ D.l2TO).trans ((sp.2 _ D.l2i1).trans ((sb.2 _ D.l2z).trans q)),f⟩
  ·exact eu
  intro h' x ext st
  exact last h' x _ rfl ⟨_,_,_,_,_,ext z _ D.i2z.symm rz⟩ st fun b o n1 n2 n3 n4 q=>ext b o n4 ((sr.2 _ n2).trans ((sp.2 _ n3).trans ((sb.2 _ n1).trans q)))
def ZgZ (h h':Heap) (la lb:Addr):Prop :=
 IsZip h' (h.objs.size+4) (h.objs.size+2) (h.objs.size+3) .none∧IsPair h' (h.objs.size+2) (.ref h.objs.size) (.ref (h.objs.size+1))∧IsPair h' (h.objs.size+3) .none .none ∧
 h'.IsTupleIter h.objs.size la 0∧h'.IsTupleIter (h.objs.size+1) lb 0∧h'.objs.size=h.objs.size+5∧∀ b o,h.get? b=some o→h'.get? b=some o
theorem ZlJ {la lb:Addr}{vs us:Array Value}{Q:Value→Shared→Prop}(p1:s.heap.IsTuple la vs) (p2:s.heap.IsTuple lb us)
  (k:∀ h',ZgZ s.heap h' la lb→Q (.ref (s.heap.objs.size+4)) {s with heap:=h'}) :
  wpAny (model prog w) A (call (.type "zip") [.ref la,.ref lb]) Q E s:=by
 refine callType_new (S:=fun A R s=>s.heap.IsTuple la vs∧s.heap.IsTuple lb us∧∀ h',ZgZ s.heap h' la lb→R (.ok (.ret (.ref (s.heap.objs.size+4)))) {s with heap:=h'}) F.called_zip (by decide) (F.typeCall_zip_2 _ _) (F.newCall_zip_2 _ _) (fun obj=>F.args_object_init_3 obj _ _) F.entry_zip_new ?_ ⟨p1,p2,fun h' m=>⟨⟨_,m.1,rfl⟩,k h' m⟩⟩
 intro prog w A R s ⟨p1,p2,k⟩
 unfold Builtin.«zip.__new__»
 wp_walk
 rw [F.called_zip.sub]
 wp_walk using wpAny_pyIter_tuple
 ·exact p1
 wp_walk using wpAny_pyIter_tuple
 ·exact let ⟨o,q,f⟩:=p2;⟨o,Heap.get?_push_of_some _ q,f⟩
 wp_walk
 simp only [Heap.size_push]
 refine k _ ⟨Heap.get?_push_at ?_ rfl,?_,?_,?_,?_,?_,fun b o q=>?_⟩
 ·simp only [Heap.size_push]
 ·exact Heap.get?_push_of_some _ (Heap.get?_push_of_some _ (Heap.get?_push_at (by simp only [Heap.size_push]) rfl))
 ·exact Heap.get?_push_of_some _ (Heap.get?_push_at (by simp only [Heap.size_push]) rfl)
 ·exact ⟨_,Heap.get?_push_of_some _ (Heap.get?_push_of_some _ (Heap.get?_push_of_some _ (Heap.get?_push_of_some _ (Heap.get?_push_size _ rfl)))),rfl,rfl⟩
 ·exact ⟨_,Heap.get?_push_of_some _ (Heap.get?_push_of_some _ (Heap.get?_push_of_some _ (Heap.get?_push_at (by simp only [Heap.size_push]) rfl))),rfl,rfl⟩
 ·simp only [Heap.size_push]
 ·exact Heap.get?_push_of_some _ (Heap.get?_push_of_some _ (Heap.get?_push_of_some _ (Heap.get?_push_of_some _ (Heap.get?_push_of_some _ q))))
end
end LX
namespace LX
open PySem PySem.Spec PyProof.Rows L2
theorem ZiY {h:Heap}{a:Addr}{vs:Array Value}(p:h.IsTuple a vs):a<h.objs.size:=let ⟨_,e,_⟩:=p;Heap.lt_size e
theorem ZgV {X:Cx}{pins:List (Addr×Obj)}{σ:L2.St}{H:Hp}{s:Shared}{a:Addr}{xs ys:List V}(I:Inv X pins σ H s) (h1:SqT X.K H a xs) (h2:SqT X.K H a ys):xs=ys:=by
 obtain ⟨i1,r1,⟨o1,e1,_,n1,d1⟩,_⟩:=I.tuple h1
 obtain ⟨i2,r2,⟨o2,e2,_,n2,d2⟩,_⟩:=I.tuple h2
 rw [e1] at e2;cases e2
 rw [d1] at d2;cases d2
 exact Vals.inj r1 r2
def Zio (K:PySem.W.Frag) (a b:Addr):It :=
 ⟨fun i H=>∃ (xs ys:List V) (x y:V),SqT K H a xs∧SqT K H b ys∧xs[i]?=some x∧ys[i]?=some y,
  fun i H v H'=>∃ T x y,v=.ref T∧H T=none∧H'=upd H T (.tup [x,y])∧(∀ xs,SqT K H a xs→xs[i]?=some x)∧∀ ys,SqT K H b ys→ys[i]?=some y,
  fun i H=>∃ xs ys:List V,SqT K H a xs∧SqT K H b ys∧(xs.length≤i∨ys.length≤i)⟩
theorem ZhJ {P:Program}{w:World}{K:PySem.W.Frag}{elts:List Expr}{kk:Nat}{tpos:Pos}{a b z TI TO i1 i2:Addr}(D:ZipApart z TI TO i1 i2 a b) :
  Turn P w K (.Tuple elts kk tpos) (Zio K a b) [z,TI,TO,i1,i2] z (fun i h=>IsZip h z TI TO .none∧IsPair h TI (.ref i1) (.ref i2)∧(∃ x y,IsPair h TO x y)∧h.IsTupleIter i1 a i∧h.IsTupleIter i2 b i) where
 mem:=by simp
 obj:=fun i h st c hc=>by
  obtain ⟨hz,hTI,⟨x,y,hTO⟩,⟨o1,e1,_,d1⟩,⟨o2,e2,_,d2⟩⟩:=st
  have e':c=z∨c=TI∨c=TO∨c=i1∨c=i2:=by simpa using hc
  rcases e' with q | q | q | q | q
  ·rw [q];exact ⟨_,hz,fun v q=>nomatch q⟩
  ·rw [q];exact ⟨_,hTI,fun v q=>nomatch q⟩
  ·rw [q];exact ⟨_,hTO,fun v q=>nomatch q⟩
  ·rw [q];exact ⟨o1,e1,fun v q=>by rw [d1] at q;cases q⟩
  ·rw [q];exact ⟨o2,e2,fun v q=>by rw [d2] at q;cases q⟩
 keep:=fun i h h' st k=>by
  obtain ⟨hz,hTI,⟨x,y,hTO⟩,h1,h2⟩:=st
  exact ⟨k z (by simp) _ hz,k TI (by simp) _ hTI,⟨x,y,k TO (by simp) _ hTO⟩,Xc h1 fun o q=>k i1 (by simp) o q,Xc h2 fun o q=>k i2 (by simp) o q⟩
 item:=by
  intro X hP hw hK hc i pins s σ H E I hf st hg
  subst hP hw hK
  obtain ⟨hz,hTI,⟨x0,y0,hTO⟩,h1,h2⟩:=st
  obtain ⟨xs,ys,x,y,hqx,hqy,hx,hy⟩:=hg
  obtain ⟨its,rv,p,_⟩:=I.tuple hqx
  obtain ⟨its2,rv2,p2,_⟩:=I.tuple hqy
  obtain ⟨u,hu,ru⟩:=rv.get hx
  obtain ⟨u2,hu2,ru2⟩:=rv2.get hy
  have hzl:z<s.heap.objs.size:=Heap.lt_size hz
  refine Zla D hz hTI hTO h1 h2 p p2 (x:=u) (y:=u2) (by simpa using hu) (by simpa using hu2) fun h' z' TO' h1' h2' hT hsz hk=>?_
  refine ⟨_,rfl,wpAny_letOwnedTupleGo_zip (s:={ s with heap:=h' }) z' fun h'' z'' sb=>?_⟩
  have hT2:h''.get? s.heap.objs.size=some { cls:=.type "tuple",data:=.seq #[u,u2] }:=(sb.2 _ (Nat.ne_of_gt hzl)).trans hT
  have new:Yb X.prog X.w (upd H s.heap.objs.size (.tup [x,y])) h'' s.heap.objs.size (.tup [x,y]) :=
   ⟨by show 2≤sizeLine;decide,[u,u2],.cons ru (.cons ru2 .nil),⟨_,hT2,rfl,_,rfl⟩⟩
  have I1:Inv X pins σ (upd H s.heap.objs.size (.tup [x,y])) { s with heap:=h'' } :=
   I.Zak (t':=s.toks) (ch:=[z,TI,TO,i1,i2]) (fun c o hb q=>(sb.2 c (fun q'=>hb (by simp [q']))).trans (hk c o (fun q'=>hb (by simp [q'])) (fun q'=>hb (by simp [q'])) (fun q'=>hb (by simp [q'])) (fun q'=>hb (by simp [q'])) q)) hf (Nat.le_refl _) new
  refine ⟨.ref s.heap.objs.size,_,I1,rfl,⟨_,x,y,rfl,I.hok.fresh (Nat.le_refl _),rfl,fun l hl=>by rw [ZgV I hl hqx];exact hx,fun l hl=>by rw [ZgV I hl hqy];exact hy⟩,⟨z'',?_,⟨u,u2,?_⟩,?_,?_⟩,fun c hcm=>?_⟩
  ·exact (sb.2 _ D.TIz).trans (hk _ _ D.TIz D.TITO D.TIi1 D.TIi2 hTI)
  ·exact (sb.2 _ D.TOz).trans TO'
  ·exact Xc h1' fun o q=>(sb.2 _ D.i1z).trans q
  ·exact Xc h2' fun o q=>(sb.2 _ D.i2z).trans q
  ·have hlt:c<s.heap.objs.size:=by
    have e':c=z∨c=TI∨c=TO∨c=i1∨c=i2:=by simpa using hcm
    rcases e' with q | q | q | q | q
    ·rw [q];exact hzl
    ·rw [q];exact Heap.lt_size hTI
    ·rw [q];exact Heap.lt_size hTO
    ·rw [q];obtain ⟨_,e1,_⟩:=h1;exact Heap.lt_size e1
    ·rw [q];obtain ⟨_,e2,_⟩:=h2;exact Heap.lt_size e2
   rw [Zn (Nat.ne_of_lt hlt)]
   exact (hf c hcm).1
 done:=by
  intro X hP hw hK hc i pins s σ H E I hf st hg
  subst hP hw hK
  obtain ⟨hz,hTI,⟨x0,y0,hTO⟩,h1,h2⟩:=st
  obtain ⟨xs,ys,hqx,hqy,hend⟩:=hg
  obtain ⟨its,rv,p,_⟩:=I.tuple hqx
  obtain ⟨its2,rv2,p2,_⟩:=I.tuple hqy
  have l1:=rv.length
  have l2:=rv2.length
  have he:its.toArray[i]?=none∨its2.toArray[i]?=none:=by
   rcases hend with q | q
   ·exact .inl (by simp;lia)
   ·exact .inr (by simp;lia)
  exact Zms (I.ok.hd hc) D hz hTI hTO h1 h2 p p2 he fun h' hk=>⟨rfl,I.ZgM (t':=s.toks) (ch:=[z,TI,TO,i1,i2]) (fun c o hb q =>
   hk c o (fun q'=>hb (by simp [q'])) (fun q'=>hb (by simp [q'])) (fun q'=>hb (by simp [q'])) (fun q'=>hb (by simp [q'])) q) hf⟩
 self:=fun A i s Q E st h=>wpAny_pyIter_zip st.1 h
def Znr (K:PySem.W.Frag) (ta:TA):TI:=fun σ H R=>ta σ H fun vs H1=>∃ a b xs ys,vs=[.ref a,.ref b]∧SqT K H1 a xs∧SqT K H1 b ys∧R (Zio K a b) H1
theorem Zhh {X:Cx}{e e2:Expr}{ta:TA}{p pos tpos:Pos}{elts:List Expr}{kk:Nat}(hg:Gl X "zip") (hm:X.mg "zip"=none) (ha:PA X [e,e2] ta)
  (hs:starEach [e,e2] X.env=(false,eval e X.env)::starEach [e2] X.env:=by rfl) (hpl:(backTo pos (starEach [e2] X.env)).any (·.1)=false:=by rfl) :
  PI X (.Tuple elts kk tpos) (.Call (.Name "zip" p) [e,e2] [] pos) (Znr X.K ta):=by
 intro pins s σ H R I h
 refine Call_ (QN I hg hm Zdc (PyProof.Rows.callWith_type1 (thn (ha pos pins s σ H _ I h) fun us s1 ⟨vs,H1,I1,r1,q1⟩=>?_) hs hpl))
 obtain ⟨a,b,xs,ys,ex,hqx,hqy,q⟩:=q1
 subst ex
 cases r1 with
 | cons r rr =>
  cases rr with
  | cons r' rr =>
   cases rr
   cases r
   cases r'
   obtain ⟨its,rv,p1,_⟩:=I1.tuple hqx
   obtain ⟨its2,rv2,p2,_⟩:=I1.tuple hqy
   have la:a<s1.heap.objs.size:=ZiY p1
   have lb:b<s1.heap.objs.size:=ZiY p2
   refine ZlJ p1 p2 fun h' ⟨hz,hTI,hTO,h1,h2,hsz,hk⟩=>wpAny_pyIter_zip hz ?_
   have I2:Inv X pins σ H1 { s1 with heap:=h' }:=I1.kept (t':=s1.toks) hk
   refine ⟨s1.heap.objs.size+4,[s1.heap.objs.size+4,s1.heap.objs.size+2,s1.heap.objs.size+3,s1.heap.objs.size,s1.heap.objs.size+1],_,_,H1,rfl,I2,ZhJ (PySem.W.ktu_apart s1.heap.objs.size a b la lb),⟨hz,hTI,⟨_,_,hTO⟩,h1,h2⟩,fun c hcm=>?_,q⟩
   have e':c=s1.heap.objs.size+4∨c=s1.heap.objs.size+2∨c=s1.heap.objs.size+3∨c=s1.heap.objs.size∨c=s1.heap.objs.size+1:=by simpa using hcm
   have hle:s1.heap.objs.size≤c:=by
    rcases e' with z | z | z | z | z
    ·rw [z];exact Nat.le_add_right _ _
    ·rw [z];exact Nat.le_add_right _ _
    ·rw [z];exact Nat.le_add_right _ _
    ·rw [z];exact Nat.le_refl _
    ·rw [z];exact Nat.le_add_right _ _
   exact I1.ZdQ hle (I1.hok.fresh hle)
end LX
namespace LX
open PySem PySem.Spec PyProof.Rows L2
theorem ZiX {J:It}{n:Nat}{g:TG}{tb:TS}{D:Ends}{σ:L2.St}{H:Hp}(Pv:Nat→L2.St→Hp→Prop) (h0:Pv 0 σ H) (hgo:∀ i σ H,i<n→Pv i σ H→J.go i H) (hst:∀ σ H,Pv n σ H→J.stop n H)
  (hs:∀ i σ H x H',i<n→Pv i σ H→J.yld i H x H'→g x σ H' fun σ2 H2=>tb { D with nx:=Pv (i+1),ct:=Pv (i+1),bk:=D.nx } σ2 H2) (hd:∀ σ H,Pv n σ H→D.nx σ H) :
  ∃ W:Nat→Nat→L2.St→Hp→Prop,(∃ m,W 0 m σ H)∧∀ i m σ H,W i m σ H →
   (J.stop i H∧D.nx σ H)∨(J.go i H∧∃ N:L2.St→Hp→Prop,(∀ σ' H',N σ' H'→∃ m',m'<m∧W (i+1) m' σ' H')∧∀ x H',J.yld i H x H'→g x σ H' fun σ2 H2=>tb { D with nx:=N,ct:=N,bk:=D.nx } σ2 H2):=by
 refine ⟨fun i m σ H=>m=n-i∧i≤n∧Pv i σ H,⟨n,by simp,Nat.zero_le _,h0⟩,?_⟩
 rintro i m σ H ⟨rfl,hi,p⟩
 by_cases hlt:i<n
 ·exact .inr ⟨hgo i σ H hlt p,Pv (i+1),fun σ' H' p'=>⟨n-(i+1),by lia,rfl,hlt,p'⟩,fun x H' y=>hs i σ H x H' hlt p y⟩
 ·obtain rfl:i=n:=by lia
  exact .inl ⟨hst σ H p,hd σ H p⟩
theorem Zlp {J:It}{n:Nat}{g:TG}{tt:TT}{te:TE}{vs:List Nat}{σ:L2.St}{H1:Hp}{D:Addr}{Qd:Hp→Prop}(Pv:Nat→Hp→Prop) (h0:Pv 0 (upd H1 D (.lst []))) (hgo:∀ i H,i<n→Pv i H→J.go i H) (hst:∀ H,Pv n H→J.stop n H)
  (hs:∀ i H x H',i<n→Pv i H→J.yld i H x H'→g x (wipe σ vs) H' fun σ2 H2=>wipe σ2 vs=wipe σ vs∧tt σ2 H2 fun b H3 =>
   if b=true then te σ2 H3 fun y H4=>∃ acc,H4 D=some (.lst acc)∧acc.length<sizeLine∧Pv (i+1) (upd H4 D (.lst (acc++[y]))) else Pv (i+1) H3) (hd:∀ H,Pv n H→Qd H) :
  ∃ W:Nat→Nat→Hp→Prop,(∃ m,W 0 m (upd H1 D (.lst [])))∧∀ i m H,W i m H →
   (J.stop i H∧Qd H)∨(J.go i H∧∃ Nx:Hp→Prop,(∀ H',Nx H'→∃ m',m'<m∧W (i+1) m' H')∧∀ x H',J.yld i H x H'→g x (wipe σ vs) H' fun σ2 H2=>wipe σ2 vs=wipe σ vs∧tt σ2 H2 fun b H3 =>
    if b=true then te σ2 H3 fun y H4=>∃ acc,H4 D=some (.lst acc)∧acc.length<sizeLine∧Nx (upd H4 D (.lst (acc++[y]))) else Nx H3):=by
 refine ⟨fun i m H=>m=n-i∧i≤n∧Pv i H,⟨n,by simp,Nat.zero_le _,h0⟩,?_⟩
 rintro i m H ⟨rfl,hi,p⟩
 by_cases hlt:i<n
 ·exact .inr ⟨hgo i H hlt p,Pv (i+1),fun H' p'=>⟨n-(i+1),by lia,rfl,hlt,p'⟩,fun x H' y=>hs i H x H' hlt p y⟩
 ·obtain rfl:i=n:=by lia
  exact .inl ⟨hst H p,hd H p⟩
theorem YG {σ:L2.St}{H:Hp}{A B:Hp→Prop}(h:A H):ZjF σ H (fun b H3=>if b=true then A H3 else B H3):=by
 show (if true=true then A H else B H)
 rw [if_pos rfl]
 exact h
abbrev g2 (K:PySem.W.Frag) (p q:Nat):TG:=Zne K 2 (Zjp (YF p) (Zjp (YF q) Znj))
theorem ZgQ {K:PySem.W.Frag}{p q:Nat}{H:Hp}{T:Addr}{x y:V}{σ:L2.St}{Q:L2.St→Hp→Prop}(h:Q ((σ.set p (some x)).set q (some y)) (upd H T (.tup [x,y]))):g2 K p q (.ref T) σ (upd H T (.tup [x,y])) Q :=
 ⟨T,[x,y],rfl,SqT.of Ze,rfl,x,[y],rfl,y,[],rfl,rfl,h⟩
theorem Jh {X:Cx}{K:PySem.W.Frag}{i j k:Nat}{x y:Str}{p1 p2 pos:Pos}(hc:X.calm=true) (hN:X.N.Nodup) (hi:X.N[i]?=some x) (hj:X.N[j]?=some y) (lx:Loc X.env.scope x) (ly:Loc X.env.scope y) (fx:X.fn x=true∨X.env.scope.names.lookup x=some .local) (fy:X.fn y=true∨X.env.scope.names.lookup y=some .local) (hk:X.K=K) :
  PG X (.Tuple [.Name x p1,.Name y p2] k pos) (g2 K i j):=by
 subst hk
 exact ZmL (n:=2) hc (Zfh (ZO hN hi lx fx) (Zfh (ZO hN hj ly fy) Zln))
theorem ZgY {K:PySem.W.Frag}{a b:Addr}{xs ys:List V}{n p q:Nat}{tb:TS}{D:Ends}{σ:L2.St}{H:Hp}(Pv:Nat→L2.St→Hp→Prop) (hx:xs.length=n) (hy:ys.length=n) (h0:Pv 0 σ H) (hl:∀ i σ H,i≤n→Pv i σ H→SqL K H a xs∧SqL K H b ys)
  (hs:∀ i σ H T x y,i<n→xs[i]?=some x→ys[i]?=some y→Pv i σ H→H T=none→tb { D with nx:=Pv (i+1),ct:=Pv (i+1),bk:=D.nx } ((σ.set p (some x)).set q (some y)) (upd H T (.tup [x,y]))) (hd:∀ σ H,Pv n σ H→D.nx σ H) :
  ∃ W:Nat→Nat→L2.St→Hp→Prop,(∃ m,W 0 m σ H)∧∀ i m σ H,W i m σ H →
   ((Itz K a b).stop i H∧D.nx σ H)∨((Itz K a b).go i H∧∃ N:L2.St→Hp→Prop,(∀ σ' H',N σ' H'→∃ m',m'<m∧W (i+1) m' σ' H')∧∀ x H',(Itz K a b).yld i H x H'→g2 K p q x σ H' fun σ2 H2=>tb { D with nx:=N,ct:=N,bk:=D.nx } σ2 H2):=by
 refine ZiX (n:=n) Pv h0 (fun i σ H hi p=>?_) (fun σ H p=>?_) (fun i σ H v H' hi pv y=>?_) hd
 ·obtain ⟨q1,q2⟩:=hl i σ H (Nat.le_of_lt hi) p
  exact ⟨xs,ys,_,_,q1,q2,List.getElem?_eq_getElem (by lia),List.getElem?_eq_getElem (by lia)⟩
 ·obtain ⟨q1,q2⟩:=hl n σ H (Nat.le_refl _) p
  exact ⟨xs,ys,q1,q2,.inl (by lia)⟩
 ·obtain ⟨T,x,z,rfl,hT,rfl,e1,e2⟩:=y
  obtain ⟨q1,q2⟩:=hl i σ H (Nat.le_of_lt hi) pv
  exact ZgQ (hs i σ H T x z hi (e1 _ q1) (e2 _ q2) pv hT)
theorem Zjk {K:PySem.W.Frag}{a b:Addr}{xs ys:List V}{n p q:Nat}{te:TE}{vs:List Nat}{σ:L2.St}{H1:Hp}{D:Addr}{Qd:Hp→Prop}(Pv:Nat→Hp→Prop) (hx:xs.length=n) (hy:ys.length=n) (h0:Pv 0 (upd H1 D (.lst []))) (hl:∀ i H,i≤n→Pv i H→SqL K H a xs∧SqL K H b ys)
  (hs:∀ i H T x y,i<n→xs[i]?=some x→ys[i]?=some y→Pv i H→H T=none→wipe (((wipe σ vs).set p (some x)).set q (some y)) vs=wipe σ vs∧te (((wipe σ vs).set p (some x)).set q (some y)) (upd H T (.tup [x,y])) fun y H4=>∃ acc,H4 D=some (.lst acc)∧acc.length<sizeLine∧Pv (i+1) (upd H4 D (.lst (acc++[y])))) (hd:∀ H,Pv n H→Qd H) :
  ∃ W:Nat→Nat→Hp→Prop,(∃ m,W 0 m (upd H1 D (.lst [])))∧∀ i m H,W i m H →
   ((Itz K a b).stop i H∧Qd H)∨((Itz K a b).go i H∧∃ Nx:Hp→Prop,(∀ H',Nx H'→∃ m',m'<m∧W (i+1) m' H')∧∀ x H',(Itz K a b).yld i H x H'→g2 K p q x (wipe σ vs) H' fun σ2 H2=>wipe σ2 vs=wipe σ vs∧ZjF σ2 H2 fun b H3 =>
    if b=true then te σ2 H3 fun y H4=>∃ acc,H4 D=some (.lst acc)∧acc.length<sizeLine∧Nx (upd H4 D (.lst (acc++[y]))) else Nx H3):=by
 refine Zlp (n:=n) Pv h0 (fun i H hi p=>?_) (fun H p=>?_) (fun i H v H' hi pv y=>?_) hd
 ·obtain ⟨q1,q2⟩:=hl i H (Nat.le_of_lt hi) p
  exact ⟨xs,ys,_,_,q1,q2,List.getElem?_eq_getElem (by lia),List.getElem?_eq_getElem (by lia)⟩
 ·obtain ⟨q1,q2⟩:=hl n H (Nat.le_refl _) p
  exact ⟨xs,ys,q1,q2,.inl (by lia)⟩
 ·obtain ⟨T,x,z,rfl,hT,rfl,e1,e2⟩:=y
  obtain ⟨q1,q2⟩:=hl i H (Nat.le_of_lt hi) pv
  obtain ⟨k1,k2⟩:=hs i H T x z hi (e1 _ q1) (e2 _ q2) pv hT
  exact ZgQ ⟨k1,YG k2⟩
theorem ZgK {K:PySem.W.Frag}{a b:Addr}{xs ys:List V}{n p q:Nat}{te:TE}{vs:List Nat}{σ:L2.St}{H1:Hp}{D:Addr}{Qd:Hp→Prop}(Pv:Nat→Hp→Prop) (hx:xs.length=n) (hy:ys.length=n) (h0:Pv 0 (upd H1 D (.lst []))) (hl:∀ i H,i≤n→Pv i H→SqT K H a xs∧SqT K H b ys)
  (hs:∀ i H T x y,i<n→xs[i]?=some x→ys[i]?=some y→Pv i H→H T=none→wipe (((wipe σ vs).set p (some x)).set q (some y)) vs=wipe σ vs∧te (((wipe σ vs).set p (some x)).set q (some y)) (upd H T (.tup [x,y])) fun y H4=>∃ acc,H4 D=some (.lst acc)∧acc.length<sizeLine∧Pv (i+1) (upd H4 D (.lst (acc++[y])))) (hd:∀ H,Pv n H→Qd H) :
  ∃ W:Nat→Nat→Hp→Prop,(∃ m,W 0 m (upd H1 D (.lst [])))∧∀ i m H,W i m H →
   ((Zio K a b).stop i H∧Qd H)∨((Zio K a b).go i H∧∃ Nx:Hp→Prop,(∀ H',Nx H'→∃ m',m'<m∧W (i+1) m' H')∧∀ x H',(Zio K a b).yld i H x H'→g2 K p q x (wipe σ vs) H' fun σ2 H2=>wipe σ2 vs=wipe σ vs∧ZjF σ2 H2 fun b H3 =>
    if b=true then te σ2 H3 fun y H4=>∃ acc,H4 D=some (.lst acc)∧acc.length<sizeLine∧Nx (upd H4 D (.lst (acc++[y]))) else Nx H3):=by
 refine Zlp (n:=n) Pv h0 (fun i H hi p=>?_) (fun H p=>?_) (fun i H v H' hi pv y=>?_) hd
 ·obtain ⟨q1,q2⟩:=hl i H (Nat.le_of_lt hi) p
  exact ⟨xs,ys,_,_,q1,q2,List.getElem?_eq_getElem (by lia),List.getElem?_eq_getElem (by lia)⟩
 ·obtain ⟨q1,q2⟩:=hl n H (Nat.le_refl _) p
  exact ⟨xs,ys,q1,q2,.inl (by lia)⟩
 ·obtain ⟨T,x,z,rfl,hT,rfl,e1,e2⟩:=y
  obtain ⟨q1,q2⟩:=hl i H (Nat.le_of_lt hi) pv
  obtain ⟨k1,k2⟩:=hs i H T x z hi (e1 _ q1) (e2 _ q2) pv hT
  exact ZgQ ⟨k1,YG k2⟩
theorem ZiD {K:PySem.W.Frag}{a:Addr}{xs:List V}{p q:Nat}{tb:TS}{D:Ends}{σ:L2.St}{H:Hp}(Pv:Nat→L2.St→Hp→Prop) (h0:Pv 0 σ H) (hl:∀ i σ H,i≤xs.length→Pv i σ H→SqL K H a xs)
  (hs:∀ i σ H T x,i<xs.length→xs[i]?=some x→Pv i σ H→H T=none→tb { D with nx:=Pv (i+1),ct:=Pv (i+1),bk:=D.nx } ((σ.set p (some (.int (i:Nat)))).set q (some x)) (upd H T (.tup [.int (i:Nat),x]))) (hd:∀ σ H,Pv xs.length σ H→D.nx σ H) :
  ∃ W:Nat→Nat→L2.St→Hp→Prop,(∃ m,W 0 m σ H)∧∀ i m σ H,W i m σ H →
   ((Ite K a).stop i H∧D.nx σ H)∨((Ite K a).go i H∧∃ N:L2.St→Hp→Prop,(∀ σ' H',N σ' H'→∃ m',m'<m∧W (i+1) m' σ' H')∧∀ x H',(Ite K a).yld i H x H'→g2 K p q x σ H' fun σ2 H2=>tb { D with nx:=N,ct:=N,bk:=D.nx } σ2 H2):=by
 refine ZiX (n:=xs.length) Pv h0 (fun i σ H hi p=>?_) (fun σ H p=>?_) (fun i σ H v H' hi pv y=>?_) hd
 ·exact ⟨xs,_,hl i σ H (Nat.le_of_lt hi) p,List.getElem?_eq_getElem hi⟩
 ·exact ⟨xs,hl _ σ H (Nat.le_refl _) p,Nat.le_refl _⟩
 ·obtain ⟨T,x,rfl,hT,rfl,e1⟩:=y
  exact ZgQ (hs i σ H T x hi (e1 _ (hl i σ H (Nat.le_of_lt hi) pv)) pv hT)
end LX
namespace LX
open PySem PySem.Spec PyProof.Rows L2 AutoSeq1
set_option maxRecDepth 100000 in
theorem Zgw {l b:Addr}{xs ys:Array Value}{n m:Nat}{dd:Option Addr}{sl:Array (Option Value)}(fit:xs.size+ys.size≤sizeLine):Meets (Builtin.«list.extend» ⟨[.ref l,.ref b],[]⟩)
  fun _ R s=>s.heap.get? l=some ⟨.type "list",none,.seq xs n,#[]⟩∧s.heap.get? b=some ⟨.type "tuple",dd,.seq ys m,sl⟩∧R (.ok (.ret .none)) {s with heap:=s.heap.update l (Obj.mapSeq (·++ys))}:=by
 intro prog w A R s ⟨hl,hb,q⟩
 have short:¬ (!xs.isEmpty&&Builtin.List.listTooLong (xs.size+ys.size))=true:=by simp [JR fit]
 have i1:=idx_int
 have i2:=AutoSeq1.sub_tuple_tuple
 have i3:=AutoSeq1.sub_tuple_list
 wp_walk using wpAny_updateSeq hl rfl (hz:=by lia) (_hz':=by rw [Array.size_append];lia),wpAny_loadPart' hl,wpAny_loadPart' hb
 exact q
def ZmX (K:PySem.W.Frag):V→List V→Hp→VK→Prop:=fun x vs H Q=>∃ l b xs zs,x=.ref l∧vs=[.ref b]∧H l=some (.lst xs)∧SqT K H b zs∧xs.length+zs.length≤sizeLine∧Q .non (upd H l (.lst (xs++zs)))
theorem ZkL {X:Cx}{K:PySem.W.Frag}(hK:X.K=K:=by rfl):MtM X "list.extend" (ZmX K):=by
 subst hK
 intro pins s σ H x vs v us Q I rx rv h
 obtain ⟨l,b,xs,zs,rfl,rfl,hH,ht,hz,q⟩:=h
 cases rx
 obtain ⟨u,rfl,ru⟩:=rv.one
 cases ru
 obtain ⟨z,its,n,r,hl,e⟩:=I.Zfe hH
 obtain ⟨is2,r2,⟨o,e2,hc,m,hd⟩,_⟩:=I.tuple ht
 obtain ⟨oc,od,oda,osl⟩:=o
 simp only at hc hd
 subst hc hd
 have hl2:=r2.length
 have hsz:its.toArray.size+is2.toArray.size≤sizeLine:=by rw [List.size_toArray,List.size_toArray];lia
 refine call_meets PySem.F.slot_list_extend ⟨_,e,rfl⟩ PySem.F.entry_list_extend (PySem.F.args_list_extend_2 _ _)
  (Zgw hsz) ⟨e,e2,?_⟩
 refine ⟨.non,_,I.ZkJ (its':=its++is2) hH e (by simp) (r.append r2) ?_,rfl,q⟩
 rw [List.length_append]
 lia
theorem Zq.seqT {K:PySem.W.Frag}{H H':Hp}{a:Addr}{xs:List V}(e:Zq H H') (h:SqT K H a xs):SqT K H' a xs:=by
 rcases h with h | h
 ·rcases h with h | ⟨o,h⟩
  ·exact .inl (.inl (e _ _ h))
  ·exact .inl (.inr ⟨o,e _ _ h⟩)
 ·exact .inr h
end LX
namespace SbM
set_option exponentiation.threshold 2000
open Sb20
def Yl (n d:Nat):Nat:=if d<2*(n % d)∨(2*(n % d)=d∧(n / d) % 2=1) then n / d+1 else n / d
theorem Qz (n d:Nat):near (n:Int) d=(Yl n d:Int):=by
 have h1:(n:Int) / (d:Int)=((n / d:Nat):Int):=by simp
 have h2:(n:Int) % (d:Int)=((n % d:Nat):Int):=by simp
 unfold near Yl
 simp only [h1,h2]
 generalize n / d=q
 generalize n % d=r
 split <;> split <;> (try split) <;> (try split) <;> lia
theorem Qr (n d:Nat) (hd:0<d):near (-(n:Int)) d = -(Yl n d:Int):=by
 have e:=Nat.div_add_mod n d
 have hlt:=Nat.mod_lt n hd
 unfold Yl
 generalize hk:n / d=k at e ⊢
 generalize hr:n % d=r at e hlt ⊢
 have e':(d:Int)*(k:Int)+(r:Int)=(n:Int):=by exact_mod_cast e
 by_cases h0:r=0
 ·subst h0
  have:=(Int.ediv_emod_unique (a:=-(n:Int)) (b:=(d:Int)) (r:=0) (q:=-(k:Int)) (by lia)).mpr
   ⟨by rw [Int.mul_neg];lia,by lia,by lia⟩
  unfold near
  simp only [this.1,this.2]
  split <;> split <;> lia
 ·have:=(Int.ediv_emod_unique (a:=-(n:Int)) (b:=(d:Int)) (r:=(d:Int)-r) (q:=-(k:Int)-1) (by lia)).mpr
   ⟨by rw [Int.mul_sub,Int.mul_neg];lia,by lia,by lia⟩
  unfold near
  simp only [this.1,this.2]
  repeat' split
  all_goals lia
def nb (t:Nat):Nat:=if t=0 then 0 else t.log2+1
theorem QM (t:Nat):(if t<2^24 then 1 else 2^(Nat.log2 t-23):Nat)=2^(nb t-24):=by
 unfold nb
 by_cases h0:t=0
 ·subst h0;decide
 ·rw [if_neg h0]
  by_cases h:t<2^24
  ·have h1:t.log2<24:=(Nat.log2_lt h0).mpr h
   rw [if_pos h,show t.log2+1-24=0 by lia]
  ·have h1:¬ t.log2<24:=fun q=>h ((Nat.log2_lt h0).mp q)
   rw [if_neg h,show t.log2+1-24=t.log2-23 by lia]
def XY (top:Int) (bottom:Nat):Int :=
 let sp:=nb (top.natAbs / bottom)-24
 let v:Int:=((Yl top.natAbs (bottom*2^sp)*2^sp:Nat):Int)
 if 0≤top then v else -v
theorem Xe (top:Int) (bottom:Nat) (hb:0<bottom):rounded top bottom=XY top bottom:=by
 unfold rounded XY
 simp only [QM]
 generalize nb (top.natAbs / bottom)-24=sp
 have hd:0<bottom*2^sp:=Nat.mul_pos hb (Nat.two_pow_pos sp)
 by_cases h:0≤top
 ·obtain ⟨n,rfl⟩:=Int.eq_ofNat_of_zero_le h
  rw [if_pos h,Qz];simp
 ·obtain ⟨n,rfl⟩:∃ n:Nat,top = -(n:Int):=⟨top.natAbs,by lia⟩
  rw [if_neg h,Qr _ _ hd,Int.natAbs_neg,Int.natAbs_natCast,Int.neg_mul];simp
theorem Qq (n d:Nat):Yl n d≤n / d+1:=by unfold Yl;split <;> lia
theorem ZjG (n d:Nat):n / d≤Yl n d:=by unfold Yl;split <;> lia
def Bd (k:Nat) (x:Int):Prop:=x.natAbs<2^k
theorem Bd.mono {k m:Nat}{x:Int}(h:Bd k x) (hm:k≤m):Bd m x:=Nat.lt_of_lt_of_le h (Nat.pow_le_pow_right (by decide) hm)
theorem Bd.neg {k:Nat}{x:Int}(h:Bd k x):Bd k (-x):=by unfold Bd;rw [Int.natAbs_neg];exact h
theorem Bd.add {k:Nat}{x y:Int}(h1:Bd k x) (h2:Bd k y):Bd (k+1) (x+y):=by
 unfold Bd at *
 have:=Int.natAbs_add_le x y
 rw [Nat.pow_succ];lia
theorem Bd.sub {k:Nat}{x y:Int}(h1:Bd k x) (h2:Bd k y):Bd (k+1) (x-y):=by
 rw [Int.sub_eq_add_neg];exact h1.add h2.neg
theorem Bd.mul {k m:Nat}{x y:Int}(h1:Bd k x) (h2:Bd m y):Bd (k+m) (x*y):=by
 unfold Bd at *
 rw [Int.natAbs_mul,Nat.pow_add]
 exact Nat.mul_lt_mul'' h1 h2
theorem ZeI (n b s:Nat) (k:Nat) (h:n<2^k*b) (he:s=1∨s≤n / b):Yl n (b*s)*s≤2^(k+1):=by
 have h1:=Qq n (b*s)
 have h2:n / (b*s)*s≤n / b:=by rw [← Nat.div_div_eq_div_mul];exact Nat.div_mul_le_self _ _
 have h3:n / b<2^k:=Nat.div_lt_of_lt_mul (by rw [Nat.mul_comm];exact h)
 have h4:Yl n (b*s)*s≤(n / (b*s)+1)*s:=Nat.mul_le_mul_right _ h1
 rw [Nat.add_mul,Nat.one_mul] at h4
 have h5:2^(k+1)=2^k+2^k:=by rw [Nat.pow_succ];lia
 rcases he with rfl | he
 ·have:=Nat.two_pow_pos k;lia
 ·lia
theorem Zfn (t:Nat):(2^(nb t-24):Nat)=1∨2^(nb t-24)≤t:=by
 unfold nb
 by_cases h0:t=0
 ·left;rw [if_pos h0]
 ·rw [if_neg h0]
  by_cases h:t.log2<24
  ·left;rw [show t.log2+1-24=0 by lia]
  ·right
   exact Nat.le_trans (Nat.pow_le_pow_right (by decide) (show t.log2+1-24≤t.log2 by lia)) ((Nat.le_log2 h0).mp (Nat.le_refl _))
theorem Bd.rounded {k:Nat}{top:Int}{b:Nat}(hb:0<b) (h:top.natAbs<2^k*b):Bd (k+2) (rounded top b):=by
 rw [Xe _ _ hb]
 have h1:=ZeI top.natAbs b _ k h (Zfn _)
 have h2:(2:Nat)^(k+2)=2*2^(k+1):=by rw [Nat.pow_succ];lia
 have h3:=Nat.two_pow_pos (k+1)
 unfold Bd XY
 simp only []
 split <;> lia
theorem Bd.ZcB {k:Nat}{x y:Int}(h1:Bd k x) (h2:Bd k y):Bd (k+3) (Sb20.add x y):=by
 unfold Sb20.add
 exact Bd.rounded (k:=k+1) (by decide) (by rw [Nat.mul_one];exact h1.add h2)
theorem Bd.Zny {k:Nat}{x y:Int}(h1:Bd k x) (h2:Bd k y):Bd (k+3) (Sb20.sub x y):=by
 unfold Sb20.sub
 exact Bd.rounded (k:=k+1) (by decide) (by rw [Nat.mul_one];exact h1.sub h2)
theorem Bd.smul {k m:Nat}{x y:Int}(h1:Bd k x) (h2:Bd m y):Bd (k+m-149+2) (Sb20.mul x y):=by
 unfold Sb20.mul
 refine Bd.rounded (by decide) (Nat.lt_of_lt_of_le (h1.mul h2) ?_)
 rw [show UNIT=2^149 from rfl,← Nat.pow_add]
 exact Nat.pow_le_pow_right (by decide) (by lia)
theorem Bd.sdiv {k:Nat}{x y:Int}(h1:Bd k x) (h0:y≠0):Bd (k+152) (Sb20.div x y):=by
 have hy:0<y.natAbs:=by lia
 have hx:(x*ONE).natAbs<2^(k+150)*y.natAbs:=by
  have:Bd (k+150) (x*ONE):=h1.mul (show Bd 150 ONE by unfold Bd;decide)
  exact Nat.lt_of_lt_of_le this (Nat.le_mul_of_pos_right _ hy)
 unfold Sb20.div
 split
 ·exact Bd.rounded hy (by rw [Int.natAbs_neg];exact hx)
 ·exact Bd.rounded hy hx
end SbM
namespace SbM
set_option exponentiation.threshold 2000
open Sb20 Sb20Neutral
def Zbj (n s:Nat):Prop:=s*s≤n∧n<(s+1)*(s+1)
theorem Zjz {a b:Nat}(h:a*a<b*b):a<b:=by
 rcases Nat.lt_or_ge a b with q | q
 ·exact q
 ·exact absurd (Nat.mul_le_mul q q) (by lia)
theorem Jo (n:Nat):∀ (j x:Nat),x*x≤n→n<(x+2^j)*(x+2^j) →
  Zbj n ((List.range j).foldr (fun (k x:Nat)=>let y:=x+2^k
   if y*y≤n then y else x) x)
 | 0,x,h1,h2=>⟨by simpa using h1,by simpa using h2⟩
 | j+1,x,h1,h2=>by
  rw [List.range_succ,List.foldr_append]
  show Zbj n ((List.range j).foldr _ (if (x+2^j)*(x+2^j)≤n then x+2^j else x))
  have e:2^(j+1)=2^j+2^j:=by rw [Nat.pow_succ];lia
  by_cases h:(x+2^j)*(x+2^j)≤n
  ·rw [if_pos h]
   exact Jo n j _ h (by rw [Nat.add_assoc,← e];exact h2)
  ·rw [if_neg h]
   exact Jo n j _ h1 (by lia)
theorem XX (n:Nat):Zbj n (isqrt n):=by
 unfold isqrt
 refine Jo n _ 0 (by lia) ?_
 by_cases h0:n=0
 ·subst h0;decide
 ·have h1:n<2^(n.log2+1):=Nat.lt_log2_self
  rw [Nat.zero_add,← Nat.pow_add]
  exact Nat.lt_of_lt_of_le h1 (Nat.pow_le_pow_right (by decide) (by lia))
theorem Zic {n s g:Nat}(hg:0<g) (hs:s*s≤n):s≤(g+n / g) / 2:=by
 rw [Nat.le_div_iff_mul_le (by decide)]
 have key:2*s-g≤n / g:=by
  rw [Nat.le_div_iff_mul_le hg]
  refine Nat.le_trans ?_ hs
  rcases Nat.le_total (2*s) g with q | q
  ·rw [show 2*s-g=0 by lia];lia
  ·obtain ⟨d,hd⟩:∃ d,2*s=g+d:=⟨2*s-g,by lia⟩
   rw [show 2*s-g=d by lia]
   rcases Nat.le_total s g with r | r
   ·obtain ⟨e,rfl⟩:∃ e,g=s+e:=⟨g-s,by lia⟩
    obtain ⟨f,rfl⟩:∃ f,s=d+f:=⟨s-d,by lia⟩
    have:e=f:=by lia
    subst this
    simp only [Nat.mul_add,Nat.add_mul,Nat.mul_comm e d];lia
   ·obtain ⟨e,rfl⟩:∃ e,s=g+e:=⟨s-g,by lia⟩
    have:d=g+e+e:=by lia
    subst this
    simp only [Nat.mul_add,Nat.add_mul,Nat.mul_comm e g];lia
 lia
theorem ZfV {n s g:Nat}(hg:0<g) (h:Zbj n s) (hge:s≤g) (hstop:g≤(g+n / g) / 2):g=s:=by
 rw [Nat.le_div_iff_mul_le (by decide)] at hstop
 have h1:g≤n / g:=by lia
 rw [Nat.le_div_iff_mul_le hg] at h1
 have:g<s+1:=Zjz (Nat.lt_of_le_of_lt h1 h.2)
 lia
theorem ZdO {n s:Nat}(h:s*s≤n):s≤2^((nb n+1) / 2):=by
 have h1:n<2^nb n:=by
  unfold nb
  split
  ·subst_vars;decide
  ·exact Nat.lt_log2_self
 have:s<2^((nb n+1) / 2):=by
  refine Zjz (Nat.lt_of_le_of_lt h (Nat.lt_of_lt_of_le h1 ?_))
  rw [← Nat.pow_add]
  exact Nat.pow_le_pow_right (by decide) (by lia)
 lia
theorem ZjD {n s:Nat}(h:Zbj n s) (hn:0<n):0<s:=by
 rcases Nat.eq_zero_or_pos s with rfl | q
 ·have:=h.2;lia
 ·exact q
theorem ZkT (n:Int):root n=(((isqrt ((ONE*ONE*ONE) / n).toNat / 2^(nb (isqrt ((ONE*ONE*ONE) / n).toNat)-24)*2^(nb (isqrt ((ONE*ONE*ONE) / n).toNat)-24):Nat)):Int):=by
 unfold root
 simp only [QM]
theorem JH {k e:Nat}(h:k≠0):(k*2^e).log2=k.log2+e:=by
 have hp:=Nat.two_pow_pos e
 have h1:=(Nat.le_log2 h).mp (Nat.le_refl _)
 have h2:=Nat.lt_log2_self (n:=k)
 have hne:k*2^e≠0:=by
  intro q
  rcases Nat.mul_eq_zero.mp q with q | q <;> lia
 refine (Nat.log2_eq_iff hne).mpr ⟨?_,?_⟩
 ·rw [Nat.pow_add];exact Nat.mul_le_mul_right _ h1
 ·rw [show k.log2+e+1=k.log2+1+e by lia,Nat.pow_add];exact Nat.mul_lt_mul_of_pos_right h2 hp
theorem JC {k e:Nat}(h:k≤2^24):isSingle ((k*2^e:Nat):Int)=true:=by
 unfold isSingle
 rw [Bool.or_eq_true]
 by_cases h0:k=0
 ·subst h0;left;simp
 ·right
  rw [Int.natAbs_natCast,JH h0,beq_iff_eq]
  refine Nat.mod_eq_zero_of_dvd ?_
  by_cases h1:k=2^24
  ·subst h1
   rw [show (2^24:Nat).log2=24 by decide,← Nat.pow_add]
   exact Nat.pow_dvd_pow 2 (by lia)
  ·have:k.log2<24:=(Nat.log2_lt h0).mpr (by lia)
   exact Nat.dvd_trans (Nat.pow_dvd_pow 2 (by lia)) (Nat.dvd_mul_left _ _)
theorem Zey {t:Nat}(h:2^23≤t):2^23≤t / 2^(nb t-24)∧t / 2^(nb t-24)<2^24:=by
 have h0:t≠0:=by have:=Nat.two_pow_pos 23;lia
 have hl:23≤t.log2:=(Nat.le_log2 h0).mpr h
 unfold nb
 rw [if_neg h0]
 constructor
 ·rw [Nat.le_div_iff_mul_le (Nat.two_pow_pos _),← Nat.pow_add]
  exact Nat.le_trans (Nat.pow_le_pow_right (by decide) (by lia)) ((Nat.le_log2 h0).mp (Nat.le_refl _))
 ·rw [Nat.div_lt_iff_lt_mul (Nat.two_pow_pos _),← Nat.pow_add]
  exact Nat.lt_of_lt_of_le Nat.lt_log2_self (Nat.pow_le_pow_right (by decide) (by lia))
end SbM
namespace SbM
set_option exponentiation.threshold 2000
open Sb20 Sb20Neutral
theorem ZhQ (n d:Nat) (hd:0<d):2*(Yl n d*d)≤2*n+d∧2*n≤2*(Yl n d*d)+d:=by
 have e:=Nat.div_add_mod n d
 have hlt:=Nat.mod_lt n hd
 unfold Yl
 rw [Nat.mul_comm d] at e
 split
 ·rw [Nat.add_mul,Nat.one_mul];lia
 ·lia
theorem Zke {w:Int}(h0:0<w):recip w=((Yl (2^298) (w.toNat * 2^(nb (2^298 / w.toNat)-24))*2^(nb (2^298 / w.toNat)-24):Nat):Int):=by
 unfold recip div
 rw [if_neg (by lia),Xe _ _ (by lia)]
 unfold XY
 have e1:(ONE*ONE).natAbs=2^298:=by decide
 have e2:w.natAbs=w.toNat:=by lia
 have e3:0≤ONE*ONE:=by decide
 simp only [e1,e2]
 rw [if_pos e3]
theorem ZjN {w:Int}(h0:0<w) (h1:Bd 270 w):isSingle (recip w)=true∧2048*(recip w*w-ONE*ONE).natAbs≤UNIT*UNIT:=by
 rw [Zke h0]
 obtain ⟨b,rfl⟩:=Int.eq_ofNat_of_zero_le (Int.le_of_lt h0)
 have hb:0<b:=by lia
 have hb2:b<2^270:=by unfold Bd at h1;simpa using h1
 rw [Int.toNat_natCast]
 have ht:2^23≤2^298 / b:=by
  rw [Nat.le_div_iff_mul_le hb]
  calc 2^23*b≤2^23*2^270:=Nat.mul_le_mul_left _ (Nat.le_of_lt hb2)
   _≤2^298:=by rw [← Nat.pow_add];exact Nat.pow_le_pow_right (by decide) (by decide)
 have hbits:=Zey ht
 generalize he:nb (2^298 / b)-24=e at hbits ⊢
 have hs:=Nat.two_pow_pos e
 have hd:0<b*2^e:=Nat.mul_pos hb hs
 have hk:Yl (2^298) (b*2^e)≤2^24:=by
  have:=Qq (2^298) (b*2^e)
  rw [← Nat.div_div_eq_div_mul] at this
  lia
 refine ⟨JC hk,?_⟩
 have herr:=ZhQ (2^298) (b*2^e) hd
 have hsmall:b*2^e*2^23≤2^298:=by
  have h5:2^23*2^e≤2^298 / b:=by
   refine Nat.le_trans (Nat.mul_le_mul_right _ hbits.1) ?_
   exact Nat.div_mul_le_self _ _
  have h6:=Nat.mul_le_mul_left b h5
  have h7:=Nat.mul_div_le (2^298) b
  calc b*2^e*2^23=b*(2^23*2^e):=by rw [Nat.mul_assoc,Nat.mul_comm (2^e)]
   _≤b*(2^298 / b):=h6
   _≤2^298:=h7
 generalize Yl (2^298) (b*2^e)=k at hk herr ⊢
 have e1:(ONE*ONE:Int)=((2^298:Nat):Int):=by decide
 have e2:((k*2^e:Nat):Int)*(b:Int)=((k*(b*2^e):Nat):Int):=by
  rw [← Int.natCast_mul];congr 1;rw [Nat.mul_assoc,Nat.mul_comm (2^e) b]
 rw [e1,e2]
 have e3:UNIT*UNIT=2^298:=by decide
 rw [e3]
 generalize k*(b*2^e)=p at herr ⊢
 generalize b*2^e=d at herr hsmall
 generalize hN:(2^298:Nat)=N at herr hsmall ⊢
 lia
theorem Zcb (n:Nat) (hn:0<n):root (n:Int)=((isqrt (2^447 / n) / 2^(nb (isqrt (2^447 / n))-24)*2^(nb (isqrt (2^447 / n))-24):Nat):Int):=by
 have e:((ONE*ONE*ONE) / (n:Int)).toNat=2^447 / n:=by
  have e1:(ONE*ONE*ONE:Int)=((2^447:Nat):Int):=by decide
  rw [e1,← Int.natCast_ediv,Int.toNat_natCast]
 rw [ZkT,e]
theorem Znq (q s:Nat):(q+s)*(q+s)=q*q+(2*(q*s)+s*s):=by
 simp only [Nat.mul_add,Nat.add_mul,Nat.mul_comm s q];lia
theorem Zll {n:Int}(h0:0<n) (h1:Bd 300 n) :
  isSingle (root n)=true∧0<root n∧1024*(root n*root n*n-ONE*ONE*ONE).natAbs≤UNIT*UNIT*UNIT:=by
 obtain ⟨b,rfl⟩:=Int.eq_ofNat_of_zero_le (Int.le_of_lt h0)
 have hb:0<b:=by lia
 have hb2:b<2^300:=by unfold Bd at h1;simpa using h1
 rw [Zcb b hb]
 have hM:2^147≤2^447 / b:=by
  rw [Nat.le_div_iff_mul_le hb]
  calc 2^147*b≤2^147*2^300:=Nat.mul_le_mul_left _ (Nat.le_of_lt hb2)
   _=2^447:=by rw [← Nat.pow_add]
 have hr:=XX (2^447 / b)
 have hMb:=Nat.mul_div_le (2^447) b
 have hMb2:=Nat.lt_mul_div_succ (2^447) hb
 generalize isqrt (2^447 / b)=m at hr ⊢
 generalize 2^447 / b=M at hr hM hMb hMb2
 have hm:2^23≤m:=by
  have:2^23<m+1:=by
   refine Zjz (Nat.lt_of_le_of_lt ?_ hr.2)
   exact Nat.le_trans (by decide) hM
  lia
 have hbits:=Zey hm
 generalize nb m-24=e at hbits ⊢
 have hs:=Nat.two_pow_pos e
 generalize hk:m / 2^e=k at hbits ⊢
 have hq1:k*2^e≤m:=by rw [← hk];exact Nat.div_mul_le_self _ _
 have hq2:m<k*2^e+2^e:=by
  have:=Nat.lt_mul_div_succ m hs
  rw [hk,Nat.mul_add,Nat.mul_one,Nat.mul_comm] at this;exact this
 have hqs:2^23*2^e≤k*2^e:=Nat.mul_le_mul_right _ hbits.1
 refine ⟨JC (by lia),?_,?_⟩
 ·have:0<k*2^e:=Nat.mul_pos (by lia) hs
  exact_mod_cast this
 ·generalize k*2^e=q at hq1 hq2 hqs ⊢
  generalize 2^e=s at hs hq2 hqs
  have up:q*q*b≤2^447:=by
   have a1:q*q≤M:=Nat.le_trans (Nat.mul_le_mul hq1 hq1) hr.1
   have a2:=Nat.mul_le_mul_left b a1
   rw [Nat.mul_comm];lia
  have lo:2^447≤(q+s)*(q+s)*b:=by
   have a1:M+1≤(q+s)*(q+s):=Nat.le_trans hr.2 (Nat.mul_le_mul hq2 hq2)
   have a2:=Nat.mul_le_mul_left b a1
   rw [Nat.mul_comm];lia
  rw [Znq,Nat.add_mul] at lo
  have c1:2^23*(q*s)≤q*q:=by
   calc 2^23*(q*s)=q*(2^23*s):=by rw [Nat.mul_left_comm]
    _≤q*q:=Nat.mul_le_mul_left _ hqs
  have c2:s*s≤q*s:=Nat.mul_le_mul_right _ (by lia)
  have c3:(2*(q*s)+s*s)*2^20≤q*q:=by lia
  have c4:(2*(q*s)+s*s)*b*2^20≤q*q*b:=by
   rw [Nat.mul_right_comm];exact Nat.mul_le_mul_right _ c3
  have e1:(ONE*ONE*ONE:Int)=((2^447:Nat):Int):=by decide
  have e3:UNIT*UNIT*UNIT=2^447:=by decide
  rw [e1,e3,← Int.natCast_mul,← Int.natCast_mul]
  generalize q*q*b=p at *
  generalize (2*(q*s)+s*s)*b=d at *
  generalize (2^447:Nat)=N at *
  lia
end SbM
namespace SbM
open Sb20 Sb20Neutral
theorem ZfS (n:Int) (b:Nat):(if n / 2^b % 4=1∧n / 2^b*2^b=n then n / 2^b / 2 else (n / 2^b+1) / 2)=near n (2^(b+1)):=by
 have hd:(0:Int)<2^b:=Int.pow_pos (by decide)
 have e1:((2^(b+1):Nat):Int)=2^b*2:=by rw [Nat.pow_succ,Int.natCast_mul];simp
 unfold near
 simp only [e1]
 have e2:n / (2^b*2)=n / 2^b / 2:=(Int.ediv_ediv_of_nonneg (Int.le_of_lt hd)).symm
 have e3:n % (2^b*2)=n-2^b*2*(n / 2^b / 2):=by rw [Int.emod_def,e2]
 rw [e2,e3]
 have h1:=Int.mul_ediv_self_le (x:=n) (k:=2^b) (Int.ne_of_gt hd)
 have h2:=Int.lt_mul_ediv_self_add (x:=n) (k:=2^b) hd
 generalize n / 2^b=h at *
 generalize (2:Int)^b=d at *
 have h3:h=2*(h / 2)∨h=2*(h / 2)+1:=by lia
 generalize h / 2=q at *
 rcases h3 with rfl | rfl
 ·have a1:d*(2*q)=2*(d*q):=by rw [Int.mul_left_comm]
  have a2:d*2*q=2*(d*q):=by rw [Int.mul_comm d 2,Int.mul_assoc]
  have a3:2*q*d=2*(d*q):=by rw [Int.mul_assoc,Int.mul_comm q d]
  rw [a1] at h1 h2
  rw [a2,a3,if_neg (by lia),if_pos (by lia)]
  lia
 ·have a1:d*(2*q+1)=2*(d*q)+d:=by rw [Int.mul_add,Int.mul_left_comm,Int.mul_one]
  have a2:d*2*q=2*(d*q):=by rw [Int.mul_comm d 2,Int.mul_assoc]
  have a3:(2*q+1)*d=2*(d*q)+d:=by rw [Int.add_mul,Int.mul_assoc,Int.mul_comm q d,Int.one_mul]
  rw [a1] at h1 h2
  rw [a2,a3]
  generalize d*q=y at *
  by_cases hc:(2*q+1) % 4=1∧2*y+d=n
  ·rw [if_pos hc,if_neg (by lia),if_neg (by lia),if_pos (by lia)]
  ·rw [if_neg hc]
   by_cases h5:d*2<2*(n-2*y)
   ·rw [if_neg (by lia),if_pos h5];lia
   ·rw [if_neg (by lia),if_neg h5,if_neg (by lia)];lia
theorem Qu (x:Int):rounded x 1=if nb x.natAbs≤24 then x else near x (2^(nb x.natAbs-24))*2^(nb x.natAbs-24):=by
 unfold rounded
 simp only [Nat.div_one,QM,Nat.one_mul]
 split
 ·rename_i h
  rw [show nb x.natAbs-24=0 by lia]
  unfold near
  simp only [Nat.pow_zero]
  have h1:x / ((1:Nat):Int)=x:=Int.ediv_one x
  have h2:x % ((1:Nat):Int)=0:=Int.emod_one x
  rw [h1,h2,if_pos (by decide)]
  simp
 ·simp
theorem ZdA (n k:Nat):nb (n / 2^k)=nb n-k:=by
 by_cases h:n<2^k
 ·rw [Nat.div_eq_of_lt h]
  have:nb n≤k:=by
   unfold nb
   split
   ·lia
   ·rename_i h0;exact (Nat.log2_lt h0).mpr h
  show 0=_
  lia
 ·have hk:0<2^k:=Nat.two_pow_pos k
  have hq:0<n / 2^k:=Nat.div_pos (by lia) hk
  have h0:n≠0:=by lia
  unfold nb
  rw [if_neg (by lia),if_neg h0]
  have e1:(n / 2^k).log2+k≤n.log2:=by
   rw [Nat.le_log2 h0,Nat.pow_add]
   exact Nat.le_trans (Nat.mul_le_mul_right _ ((Nat.le_log2 (n:=n / 2^k) (by lia)).mp (Nat.le_refl _))) (Nat.div_mul_le_self n _)
  have e2:n.log2<(n / 2^k).log2+k+1:=by
   rw [Nat.log2_lt h0,show (n / 2^k).log2+k+1=((n / 2^k).log2+1)+k by lia,Nat.pow_add]
   have:=(Nat.log2_lt (n:=n / 2^k) (k:=(n / 2^k).log2+1) (by lia)).mp (Nat.lt_succ_self _)
   exact (Nat.div_lt_iff_lt_mul hk).mp this
  lia
theorem ZdR (x:Int) (s:Nat) (hs:s=(nb x.natAbs-24-149)+149):rounded x UNIT=near x (2^s)*2^(s-149):=by
 unfold rounded UNIT
 simp only [QM,ZdA]
 rw [hs,show nb x.natAbs-149-24=nb x.natAbs-24-149 by lia,← Nat.pow_add,Nat.add_comm,Nat.add_sub_cancel]
 simp
theorem Jq (n:Int) (d k:Nat) (hk:0<k):near (n*(k:Int)) (d*k)=near n d:=by
 unfold near
 have hk':(k:Int)≠0:=by lia
 have e1:n*(k:Int) / ((d*k:Nat):Int)=n / (d:Int):=by rw [Int.natCast_mul,Int.mul_ediv_mul_of_pos_left _ _ (by lia)]
 have e2:n*(k:Int) % ((d*k:Nat):Int)=n % (d:Int)*k:=by rw [Int.natCast_mul,Int.mul_comm n,Int.mul_comm (d:Int),Int.mul_emod_mul_of_pos _ _ (by lia),Int.mul_comm]
 simp only [e1,e2]
 have hk2:(0:Int)<k:=by lia
 have c1:(2*(n % (d:Int)*k)<((d*k:Nat):Int))↔(2*(n % (d:Int))<(d:Int)):=by
  rw [Int.natCast_mul,← Int.mul_assoc];exact Int.mul_lt_mul_right hk2
 have c2:(((d*k:Nat):Int)<2*(n % (d:Int)*k))↔((d:Int)<2*(n % (d:Int))):=by
  rw [Int.natCast_mul,← Int.mul_assoc];exact Int.mul_lt_mul_right hk2
 simp only [c1,c2]
theorem Zcy (a:Int) (b k:Nat) (hk:0<k):rounded (a*(k:Int)) (b*k)=rounded a b:=by
 unfold rounded
 have e:(a*(k:Int)).natAbs / (b*k)=a.natAbs / b:=by rw [Int.natAbs_mul,Int.natAbs_natCast,Nat.mul_div_mul_right _ _ hk]
 simp only [e]
 generalize (if a.natAbs / b<2^24 then 1 else 2^(Nat.log2 (a.natAbs / b)-23))=s
 rw [show b*k*s=b*s*k by rw [Nat.mul_assoc,Nat.mul_comm k s,← Nat.mul_assoc],Jq _ _ _ hk]
theorem ZfC {n k:Nat}(h:n≠0):nb (n*2^k)=nb n+k:=by
 unfold nb
 have:n*2^k≠0:=Nat.mul_ne_zero h (Nat.ne_of_gt (Nat.two_pow_pos k))
 rw [if_neg this,if_neg h,JH h];lia
theorem Zjb (x:Int):near x 1=x:=by
 unfold near
 have h1:x / ((1:Nat):Int)=x:=Int.ediv_one x
 have h2:x % ((1:Nat):Int)=0:=Int.emod_one x
 simp only [h1,h2]
 rw [if_pos (by decide)]
theorem ZeA (n:Int):ofInt n=rounded n 1*ONE:=by
 unfold ofInt
 rw [Qu n]
 by_cases h0:n=0
 ·subst h0;rw [if_pos (by decide)];decide
 have hx:(n*ONE).natAbs=n.natAbs*2^149:=by rw [Int.natAbs_mul];rfl
 have hn:nb (n*ONE).natAbs=nb n.natAbs+149:=by rw [hx,ZfC (by lia)]
 rw [Qu,hn]
 have hone:ONE=((2^149:Nat):Int):=rfl
 by_cases h:nb n.natAbs≤24
 ·rw [if_pos h]
  by_cases h2:nb n.natAbs+149≤24
  ·rw [if_pos h2]
  ·rw [if_neg h2]
   have e:n*ONE=(n*((2^(24-nb n.natAbs):Nat):Int))*((2^(nb n.natAbs+149-24):Nat):Int):=by
    rw [hone,Int.mul_assoc,← Int.natCast_mul,← Nat.pow_add,show 24-nb n.natAbs+(nb n.natAbs+149-24)=149 by lia]
   have e2:=Jq (n*((2^(24-nb n.natAbs):Nat):Int)) 1 (2^(nb n.natAbs+149-24)) (Nat.two_pow_pos _)
   rw [Nat.one_mul,Zjb,← e] at e2
   rw [e2]
   rw [e];simp
 ·rw [if_neg h,if_neg (by lia),show nb n.natAbs+149-24=(nb n.natAbs-24)+149 by lia]
  have e2:=Jq n (2^(nb n.natAbs-24)) (2^149) (Nat.two_pow_pos _)
  rw [← Nat.pow_add] at e2
  rw [show n*ONE=n*((2^149:Nat):Int) from rfl,e2,Int.pow_add,Int.mul_assoc];rfl
theorem Zdm (e n:Int) (hn:0<rounded n 1):div (ofInt e) (ofInt n)=div (rounded e 1) (rounded n 1):=by
 rw [ZeA,ZeA]
 have h1:0<rounded n 1*ONE:=Int.mul_pos hn (by decide)
 unfold div
 rw [if_neg (by lia),if_neg (by lia)]
 have e1:(rounded n 1*ONE).natAbs=(rounded n 1).natAbs*2^149:=by rw [Int.natAbs_mul];rfl
 rw [e1,show rounded e 1*ONE*ONE=rounded e 1*ONE*((2^149:Nat):Int) from rfl,Zcy _ _ _ (Nat.two_pow_pos _)]
def YC (n b:Nat):Nat:=if n % b=0 then n / b else n / b ||| 1
theorem Zar (n:Nat):n ||| 1=2*(n / 2)+1:=by
 apply Nat.eq_of_testBit_eq
 intro i
 rw [Nat.testBit_or]
 cases i with
 | zero=>simp
 | succ i=>rw [Nat.testBit_succ,Nat.testBit_succ,Nat.testBit_succ];simp;rw [show (2*(n / 2)+1) / 2=n / 2 by lia]
theorem Zhu (n b:Nat):nb (YC n b)-26=nb (n / b / 4)-24:=by
 have h4:nb (n / b / 4)=nb (n / b)-2:=ZdA (n / b) 2
 unfold YC
 split
 ·rw [h4];lia
 ·rw [h4]
  generalize n / b=f
  have h2:nb (f ||| 1)-1=nb f-1:=by
   rw [← ZdA,← ZdA,Nat.pow_one,Zar,show (2*(f / 2)+1) / 2=f / 2 by lia]
  lia
theorem Zeh (p b e:Nat) (hb:0<b):Yl (YC (4*p) b) (2^(e+2))=Yl p (b*2^e):=by
 have hE:0<2^e:=Nat.two_pow_pos e
 have hD:0<b*2^e:=Nat.mul_pos hb hE
 have e4:2^(e+2)=4*2^e:=by rw [Nat.pow_add,Nat.mul_comm]
 have hp:=Nat.div_add_mod p (b*2^e)
 have hr:=Nat.mod_lt p hD
 have hf:4*p / b / 2^(e+2)=p / (b*2^e):=by
  rw [Nat.div_div_eq_div_mul,e4,Nat.mul_left_comm,Nat.mul_div_mul_left _ _ (by decide)]
 have hm:4*p / b % 2^(e+2)=4*(p % (b*2^e)) / b:=by
  have h1:4*p=4*(p % (b*2^e))+b*(2^(e+2)*(p / (b*2^e))):=by
   rw [e4]
   have:b*(4*2^e*(p / (b*2^e)))=4*(b*2^e*(p / (b*2^e))):=by
    rw [Nat.mul_assoc 4,Nat.mul_left_comm b 4,Nat.mul_assoc b]
   lia
  have h2:4*(p % (b*2^e)) / b<2^(e+2):=by
   rw [Nat.div_lt_iff_lt_mul hb,e4,Nat.mul_assoc,Nat.mul_comm _ b]
   lia
  rw [h1,Nat.add_mul_div_left _ _ hb,Nat.add_mul_mod_self_left,Nat.mod_eq_of_lt h2]
 have hmb:4*p % b=4*(p % (b*2^e)) % b:=by
  have h1:4*p=4*(p % (b*2^e))+b*(2^(e+2)*(p / (b*2^e))):=by
   rw [e4]
   have:b*(4*2^e*(p / (b*2^e)))=4*(b*2^e*(p / (b*2^e))):=by
    rw [Nat.mul_assoc 4,Nat.mul_left_comm b 4,Nat.mul_assoc b]
   lia
  rw [h1,Nat.add_mul_mod_self_left]
 have hd:=Nat.div_add_mod (4*(p % (b*2^e))) b
 have hlt:=Nat.mod_lt (4*(p % (b*2^e))) hb
 rw [← hm,← hmb] at hd
 rw [← hmb] at hlt
 have key:∀ M:Nat,M=YC (4*p) b→M / 2^(e+2)=p / (b*2^e)∧(2^(e+2)<2*(M % 2^(e+2))↔b*2^e<2*(p % (b*2^e)))∧(2*(M % 2^(e+2))=2^(e+2)↔2*(p % (b*2^e))=b*2^e):=by
  intro M hM
  unfold YC at hM
  have hfd:=Nat.div_add_mod (4*p / b) (2^(e+2))
  have hfl:=Nat.mod_lt (4*p / b) (show 0<2^(e+2) by lia)
  rw [hf] at hfd
  rw [e4] at hd hfd hfl ⊢
  have m1:4*p / b % (4*2^e)<2*2^e→b*(4*p / b % (4*2^e))+b≤2*(b*2^e):=fun h=>by
   have:=Nat.mul_le_mul_left b (show 4*p / b % (4*2^e)+1≤2*2^e by lia)
   rw [Nat.mul_add,Nat.mul_one,Nat.mul_left_comm] at this;exact this
  have m2:2*2^e≤4*p / b % (4*2^e)→2*(b*2^e)≤b*(4*p / b % (4*2^e)):=fun h=>by
   have:=Nat.mul_le_mul_left b h
   rw [Nat.mul_left_comm] at this;exact this
  have m3:2*2^e<4*p / b % (4*2^e)→2*(b*2^e)+b≤b*(4*p / b % (4*2^e)):=fun h=>by
   have:=Nat.mul_le_mul_left b (show 2*2^e+1≤4*p / b % (4*2^e) by lia)
   rw [Nat.mul_add,Nat.mul_one,Nat.mul_left_comm] at this;exact this
  have m4:4*p / b % (4*2^e)=2*2^e→b*(4*p / b % (4*2^e))=2*(b*2^e):=fun h=>by rw [h,Nat.mul_left_comm]
  have aq:4*2^e*(p / (b*2^e))=4*(2^e*(p / (b*2^e))):=Nat.mul_assoc _ _ _
  have Mm:M / (4*2^e)=p / (b*2^e)∧M % (4*2^e)=if 4*p % b=0 then 4*p / b % (4*2^e) else 2*(4*p / b % (4*2^e) / 2)+1:=by
   by_cases h0:4*p % b=0
   ·rw [if_pos h0] at hM ⊢
    subst hM
    rw [e4] at hf
    exact ⟨hf,rfl⟩
   ·rw [if_neg h0,Zar] at hM
    rw [if_neg h0]
    have em:M=4*2^e*(p / (b*2^e))+(2*(4*p / b % (4*2^e) / 2)+1):=by
     rw [aq] at hfd ⊢
     generalize 2^e*(p / (b*2^e))=y at *
     lia
    rw [em]
    have lt:2*(4*p / b % (4*2^e) / 2)+1<4*2^e:=by
     generalize 4*p / b % (4*2^e)=g at *
     lia
    refine ⟨?_,?_⟩
    ·rw [Nat.mul_add_div (by lia),Nat.div_eq_of_lt lt,Nat.add_zero]
    ·rw [Nat.mul_add_mod,Nat.mod_eq_of_lt lt]
  refine ⟨Mm.1,?_⟩
  rw [Mm.2]
  generalize 4*p / b % (4*2^e)=g at *
  generalize b*g=bg at *
  generalize b*2^e=bE at *
  generalize 2^e=E at *
  generalize 4*p % b=r at *
  generalize p % bE=R at *
  by_cases h0:r=0
  ·rw [if_pos h0]
   rcases Nat.lt_trichotomy g (2*E) with h | h | h
   ·have:=m1 h;lia
   ·have:=m4 h
    lia
   ·have:=m3 h;lia
  ·rw [if_neg h0]
   rcases Nat.lt_trichotomy g (2*E) with h | h | h
   ·have:=m1 h;lia
   ·have:=m2 (by lia);lia
   ·have:=m3 h;lia
 obtain ⟨k1,k2,k3⟩:=key _ rfl
 unfold Yl
 rw [k1]
 simp only [k2,k3]
theorem Zhz (x:Int):PySem.Builtin.bitOr x 1=2*(x / 2)+1:=by
 unfold PySem.Builtin.bitOr PySem.Builtin.bitAnd
 rw [show decide ((0:Int)≤PySem.Builtin.bitNot 1)=false from rfl]
 by_cases h:(0:Int)≤PySem.Builtin.bitNot x
 ·rw [decide_eq_true h]
  unfold PySem.Builtin.bitNot at *
  show -(-x-1-(((-x-1).toNat &&& 1:Nat):Int))-1=_
  rw [Nat.and_one_is_mod]
  lia
 ·rw [decide_eq_false h]
  unfold PySem.Builtin.bitNot at *
  show -(-(((-(-x-1)-1).toNat ||| 1:Nat):Int)-1)-1=_
  rw [Zar]
  lia
theorem Zbq {a b:Int}(hb:0<b):(if a*2^151 % b=0 then a*2^151 / b else PySem.Builtin.bitOr (a*2^151 / b) 1)=if 0≤a then ((YC (4*(a.natAbs*2^149)) b.toNat:Nat):Int) else -((YC (4*(a.natAbs*2^149)) b.toNat:Nat):Int):=by
 obtain ⟨d,rfl⟩:=Int.eq_ofNat_of_zero_le (Int.le_of_lt hb)
 rw [Int.toNat_natCast,Zhz]
 have hd:0<d:=by lia
 have h151:(2:Int)^151=((4*2^149:Nat):Int):=rfl
 rw [h151]
 rcases Int.le_total 0 a with h | h
 ·obtain ⟨n,rfl⟩:=Int.eq_ofNat_of_zero_le h
  rw [if_pos h,Int.natAbs_natCast]
  have e:((n:Int)*((4*2^149:Nat):Int))=((4*(n*2^149):Nat):Int):=by rw [← Int.natCast_mul,Nat.mul_left_comm]
  rw [e]
  generalize 4*(n*2^149)=m
  rw [← Int.natCast_ediv,← Int.natCast_emod]
  unfold YC
  rw [Zar]
  by_cases h0:m % d=0
  ·rw [if_pos h0,if_pos (by lia)]
  ·rw [if_neg h0,if_neg (by lia)];lia
 ·by_cases hz:a=0
  ·subst hz
   rw [if_pos (show (0:Int)≤0 by decide)]
   simp [YC]
  obtain ⟨n,hn⟩:=Int.eq_ofNat_of_zero_le (show 0≤-a by lia)
  obtain rfl:a = -(n:Int):=by lia
  rw [if_neg (show ¬ (0:Int)≤-(n:Int) by lia),Int.natAbs_neg,Int.natAbs_natCast]
  have e:(-(n:Int)*((4*2^149:Nat):Int)) = -((4*(n*2^149):Nat):Int):=by rw [Int.neg_mul,← Int.natCast_mul,Nat.mul_left_comm]
  rw [e]
  generalize 4*(n*2^149)=m
  unfold YC
  rw [Zar]
  have h1:=Int.mul_ediv_add_emod (-(m:Int)) (d:Int)
  have h2:=Int.emod_nonneg (-(m:Int)) (show (d:Int)≠0 by lia)
  have h3:=Int.emod_lt_of_pos (-(m:Int)) (show (0:Int)<d by lia)
  have h4:=Nat.div_add_mod m d
  have h5:=Nat.mod_lt m hd
  by_cases h0:m % d=0
  ·have z : -(m:Int)=(d:Int) * -((m / d:Nat):Int):=by
    rw [h0] at h4
    rw [Int.mul_neg,← Int.natCast_mul];lia
   rw [if_pos h0,z,Int.mul_emod_right,if_pos rfl,Int.mul_ediv_cancel_left _ (by lia)]
  ·have z : -(m:Int)=((d-m % d:Nat):Int)+(d:Int)*(-((m / d:Nat):Int)-1):=by
    have:(d:Int)*(-((m / d:Nat):Int)-1) = -((d*(m / d):Nat):Int)-d:=by rw [Int.mul_sub,Int.mul_neg,Int.natCast_mul];lia
    rw [this];lia
   have zz:((d-m % d:Nat):Int) / (d:Int)=0:=Int.ediv_eq_zero_of_lt (by lia) (by lia)
   have zm:((d-m % d:Nat):Int) % (d:Int)=((d-m % d:Nat):Int):=Int.emod_eq_of_lt (by lia) (by lia)
   rw [if_neg h0,z,Int.add_mul_emod_self_left,Int.add_mul_ediv_left _ _ (by lia),zz,zm,if_neg (by lia)]
   generalize m / d=f
   lia
theorem div_eq {a b:Int}(hb:0<b){num:Int}(hn:num=if a*2^151 % b=0 then a*2^151 / b else PySem.Builtin.bitOr (a*2^151 / b) 1){s:Nat}(hs:s=(nb num.natAbs-26)+2) :
  near num (2^s)*2^(s-2)=div a b:=by
 rw [Zbq hb] at hn
 obtain ⟨d,rfl⟩:=Int.eq_ofNat_of_zero_le (Int.le_of_lt hb)
 rw [Int.toNat_natCast] at hn
 have hd:0<d:=by lia
 have habs:num.natAbs=YC (4*(a.natAbs*2^149)) d:=by rw [hn];split <;> lia
 have hx:(a*ONE).natAbs=a.natAbs*2^149:=by rw [Int.natAbs_mul];rfl
 have he:nb num.natAbs-26=nb ((a*ONE).natAbs / d)-24:=by
  rw [habs,Zhu,Nat.div_div_eq_div_mul,Nat.mul_comm d 4,Nat.mul_div_mul_left _ _ (by decide),hx]
 unfold div
 rw [if_neg (by lia),Int.natAbs_natCast]
 unfold rounded
 simp only [QM]
 rw [← he]
 generalize hE:nb num.natAbs-26=E at *
 subst hs
 rw [Nat.add_sub_cancel]
 have hk:Yl (YC (4*(a.natAbs*2^149)) d) (2^(E+2))=Yl (a.natAbs*2^149) (d*2^E):=Zeh _ _ _ hd
 have key:near num (2^(E+2))=near (a*ONE) (d*2^E):=by
  have hone:ONE=((2^149:Nat):Int):=rfl
  by_cases h:0≤a
  ·rw [if_pos h] at hn
   obtain ⟨n,rfl⟩:=Int.eq_ofNat_of_zero_le h
   rw [Int.natAbs_natCast] at hk hn
   rw [hn,hone,← Int.natCast_mul,Qz,Qz,hk]
  ·rw [if_neg h] at hn
   obtain ⟨n,hn'⟩:=Int.eq_ofNat_of_zero_le (show 0≤-a by lia)
   obtain rfl:a = -(n:Int):=by lia
   rw [Int.natAbs_neg,Int.natAbs_natCast] at hk hn
   rw [hn,hone,Int.neg_mul,← Int.natCast_mul,Qr _ _ (Nat.two_pow_pos _),Qr _ _ (Nat.mul_pos hd (Nat.two_pow_pos _)),hk]
 rw [key]
 simp
theorem Zik (x:Int):whole x=near x (2^149):=rfl
theorem ZlI (x:Int) (b:Nat):(if 0≤x then x / 2^b else -(-x / 2^b))=cut x (2^b):=by
 unfold cut
 have e:((2^b:Nat):Int)=2^b:=by simp
 rw [e]
 by_cases h:0≤x
 ·rw [if_pos h,Int.tdiv_eq_ediv_of_nonneg h]
 ·rw [if_neg h,← Int.tdiv_eq_ediv_of_nonneg (show 0≤-x by lia),Int.neg_tdiv,Int.neg_neg]
end SbM
namespace SbM
open Sb20 Sb20Neutral
theorem Bd.zero {k:Nat}:Bd k 0:=Nat.two_pow_pos k
theorem Je {m:List Int}{k n:Nat}(h:∀ a∈m,Bd k a):Bd k (at_ m n):=by
 unfold at_
 rw [List.getD_eq_getElem?_getD]
 cases e:m[n]? with
 | none=>exact Bd.zero
 | some a=>exact h a (List.mem_of_getElem? e)
theorem ZjK {m:List Int}{k:Nat}{x y z:Int}(hm:∀ a∈m,Bd 171 a) (hx:Bd 171 x) (hy:Bd 171 y) (hz:Bd 171 z):Bd 230 (row m k x y z):=by
 unfold row
 have p1:Bd 195 (mul (at_ m (4*k)) x):=((Je hm).smul hx).mono (by decide)
 have p2:Bd 195 (mul (at_ m (4*k+1)) y):=((Je hm).smul hy).mono (by decide)
 have p3:Bd 195 (mul (at_ m (4*k+2)) z):=((Je hm).smul hz).mono (by decide)
 have s1:=p1.ZcB p2
 have s2:=s1.ZcB (p3.mono (by decide))
 have s3:=s2.ZcB ((Je (n:=4*k+3) hm).mono (by decide))
 exact s3.mono (by decide)
theorem Zfw:ONE=2^149:=rfl
theorem ZeO {s:St}{x y z:Int}(hm:∀ a∈s.matrix,Bd 171 a) (hx:Bd 171 x) (hy:Bd 171 y) (hz:Bd 171 z) :
  standing s (x,y,z)=if row s.matrix 3 x y z*1024<ONE then [0,0,0,0] else
   [add (at_ s.view 0) (mul (mul (row s.matrix 0 x y z) (recip (row s.matrix 3 x y z))) (at_ s.view 2)),add (at_ s.view 1) (mul (mul (row s.matrix 1 x y z) (recip (row s.matrix 3 x y z))) (at_ s.view 3)),
    mul (row s.matrix 2 x y z) (recip (row s.matrix 3 x y z)),recip (row s.matrix 3 x y z)]:=by
 unfold standing
 simp only []
 by_cases h:row s.matrix 3 x y z*1024<ONE
 ·rw [if_pos h,if_pos h]
 ·rw [if_neg h,if_neg h]
  have hb:Bd 230 (row s.matrix 3 x y z):=ZjK hm hx hy hz
  generalize row s.matrix 3 x y z=w at *
  have h0:0<w:=by
   have:(0:Int)<ONE:=by decide
   lia
  rw [if_pos (ZjN h0 (hb.mono (by decide)))]
def nsq (x y z:Int):Int:=add (add (mul x x) (mul y y)) (mul z z)
theorem Zil {x y z:Int}(hx:Bd 171 x) (hy:Bd 171 y) (hz:Bd 171 z):Bd 230 (nsq x y z):=by
 unfold nsq
 have p1:Bd 195 (mul x x):=(hx.smul hx).mono (by decide)
 have p2:Bd 195 (mul y y):=(hy.smul hy).mono (by decide)
 have p3:Bd 195 (mul z z):=(hz.smul hz).mono (by decide)
 have s1:=p1.ZcB p2
 have s2:=s1.ZcB (p3.mono (by decide))
 exact s2.mono (by decide)
theorem Zmt {s:St}{x y z:Int}(hx:Bd 171 x) (hy:Bd 171 y) (hz:Bd 171 z) :
  lit s (x,y,z)=if nsq x y z*1048576<ONE then [0,0,0,0] else
   [mul x (root (nsq x y z)),mul y (root (nsq x y z)),mul z (root (nsq x y z)),
    clamp 0 (add (add (mul (mul x (root (nsq x y z))) (at_ s.light 0)) (mul (mul y (root (nsq x y z))) (at_ s.light 1))) (mul (mul z (root (nsq x y z))) (at_ s.light 2))) ONE]:=by
 unfold lit
 simp only []
 have hb:=Zil hx hy hz
 unfold nsq at hb ⊢
 generalize add (add (mul x x) (mul y y)) (mul z z)=n at *
 by_cases h:n*1048576<ONE
 ·rw [if_pos h,if_pos h]
 ·rw [if_neg h,if_neg h]
  have h0:0<n:=by
   have:(0:Int)<ONE:=by decide
   lia
  rw [if_pos (Zll h0 (hb.mono (by decide)))]
end SbM
namespace SbM
open Sb20 Sb20Neutral
theorem Zfy {t:Nat}(h:t≠0):2^t.log2≤t:=(Nat.le_log2 h).mp (Nat.le_refl _)
theorem ZfB {n b k:Nat}(hb:0<b) (h:2^k*b≤n):2^k≤Yl n (b*2^(nb (n / b)-24))*2^(nb (n / b)-24):=by
 have ht:2^k≤n / b:=by rw [Nat.le_div_iff_mul_le hb];exact h
 have h0:n / b≠0:=by have:=Nat.two_pow_pos k;lia
 have hk:k≤(n / b).log2:=(Nat.le_log2 h0).mpr ht
 have hl:=Zfy h0
 have hsp:nb (n / b)-24≤(n / b).log2:=by unfold nb;rw [if_neg h0];lia
 generalize nb (n / b)-24=e at *
 have h1:=ZjG n (b*2^e)
 rw [← Nat.div_div_eq_div_mul] at h1
 have h2:2^((n / b).log2-e)≤n / b / 2^e:=by
  rw [Nat.le_div_iff_mul_le (Nat.two_pow_pos e),← Nat.pow_add,Nat.sub_add_cancel hsp]
  exact hl
 calc 2^k≤2^(n / b).log2:=Nat.pow_le_pow_right (by decide) hk
  _=2^((n / b).log2-e)*2^e:=by rw [← Nat.pow_add,Nat.sub_add_cancel hsp]
  _≤Yl n (b*2^e)*2^e:=Nat.mul_le_mul_right _ (Nat.le_trans h2 h1)
theorem XI {a:Int}{b:Nat}(hb:0<b) (h:0≤a):0≤rounded a b:=by
 rw [Xe _ _ hb]
 unfold XY
 simp only []
 rw [if_pos h]
 exact Int.natCast_nonneg _
theorem YB {a:Int}{b k:Nat}(hb:0<b) (h:((2^k*b:Nat):Int)≤a):((2^k:Nat):Int)≤rounded a b:=by
 have h0:0≤a:=Int.le_trans (Int.natCast_nonneg _) h
 obtain ⟨n,rfl⟩:=Int.eq_ofNat_of_zero_le h0
 rw [Xe _ _ hb]
 unfold XY
 simp only []
 rw [if_pos h0,Int.natAbs_natCast]
 have:=ZfB hb (show 2^k*b≤n by exact_mod_cast h)
 exact_mod_cast this
theorem Zga {a:Int}{b k:Nat}(hb:0<b) (h0:0≤a) (h:a<((2^k*b:Nat):Int)):rounded a b≤((2^(k+1):Nat):Int):=by
 obtain ⟨n,rfl⟩:=Int.eq_ofNat_of_zero_le h0
 rw [Xe _ _ hb]
 unfold XY
 simp only []
 rw [if_pos h0,Int.natAbs_natCast]
 have:=ZeI n b _ k (by exact_mod_cast h) (Zfn (n / b))
 exact_mod_cast this
theorem ZlW {x y:Int}(hx:0≤x) (hy:0≤y):0≤add x y:=XI (by decide) (by lia)
theorem ZmP {x y:Int}(hx:0≤x) (hy:0≤y):0≤mul x y:=XI (by decide) (Int.mul_nonneg hx hy)
theorem ZlM {x y:Int}(hx:0≤x) (hy:0<y):0≤div x y:=by
 unfold div
 rw [if_neg (by lia)]
 exact XI (by lia) (Int.mul_nonneg hx (by decide))
theorem ZjA {x:Int}(hx:0≤x):0≤ofInt x:=XI (by decide) (Int.mul_nonneg hx (by decide))
theorem ZfA {x y:Int}{k:Nat}(hx:((2^k:Nat):Int)≤x) (hy:0≤y):((2^k:Nat):Int)≤add x y:=YB (by decide) (by rw [Nat.mul_one];lia)
theorem Zhi {x y:Int}{k:Nat}(hx:0≤x) (hy:((2^k:Nat):Int)≤y):((2^k:Nat):Int)≤add x y:=YB (by decide) (by rw [Nat.mul_one];lia)
theorem ZmM {x y:Int}{i j k:Nat}(hx:((2^i:Nat):Int)≤x) (hy:((2^j:Nat):Int)≤y) (hk:i+j=k+149):((2^k:Nat):Int)≤mul x y:=by
 refine YB (by decide) ?_
 rw [show UNIT=2^149 from rfl,← Nat.pow_add,← hk,Nat.pow_add,Int.natCast_mul]
 exact Int.mul_le_mul hx hy (Int.natCast_nonneg _) (Int.le_trans (Int.natCast_nonneg _) hx)
theorem JX (x:Nat):(x:Int)*ONE=((x*2^149:Nat):Int):=by rw [Int.natCast_mul];rfl
theorem Zev {x:Nat}(h:x≠0):((2^(x.log2+149):Nat):Int)≤ofInt (x:Int):=by
 refine YB (by decide) ?_
 rw [JX,Nat.mul_one,Nat.pow_add]
 exact Int.ofNat_le.mpr (Nat.mul_le_mul_right _ (Zfy h))
theorem Zhx {m L:Nat}(h:m<2^L):ofInt (m:Int)≤((2^(L+150):Nat):Int):=by
 refine Zga (k:=L+149) (by decide) (by rw [JX];exact Int.natCast_nonneg _) ?_
 rw [JX,Nat.mul_one,Nat.pow_add]
 exact Int.ofNat_lt.mpr (Nat.mul_lt_mul_of_pos_right h (Nat.two_pow_pos 149))
theorem Zjv (m:Nat):ofInt (m:Int)≤((2^(m.log2+1+150):Nat):Int):=Zhx Nat.lt_log2_self
theorem Zib {x m:Nat}(hm:m≠0) (h3:m≤3*x):m.log2≤x.log2+2:=by
 rcases Nat.lt_or_ge (x.log2+2) m.log2 with q | q
 ·exfalso
  have l2:=Nat.lt_log2_self (n:=x)
  have l3:=Zfy hm
  have h1:2^(x.log2+3)≤2^m.log2:=Nat.pow_le_pow_right (by decide) q
  have h2:2^(x.log2+3)=4*2^(x.log2+1):=by rw [show x.log2+3=x.log2+1+2 by lia,Nat.pow_add];lia
  generalize 2^(x.log2+3)=A at *
  generalize 2^m.log2=B at *
  generalize 2^(x.log2+1)=C at *
  lia
 ·exact q
theorem Zmx {x y:Int}{k:Nat}(hy:0<y) (h:((2^k:Nat):Int)*y≤x*ONE):((2^k:Nat):Int)≤div x y:=by
 unfold div
 rw [if_neg (by lia)]
 refine YB (by lia) ?_
 rw [Int.natCast_mul,show ((y.natAbs:Nat):Int)=y by lia]
 exact h
theorem ZeC {e n:Int}(he:0<e) (h3:n≤3*e) (hn:0<n):((2^145:Nat):Int)≤div (ofInt e) (ofInt n)∧0<ofInt n:=by
 obtain ⟨x,rfl⟩:=Int.eq_ofNat_of_zero_le (Int.le_of_lt he)
 obtain ⟨m,rfl⟩:=Int.eq_ofNat_of_zero_le (Int.le_of_lt hn)
 have hx0:x≠0:=by lia
 have hm0:m≠0:=by lia
 have o1:=Zev hx0
 have o2:=Zjv m
 have o3:=Zev hm0
 have hlog:=Zib (x:=x) hm0 (by lia)
 have hp:=Nat.two_pow_pos (m.log2+149)
 have hpos:0<ofInt (m:Int):=Int.lt_of_lt_of_le (Int.ofNat_lt.mpr hp) o3
 refine ⟨Zmx hpos ?_,hpos⟩
 have h5:ofInt (m:Int)≤((2^(x.log2+153):Nat):Int):=Int.le_trans o2 (Int.ofNat_le.mpr (Nat.pow_le_pow_right (by decide) (by lia)))
 generalize ofInt (m:Int)=M at *
 generalize ofInt (x:Int)=Xx at *
 have h6:((2^145:Nat):Int)*M≤((2^145:Nat):Int)*((2^(x.log2+153):Nat):Int):=Int.mul_le_mul_of_nonneg_left h5 (Int.natCast_nonneg _)
 have h7:((2^(x.log2+149):Nat):Int)*ONE≤Xx*ONE:=Int.mul_le_mul_of_nonneg_right o1 (by decide)
 have h8:((2^145:Nat):Int)*((2^(x.log2+153):Nat):Int)=((2^(x.log2+149):Nat):Int)*ONE:=by
  rw [JX,← Int.natCast_mul,← Nat.pow_add,← Nat.pow_add]
  congr 2
  lia
 rw [h8] at h6
 exact Int.le_trans h6 h7
theorem Zie {e0 e1 e2 n r0 r1 r2:Int}(h0:0≤e0) (h1:0≤e1) (h2:0≤e2) (hs:e0+e1+e2=n) (hn:0<n) (g0:((2^129:Nat):Int)≤r0) (g1:((2^129:Nat):Int)≤r1) (g2:((2^129:Nat):Int)≤r2) :
  ((2^125:Nat):Int)≤blend (div (ofInt e0) (ofInt n)) (div (ofInt e1) (ofInt n)) (div (ofInt e2) (ofInt n)) r0 r1 r2:=by
 have hN:0<ofInt n:=by
  exact (ZeC (e:=n) hn (by lia) hn).2
 have w:∀ {e:Int},0≤e→0≤div (ofInt e) (ofInt n):=fun h=>ZlM (ZjA h) hN
 have p129:(0:Int)≤((2^129:Nat):Int):=Int.natCast_nonneg _
 have m:∀ {e r:Int},0≤e→((2^129:Nat):Int)≤r→0≤mul (div (ofInt e) (ofInt n)) r:=fun h g=>ZmP (w h) (Int.le_trans p129 g)
 have big:∀ {e r:Int},n≤3*e→((2^129:Nat):Int)≤r→((2^125:Nat):Int)≤mul (div (ofInt e) (ofInt n)) r:=fun h g=>ZmM (ZeC (by lia) h hn).1 g (by decide)
 unfold blend
 have hor:n≤3*e0∨n≤3*e1∨n≤3*e2:=by lia
 rcases hor with q | q | q
 ·exact ZfA (ZfA (big q g0) (m h1 g1)) (m h2 g2)
 ·exact ZfA (Zhi (m h0 g0) (big q g1)) (m h2 g2)
 ·exact Zhi (ZlW (m h0 g0) (m h1 g1)) (big q g2)
theorem Zhv (a b c:Corner) (x y:Int):edge b c x y+edge c a x y+edge a b x y=area a b c:=by
 unfold area edge
 simp only [Int.sub_mul,Int.mul_sub]
 have m1:=Int.mul_comm b.y c.x
 have m2:=Int.mul_comm c.y b.x
 have m3:=Int.mul_comm c.y a.x
 have m4:=Int.mul_comm a.y c.x
 have m5:=Int.mul_comm a.y b.x
 have m6:=Int.mul_comm b.y a.x
 have m7:=Int.mul_comm a.y a.x
 have m8:=Int.mul_comm b.y b.x
 have m9:=Int.mul_comm c.y c.x
 lia
end SbM
namespace SbM
open Sb20
def Xz (how:Nat) (f:Nat→Nat→Option (Int×Px)) (w:Nat) (x:St×Nat) (k:Nat):St×Nat:=match f (k % w) (k / w) with
 | none=>x
 | some (z,p)=>match plot how x.1 (k % w) (k / w) z p with
  | none=>x
  | some t=>(t,x.2+1)
theorem Zgp (how:Nat) (f:Nat→Nat→Option (Int×Px)) (s:St):over how f s=(List.range (s.w*s.h)).foldl (Xz how f s.w) (s,0):=rfl
end SbM
namespace SbM
open Sb20 Sb20Neutral
theorem ll0 {α:Type}{φ:List α→Prop}{l:List α}(h:l.length=0) (k:φ []):φ l:=match l,h with | [],_=>k
theorem ll1 {α:Type}{φ:List α→Prop}{l:List α}(h:l.length=1) (k:∀ x,φ [x]):φ l:=match l,h with | [x],_=>k x
theorem ll2 {α:Type}{φ:List α→Prop}{l:List α}(h:l.length=2) (k:∀ x y,φ [x,y]):φ l:=match l,h with | [x,y],_=>k x y
theorem ll3 {α:Type}{φ:List α→Prop}{l:List α}(h:l.length=3) (k:∀ x y z,φ [x,y,z]):φ l:=match l,h with | [x,y,z],_=>k x y z
theorem ll4 {α:Type}{φ:List α→Prop}{l:List α}(h:l.length=4) (k:∀ x y z u,φ [x,y,z,u]):φ l:=match l,h with | [x,y,z,u],_=>k x y z u
theorem ll5 {α:Type}{φ:List α→Prop}{l:List α}(h:l.length=5) (k:∀ x y z u v,φ [x,y,z,u,v]):φ l:=match l,h with | [x,y,z,u,v],_=>k x y z u v
theorem ll6 {α:Type}{φ:List α→Prop}{l:List α}(h:l.length=6) (k:∀ x y z u v w,φ [x,y,z,u,v,w]):φ l:=match l,h with | [x,y,z,u,v,w],_=>k x y z u v w
theorem lm1 {α:Type}{l:List α}(h:l.length=1):∃ x,l=[x]:=ll1 (φ:=fun l=>∃ x,l=[x]) h fun x=>⟨x,rfl⟩
theorem lm2 {α:Type}{l:List α}(h:l.length=2):∃ x y,l=[x,y]:=ll2 (φ:=fun l=>∃ x y,l=[x,y]) h fun x y=>⟨x,y,rfl⟩
theorem lm3 {α:Type}{l:List α}(h:l.length=3):∃ x y z,l=[x,y,z]:=ll3 (φ:=fun l=>∃ x y z,l=[x,y,z]) h fun x y z=>⟨x,y,z,rfl⟩
theorem lm4 {α:Type}{l:List α}(h:l.length=4):∃ x y z u,l=[x,y,z,u]:=ll4 (φ:=fun l=>∃ x y z u,l=[x,y,z,u]) h fun x y z u=>⟨x,y,z,u,rfl⟩
theorem lm5 {α:Type}{l:List α}(h:l.length=5):∃ x y z u v,l=[x,y,z,u,v]:=ll5 (φ:=fun l=>∃ x y z u v,l=[x,y,z,u,v]) h fun x y z u v=>⟨x,y,z,u,v,rfl⟩
theorem lm6 {α:Type}{l:List α}(h:l.length=6):∃ x y z u v w,l=[x,y,z,u,v,w]:=ll6 (φ:=fun l=>∃ x y z u v w,l=[x,y,z,u,v,w]) h fun x y z u v w=>⟨x,y,z,u,v,w,rfl⟩
theorem Yy {p:Int}{i j m n:Nat}(e:PySb20.shape p=some (i,j)) (hs:PySb20.shape p=some (m,n)):m=i∧n=j:=by
 rw [e] at hs;cases hs;exact ⟨rfl,rfl⟩
theorem ZbB {φ:Int→List Int→List (List Int)→Prop}(h0:∀ x y,φ 0 [x,y] []) (h1:∀ x y,φ 1 [x,y] []) (h2:∀ x y r,φ 2 [x,y] [r]) (h3:∀ r,φ 3 [] [r]) (h4:∀ r,φ 4 [] [r]) (h5:∀ x r,φ 5 [x] [r]) (h6:∀ r,φ 6 [] [r]) (h7:∀ x r,φ 7 [x] [r]) (h8:∀ x y z,φ 8 [x,y,z] []) (h9:∀ x y r,φ 9 [x,y] [r]) (h10:∀ x y z u v,φ 10 [x,y,z,u,v] []) (h11:∀ x y,φ 11 [x,y] []) (h12:φ 12 [] []) (h13:∀ x y r,φ 13 [x,y] [r]) (h14:∀ x,φ 14 [x] []) (h15:∀ x y,φ 15 [x,y] []){p:Int}{a:List Int}{xs:List (List Int)}(hs:PySb20.shape p=some (a.length,xs.length)):φ p a xs:=by
 by_cases q0:p=0
 ·subst q0;obtain ⟨e,f⟩:=Yy (i:=2) (j:=0) rfl hs;exact ll2 (φ:=fun a=>φ _ a xs) e (fun x y=>ll0 (φ:=fun xs=>φ _ _ xs) f (h0 x y))
 by_cases q1:p=1
 ·subst q1;obtain ⟨e,f⟩:=Yy (i:=2) (j:=0) rfl hs;exact ll2 (φ:=fun a=>φ _ a xs) e (fun x y=>ll0 (φ:=fun xs=>φ _ _ xs) f (h1 x y))
 by_cases q2:p=2
 ·subst q2;obtain ⟨e,f⟩:=Yy (i:=2) (j:=1) rfl hs;exact ll2 (φ:=fun a=>φ _ a xs) e (fun x y=>ll1 (φ:=fun xs=>φ _ _ xs) f (fun r=>h2 x y r))
 by_cases q3:p=3
 ·subst q3;obtain ⟨e,f⟩:=Yy (i:=0) (j:=1) rfl hs;exact ll0 (φ:=fun a=>φ _ a xs) e (ll1 (φ:=fun xs=>φ _ _ xs) f (fun r=>h3 r))
 by_cases q4:p=4
 ·subst q4;obtain ⟨e,f⟩:=Yy (i:=0) (j:=1) rfl hs;exact ll0 (φ:=fun a=>φ _ a xs) e (ll1 (φ:=fun xs=>φ _ _ xs) f (fun r=>h4 r))
 by_cases q5:p=5
 ·subst q5;obtain ⟨e,f⟩:=Yy (i:=1) (j:=1) rfl hs;exact ll1 (φ:=fun a=>φ _ a xs) e (fun x=>ll1 (φ:=fun xs=>φ _ _ xs) f (fun r=>h5 x r))
 by_cases q6:p=6
 ·subst q6;obtain ⟨e,f⟩:=Yy (i:=0) (j:=1) rfl hs;exact ll0 (φ:=fun a=>φ _ a xs) e (ll1 (φ:=fun xs=>φ _ _ xs) f (fun r=>h6 r))
 by_cases q7:p=7
 ·subst q7;obtain ⟨e,f⟩:=Yy (i:=1) (j:=1) rfl hs;exact ll1 (φ:=fun a=>φ _ a xs) e (fun x=>ll1 (φ:=fun xs=>φ _ _ xs) f (fun r=>h7 x r))
 by_cases q8:p=8
 ·subst q8;obtain ⟨e,f⟩:=Yy (i:=3) (j:=0) rfl hs;exact ll3 (φ:=fun a=>φ _ a xs) e (fun x y z=>ll0 (φ:=fun xs=>φ _ _ xs) f (h8 x y z))
 by_cases q9:p=9
 ·subst q9;obtain ⟨e,f⟩:=Yy (i:=2) (j:=1) rfl hs;exact ll2 (φ:=fun a=>φ _ a xs) e (fun x y=>ll1 (φ:=fun xs=>φ _ _ xs) f (fun r=>h9 x y r))
 by_cases q10:p=10
 ·subst q10;obtain ⟨e,f⟩:=Yy (i:=5) (j:=0) rfl hs;exact ll5 (φ:=fun a=>φ _ a xs) e (fun x y z u v=>ll0 (φ:=fun xs=>φ _ _ xs) f (h10 x y z u v))
 by_cases q11:p=11
 ·subst q11;obtain ⟨e,f⟩:=Yy (i:=2) (j:=0) rfl hs;exact ll2 (φ:=fun a=>φ _ a xs) e (fun x y=>ll0 (φ:=fun xs=>φ _ _ xs) f (h11 x y))
 by_cases q12:p=12
 ·subst q12;obtain ⟨e,f⟩:=Yy (i:=0) (j:=0) rfl hs;exact ll0 (φ:=fun a=>φ _ a xs) e (ll0 (φ:=fun xs=>φ _ _ xs) f (h12))
 by_cases q13:p=13
 ·subst q13;obtain ⟨e,f⟩:=Yy (i:=2) (j:=1) rfl hs;exact ll2 (φ:=fun a=>φ _ a xs) e (fun x y=>ll1 (φ:=fun xs=>φ _ _ xs) f (fun r=>h13 x y r))
 by_cases q14:p=14
 ·subst q14;obtain ⟨e,f⟩:=Yy (i:=1) (j:=0) rfl hs;exact ll1 (φ:=fun a=>φ _ a xs) e (fun x=>ll0 (φ:=fun xs=>φ _ _ xs) f (h14 x))
 by_cases q15:p=15
 ·subst q15;obtain ⟨e,f⟩:=Yy (i:=2) (j:=0) rfl hs;exact ll2 (φ:=fun a=>φ _ a xs) e (fun x y=>ll0 (φ:=fun xs=>φ _ _ xs) f (h15 x y))
 exfalso
 unfold PySb20.shape at hs
 rw [if_neg q0,if_neg q1,if_neg q2,if_neg q3,if_neg q4,if_neg q5,if_neg q6,if_neg q7,if_neg q8,if_neg q9,if_neg q10,if_neg q11,if_neg q12,if_neg q13,if_neg q14,if_neg q15] at hs
 cases hs
theorem Zkd {c:List (List Int)}(h:PyFlat.okCall PySb20.shape c):PySb20.whole c=c:=by
 obtain ⟨p,a,xs,rfl,hs⟩:=h
 exact ZbB (φ:=fun p a xs=>PySb20.whole ((p::a)::xs)=(p::a)::xs) (fun _ _=>rfl) (fun _ _=>rfl) (fun _ _ _=>rfl) (fun _=>rfl) (fun _=>rfl) (fun _ _=>rfl) (fun _=>rfl) (fun _ _=>rfl) (fun _ _ _=>rfl) (fun _ _ _=>rfl) (fun _ _ _ _ _=>rfl) (fun _ _=>rfl) rfl (fun _ _ _=>rfl) (fun _=>rfl) (fun _ _=>rfl) hs
theorem ZcQ {l:List (List (List Int))}(h:∀ c∈l,PyFlat.okCall PySb20.shape c):l.map PySb20.whole=l:=(List.map_congr_left (g:=id) fun c hc=>Zkd (h c hc)).trans (List.map_id l)
theorem request {l:List Int}(h:PySb20.answers_asked l=true):∃ raw:List (List (List Int)),l=PyFlat.put raw∧(∀ c∈raw,PyFlat.okCall PySb20.shape c)∧(∀ c∈raw,asked1 c=true)∧(∀ c∈raw,PyInside.call PySb20.bound c=true) ∧
  raw.length≤100∧(∃ c r,raw=c::r∧begins c=true)∧PySb20.answers l=PyFlat.told (PyFlat.played step start raw)∧(PySb20.answers l).length≤10000000:=by
 unfold PySb20.answers_asked at h
 cases e:PyFlat.calls PySb20.shape l.length l with
 | none=>rw [e] at h;cases h
 | some raw =>
  rw [e] at h
  simp only [Bool.and_eq_true,Bool.not_eq_true'] at h
  obtain ⟨⟨⟨⟨h1,h2⟩,h3⟩,h4⟩,h5⟩:=h
  obtain ⟨p1,p2⟩:=PyFlat.put_calls _ _ _ e
  rw [ZcQ p2] at h4
  unfold asked at h4
  simp only [Bool.and_eq_true,List.all_eq_true,decide_eq_true_eq] at h4
  obtain ⟨h6,h7,h8⟩:=h4
  refine ⟨raw,p1,p2,h6,?_,h7,?_,?_,?_⟩
  ·unfold PyInside.calls at h3
   exact List.all_eq_true.mp h3
  ·cases raw with
   | nil=>cases h1
   | cons c r=>exact ⟨c,r,rfl,by simpa using h8⟩
  ·unfold PySb20.answers PySb20.calls
   rw [e]
   simp only [ZcQ p2]
  ·unfold PyFlat.short at h5
   exact of_decide_eq_true h5
end SbM
namespace SbM
open Sb20
abbrev FF:=Nat→Nat→Option (Int×Px)
def Yd (how:Nat) (f:FF) (s:St) (k:Nat):St×Nat:=(List.range k).foldl (Xz how f s.w) (s,0)
theorem ZhG (how:Nat) (f:FF) (s:St):Yd how f s 0=(s,0):=rfl
theorem Zaq (how:Nat) (f:FF) (s:St) (k:Nat):Yd how f s (k+1)=Xz how f s.w (Yd how f s k) k:=by
 unfold Yd;rw [List.range_succ,List.foldl_append];rfl
theorem ZbM (how:Nat) (f:FF) (s:St):over how f s=Yd how f s (s.w*s.h):=Zgp how f s
theorem Xv {how:Nat}{f:FF}{s:St}{a b:Nat}(h:a≤b) (hn:∀ k,a≤k→k<b→f (k % s.w) (k / s.w)=none):Yd how f s b=Yd how f s a:=by
 induction b with
 | zero=>rw [show a=0 by omega]
 | succ b ih =>
  by_cases e:a=b+1
  ·rw [e]
  ·rw [Zaq,ih (by omega) (fun k h1 h2=>hn k h1 (by omega))]
   unfold Xz
   rw [hn b (by omega) (by omega)]
theorem ZfY {how:Nat}{s t:St}{i j:Nat}{z:Int}{p:Px}(h:plot how s i j z p=some t):∃ c d,t={ s with colours:=c,depths:=d }∧c.length=s.colours.length∧d.length=s.depths.length:=by
 unfold plot at h
 simp only at h
 split at h
 ·cases e:laid how p (s.colours.getD (j*s.w+i) ⟨0,0,0,0⟩) with
  | none=>rw [e] at h;cases h
  | some q =>
   rw [e] at h
   cases h
   refine ⟨_,_,rfl,by rw [List.length_set],?_⟩
   split
   ·rw [List.length_set]
   ·rfl
 ·cases h
theorem Xd (how:Nat) (f:FF) (s:St) (k:Nat):∃ c d,(Yd how f s k).1={ s with colours:=c,depths:=d }∧c.length=s.colours.length∧d.length=s.depths.length:=by
 induction k with
 | zero=>exact ⟨_,_,rfl,rfl,rfl⟩
 | succ k ih =>
  rw [Zaq]
  unfold Xz
  split
  ·exact ih
  ·split
   ·exact ih
   ·rename_i t ht
    obtain ⟨c,d,e,l1,l2⟩:=ih
    obtain ⟨c',d',e',l1',l2'⟩:=ZfY ht
    refine ⟨c',d',?_,?_,?_⟩
    ·show t=_
     rw [e',e]
    ·rw [l1',e];exact l1
    ·rw [l2',e];exact l2
def Yp (w h S:Nat) (x y:Int) (n:Nat):Nat :=
 if y+(n / S:Nat)<0 then 0 else if (h:Int)≤y+(n / S:Nat) then w*h else (y+(n / S:Nat)).toNat * w+(max 0 (min (x+(n % S:Nat)) (w:Int))).toNat
theorem ZjX {S n:Nat}(hS:0<S):(n % S+1<S∧(n+1) / S=n / S∧(n+1) % S=n % S+1)∨(n % S+1=S∧(n+1) / S=n / S+1∧(n+1) % S=0):=by
 have h:=Nat.div_add_mod n S
 have hl:=Nat.mod_lt n hS
 by_cases e:n % S+1<S
 ·refine .inl ⟨e,?_,?_⟩
  ·have:n+1=S*(n / S)+(n % S+1):=by omega
   rw [this,Nat.mul_add_div hS,Nat.div_eq_of_lt e,Nat.add_zero]
  ·have:n+1=S*(n / S)+(n % S+1):=by omega
   rw [this,Nat.mul_add_mod,Nat.mod_eq_of_lt e]
 ·have e':n % S+1=S:=by omega
  refine .inr ⟨e',?_,?_⟩
  ·have:n+1=S*(n / S+1):=by rw [Nat.mul_add,Nat.mul_one];omega
   rw [this,Nat.mul_div_cancel_left _ hS]
  ·have:n+1=S*(n / S+1):=by rw [Nat.mul_add,Nat.mul_one];omega
   rw [this,Nat.mul_mod_right]
theorem Jp {w h S:Nat}{x y:Int}(hS:0<S) (n:Nat):Yp w h S x y n≤Yp w h S x y (n+1) ∧
  ((0≤x+(n % S:Nat)∧x+(n % S:Nat)<(w:Int))∧(0≤y+(n / S:Nat)∧y+(n / S:Nat)<(h:Int))→Yp w h S x y n=(y+(n / S:Nat)).toNat * w+(x+(n % S:Nat)).toNat∧Yp w h S x y n+1≤Yp w h S x y (n+1)):=by
 have exact_in:(0≤x+(n % S:Nat)∧x+(n % S:Nat)<(w:Int))∧(0≤y+(n / S:Nat)∧y+(n / S:Nat)<(h:Int))→Yp w h S x y n=(y+(n / S:Nat)).toNat * w+(x+(n % S:Nat)).toNat:=fun q=>by
  unfold Yp
  rw [if_neg (by omega),if_neg (by omega)]
  congr 1
  omega
 rcases ZjX (n:=n) hS with ⟨a1,a2,a3⟩ | ⟨a1,a2,a3⟩
 ·unfold Yp at *
  rw [a2,a3]
  generalize y+(n / S:Nat)=Y at *
  by_cases h1:Y<0
  ·rw [if_pos h1,if_pos h1]
   exact ⟨Nat.le_refl _,fun q=>by omega⟩
  ·by_cases h2:(h:Int)≤Y
   ·rw [if_neg h1,if_pos h2,if_neg h1,if_pos h2]
    exact ⟨Nat.le_refl _,fun q=>by omega⟩
   ·rw [if_neg h1,if_neg h2] at exact_in
    rw [if_neg h1,if_neg h2,if_neg h1,if_neg h2]
    refine ⟨by omega,fun q=>⟨exact_in q,by omega⟩⟩
 ·unfold Yp at *
  rw [a2,a3]
  have eY:y+((n / S+1:Nat):Int)=y+(n / S:Nat)+1:=by omega
  rw [eY]
  generalize y+(n / S:Nat)=Y at *
  by_cases h1:Y<0
  ·rw [if_pos h1]
   exact ⟨Nat.zero_le _,fun q=>by omega⟩
  ·by_cases h2:(h:Int)≤Y
   ·rw [if_neg h1,if_pos h2,if_neg (by omega),if_pos (by omega)]
    exact ⟨Nat.le_refl _,fun q=>by omega⟩
   ·rw [if_neg h1,if_neg h2] at exact_in
    rw [if_neg h1,if_neg h2,if_neg (show ¬ Y+1<0 by omega)]
    obtain ⟨Z,rfl⟩:=Int.eq_ofNat_of_zero_le (show 0≤Y by omega)
    have eZ:((Z:Int)+1).toNat=Z+1:=by omega
    rw [Int.toNat_natCast] at exact_in ⊢
    have hw2:(Z+1)*w=Z*w+w:=by rw [Nat.add_mul,Nat.one_mul]
    have hh2:Z+1≤h:=by omega
    have hm:(Z+1)*w≤w*h:=by rw [Nat.mul_comm w h];exact Nat.mul_le_mul_right _ hh2
    rw [eZ,hw2]
    rw [hw2] at hm
    by_cases h3:(h:Int)≤(Z:Int)+1
    ·rw [if_pos h3]
     refine ⟨by omega,fun q=>⟨exact_in q,by omega⟩⟩
    ·rw [if_neg h3]
     refine ⟨by omega,fun q=>⟨exact_in q,by omega⟩⟩
theorem XF {w h S:Nat}{x y:Int}(hS:0<S){n m:Nat}(l:n≤m):Yp w h S x y n≤Yp w h S x y m:=by
 induction m with
 | zero=>rw [show n=0 by omega];exact Nat.le_refl _
 | succ m ih =>
  by_cases e:n=m+1
  ·rw [e];exact Nat.le_refl _
  ·exact Nat.le_trans (ih (by omega)) (Jp hS m).1
theorem ZbJ {w h S:Nat}{x y:Int}(n:Nat):Yp w h S x y n≤w*h:=by
 unfold Yp
 split
 ·exact Nat.zero_le _
 ·split
  ·exact Nat.le_refl _
  ·rename_i h1 h2
   obtain ⟨Z,hZ⟩:=Int.eq_ofNat_of_zero_le (show 0≤y+(n / S:Nat) by omega)
   rw [hZ] at h2 ⊢
   have:(Z+1)*w≤h*w:=Nat.mul_le_mul_right _ (by omega)
   rw [Nat.add_mul,Nat.one_mul] at this
   rw [Int.toNat_natCast,Nat.mul_comm w h]
   omega
theorem ZbK {w h S:Nat}{x y:Int}(hS:0<S){k:Nat}(hk:k<w*h) (h1:x≤((k % w:Nat):Int)) (h2:((k % w:Nat):Int)<x+(S:Int)) (h3:y≤((k / w:Nat):Int)) (h4:((k / w:Nat):Int)<y+(S:Int)) :
  ∃ n,n<S*S∧x+((n % S:Nat):Int)=((k % w:Nat):Int)∧y+((n / S:Nat):Int)=((k / w:Nat):Int)∧Yp w h S x y n=k∧k+1≤Yp w h S x y (n+1):=by
 have hw:0<w:=by
  rcases Nat.eq_zero_or_pos w with e | e
  ·rw [e,Nat.zero_mul] at hk;omega
  ·exact e
 have kw:=Nat.mod_lt k hw
 have kh:k / w<h:=by rw [Nat.div_lt_iff_lt_mul hw,Nat.mul_comm];exact hk
 have kd:=Nat.div_add_mod k w
 generalize k / w=kq at *
 generalize k % w=kr at *
 obtain ⟨a,ha⟩:∃ a:Nat,(kr:Int)-x=(a:Int):=⟨((kr:Int)-x).toNat,by omega⟩
 obtain ⟨b,hb⟩:∃ b:Nat,(kq:Int)-y=(b:Int):=⟨((kq:Int)-y).toNat,by omega⟩
 have aS:a<S:=by omega
 have bS:b<S:=by omega
 have m1:(b*S+a) % S=a:=by rw [Nat.add_comm,Nat.add_mul_mod_self_right,Nat.mod_eq_of_lt aS]
 have m2:(b*S+a) / S=b:=by rw [Nat.add_comm,Nat.add_mul_div_right _ _ hS,Nat.div_eq_of_lt aS,Nat.zero_add]
 have hlt:b*S+a<S*S:=by
  have:(b+1)*S≤S*S:=Nat.mul_le_mul_right _ bS
  rw [Nat.add_mul,Nat.one_mul] at this;omega
 have nx:=(Jp (w:=w) (h:=h) (x:=x) (y:=y) hS (b*S+a)).2
 rw [m1,m2] at nx
 obtain ⟨q1,q2⟩:=nx ⟨by omega,by omega⟩
 have e1:(y+(b:Int)).toNat=kq:=by omega
 have e2:(x+(a:Int)).toNat=kr:=by omega
 rw [e1,e2,Nat.mul_comm kq w,kd] at q1
 refine ⟨b*S+a,hlt,by rw [m1];omega,by rw [m2];omega,q1,by omega⟩
end SbM
namespace Sg
open PySem PySem.Spec PyProof.Rows L2 LX
def top (i:Nat):Stmt:=PySem.Challenge.pw_solidsdrawn_s01_answers.main.body.getD i (.Pass ⟨0,0,0,0⟩)
def Cal (P:Program) (w:World) (K:PySem.W.Frag) (mg:Str→Option Value) (base:Heap) (CX:CXT) (k:Nat) (x:Str) (ps:List Str) (sp:Sp):Prop :=
 ∃ f fd,mg x=some (.ref f)∧PySem.W.keepIn K (.ref f)=true∧Binds K fd ps []∧Yi P w K mg base CX k f fd ps sp
def Df (K:PySem.W.Frag) (mg:Str→Option Value) (x:Str) (st:Stmt) (ps:List Str):Prop:=∃ f fd,mg x=some (.ref f)∧L2.Fun K x x st f fd∧Binds K fd ps []
section
variable {X:Cx}{CX:CXT}{k:Nat}{x:Str}{ps:List Str}{sp:Sp}{E:XK}{e:Expr}{es:List Expr}{t:TA}{p pos:Pos}
theorem Zg (F:Cal X.prog X.w X.K X.mg X.base CX k x ps sp) (hr:Yf k X.A) (hg:Gl X x) (hx:Passes CX X E) (ha:PA X (e::es) t) (hdb:(x==("__debug__":Str))=false:=by decide)
  (he:starEach (e::es) X.env=(false,eval e X.env)::starEach es X.env:=by rfl) (hpl:(backTo pos (starEach es X.env)).any (·.1)=false:=by rfl) :
  PE X (.Call (.Name x p) (e::es) [] pos) (JJ sp [] E t):=by
 obtain ⟨f,fd,h1,h2,h3,h4⟩:=F
 exact ZkZ h4 hr hg h1 h2 h3 .nil hx ha hdb he hpl
end
section
variable {P:Program}{w:World}{K:PySem.W.Frag}{mg:Str→Option Value}{base:Heap}
theorem Df.ok {x:Str}{st:Stmt}{N ps:List Str}{k:Nat}{sp:Sp}(F:Df K mg x st ps) (S:ZW N ps (Zk st)) (len:∀ vs H Q E,sp vs H Q E→vs.length=ps.length)
  (hbody:∀ (f:Addr) (cdv:Value) (A:Around) (outer:List Env) (s:Shared) (H:Hp) (vs:List V) (Q:VK) (E:XK),Yf k (A.deeper (envOfC x (Zk st) s.heap.objs.size f cdv))→sp vs H Q E →
   ∃ t,PSs (Ja CX0 P w K mg base N x (Zk st) f cdv A outer s H E).nox (ZK st) t∧t { nx:=fun _ H'=>Q .non H',rt:=Q } (start N vs) H):Cal P w K mg base CX0 (k+1) x ps sp:=by
 obtain ⟨f,fd,h1,h2,h3⟩:=F
 exact ⟨f,fd,h1,h2.kp,h3,h2.ok S len (hbody f)⟩
theorem Df.okx {x:Str}{st:Stmt}{N ps:List Str}{k:Nat}{sp:Sp}(F:Df K mg x st ps) (S:ZW N ps (Zk st)) (len:∀ vs H Q E,sp vs H Q E→vs.length=ps.length)
  (hbody:∀ (f:Addr) (cdv:Value) (A:Around) (outer:List Env) (s:Shared) (H:Hp) (vs:List V) (Q:VK) (E:XK),Yf k (A.deeper (envOfC x (Zk st) s.heap.objs.size f cdv))→sp vs H Q E →
   ∃ t,PSs (cxR P w K mg base N x (Zk st) f cdv A outer s H E) (ZK st) t∧t { nx:=fun _ H'=>Q .non H',rt:=Q } (start N vs) H):Cal P w K mg base (CXR P w) (k+1) x ps sp:=by
 obtain ⟨f,fd,h1,h2,h3⟩:=F
 exact ⟨f,fd,h1,h2.kp,h3,LX.Fun.okx h2 S len (hbody f)⟩
end
def Mth (P:Program) (w:World) (K:PySem.W.Frag) (mg:Str→Option Value) (base:Heap) (CX:CXT) (k:Nat) (C:Addr) (m:Str) (ps:List Str) (sp:Sp):Prop :=
 ∃ f fd,Cls K C∧Meth K C m f∧Binds K fd ps []∧Yi P w K mg base CX k f fd ps sp
def Mak (P:Program) (w:World) (K:PySem.W.Frag) (mg:Str→Option Value) (base:Heap) (CX:CXT) (k:Nat) (x:Str) (C:Addr) (ps:List Str) (sp:Sp):Prop :=
 ∃ f fd,Mk K C f∧mg x=some (.ref C)∧Binds K fd ps []∧Yi P w K mg base CX k f fd ps sp
def Dm (K:PySem.W.Frag) (C:Addr) (m q:Str) (st:Stmt) (ps:List Str):Prop:=∃ f fd,Cls K C∧Meth K C m f∧L2.Fun K m q st f fd∧Binds K fd ps []
def Di (K:PySem.W.Frag) (mg:Str→Option Value) (x:Str) (C:Addr) (q:Str) (st:Stmt) (ps:List Str):Prop:=∃ f fd,Mk K C f∧mg x=some (.ref C)∧L2.Fun K "__init__" q st f fd∧Binds K fd ps []
section
variable {X:Cx}{CX:CXT}{k:Nat}{x m:Str}{C:Addr}{ps:List Str}{sp:Sp}{E:XK}{e o:Expr}{es:List Expr}{t:TA}{ta:TE}{p pos apos:Pos}
theorem YE {pl:Sem Bool}(F:Mth X.prog X.w X.K X.mg X.base CX k C m ps sp) (hr:Yf k X.A) (hx:Passes CX X E) (he:PE X o ta) (ha:PA X (e::es) t)
  (hst:starEach (e::es) X.env=(false,eval e X.env)::starEach es X.env:=by rfl) (hpl:(backTo pos (starEach es X.env)).any (·.1)=false:=by rfl)
  (ht:eval (.Call (.Attribute o m apos) (e::es) [] pos) X.env=(do
   let ov ← eval o X.env
   standAt apos.atName
   let (f,first) ← holding [ov] (getMethod ov m pl)
   callWith pos f first (backTo pos (starEach (e::es) X.env)) (backToKw pos (keywordEach [] X.env))):=by rfl) :
  PE X (.Call (.Attribute o m apos) (e::es) [] pos) (Zju C m sp [] E ta t):=by
 obtain ⟨f,fd,h1,h2,h3,h4⟩:=F
 exact Zkx (pl:=pl) he h1 h2 h4 hr h3 .nil hx ha hst hpl ht
theorem Jf (F:Mak X.prog X.w X.K X.mg X.base CX k x C ps sp) (hr:Yf (k+1) X.A) (hg:Gl X x) (hx:Passes CX X E) (ha:PA X (e::es) t) (hdb:(x==("__debug__":Str))=false:=by decide)
  (he:starEach (e::es) X.env=(false,eval e X.env)::starEach es X.env:=by rfl) (hpl:(backTo pos (starEach es X.env)).any (·.1)=false:=by rfl):PE X (.Call (.Name x p) (e::es) [] pos) (ZcK C sp [] E t):=by
 obtain ⟨f,fd,h1,h2,h3,h4⟩:=F
 exact ZkR h1 h4 hr hg h2 h3 .nil hx ha hdb he hpl
theorem Zlo (F:Mak X.prog X.w X.K X.mg X.base CX k x C ps sp) (hr:Yf (k+1) X.A) (hg:Gl X x) (hx:Passes CX X E) (hdb:(x==("__debug__":Str))=false:=by decide):PE X (.Call (.Name x p) [] [] pos) (ZcK C sp [] E XW):=by
 obtain ⟨f,fd,h1,h2,h3,h4⟩:=F
 exact ZiV h1 h4 hr hg h2 h3 .nil hx hdb
end
section
variable {P:Program}{w:World}{K:PySem.W.Frag}{mg:Str→Option Value}{base:Heap}
theorem Dm.ok {C:Addr}{m q:Str}{st:Stmt}{N ps:List Str}{k:Nat}{sp:Sp}(F:Dm K C m q st ps) (S:ZW N ps (Zk st)) (len:∀ vs H Q E,sp vs H Q E→vs.length=ps.length)
  (hbody:∀ (f:Addr) (cdv:Value) (A:Around) (outer:List Env) (s:Shared) (H:Hp) (vs:List V) (Q:VK) (E:XK),Yf k (A.deeper (envOfC q (Zk st) s.heap.objs.size f cdv))→sp vs H Q E →
   ∃ t,PSs (Ja CX0 P w K mg base N q (Zk st) f cdv A outer s H E).nox (ZK st) t∧t { nx:=fun _ H'=>Q .non H',rt:=Q } (start N vs) H):Mth P w K mg base CX0 (k+1) C m ps sp:=by
 obtain ⟨f,fd,h0,h1,h2,h3⟩:=F
 exact ⟨f,fd,h0,h1,h3,h2.ok S len (hbody f)⟩
theorem Dm.okx {C:Addr}{m q:Str}{st:Stmt}{N ps:List Str}{k:Nat}{sp:Sp}(F:Dm K C m q st ps) (S:ZW N ps (Zk st)) (len:∀ vs H Q E,sp vs H Q E→vs.length=ps.length)
  (hbody:∀ (f:Addr) (cdv:Value) (A:Around) (outer:List Env) (s:Shared) (H:Hp) (vs:List V) (Q:VK) (E:XK),Yf k (A.deeper (envOfC q (Zk st) s.heap.objs.size f cdv))→sp vs H Q E →
   ∃ t,PSs (cxR P w K mg base N q (Zk st) f cdv A outer s H E) (ZK st) t∧t { nx:=fun _ H'=>Q .non H',rt:=Q } (start N vs) H):Mth P w K mg base (CXR P w) (k+1) C m ps sp:=by
 obtain ⟨f,fd,h0,h1,h2,h3⟩:=F
 exact ⟨f,fd,h0,h1,h3,LX.Fun.okx h2 S len (hbody f)⟩
theorem Di.ok {x q:Str}{C:Addr}{st:Stmt}{N ps:List Str}{k:Nat}{sp:Sp}(F:Di K mg x C q st ps) (S:ZW N ps (Zk st)) (len:∀ vs H Q E,sp vs H Q E→vs.length=ps.length)
  (hbody:∀ (f:Addr) (cdv:Value) (A:Around) (outer:List Env) (s:Shared) (H:Hp) (vs:List V) (Q:VK) (E:XK),Yf k (A.deeper (envOfC q (Zk st) s.heap.objs.size f cdv))→sp vs H Q E →
   ∃ t,PSs (Ja CX0 P w K mg base N q (Zk st) f cdv A outer s H E).nox (ZK st) t∧t { nx:=fun _ H'=>Q .non H',rt:=Q } (start N vs) H):Mak P w K mg base CX0 (k+1) x C ps sp:=by
 obtain ⟨f,fd,h0,h1,h2,h3⟩:=F
 exact ⟨f,fd,h0,h1,h3,h2.ok S len (hbody f)⟩
end
section
variable {P:Program}{w:World}{K:PySem.W.Frag}{mg:Str→Option Value}{base:Heap}
theorem Df.okS {x:Str}{st:Stmt}{N ps:List Str}{k:Nat}{sp:Sp}(F:Df K mg x st ps)
  (hbody:ZW N ps (Zk st)→∀ (f:Addr) (cdv:Value) (A:Around) (outer:List Env) (s:Shared) (H:Hp) (vs:List V) (Q:VK) (E:XK),Yf k (A.deeper (envOfC x (Zk st) s.heap.objs.size f cdv))→sp vs H Q E →
   ∃ t,PSs (Ja CX0 P w K mg base N x (Zk st) f cdv A outer s H E).nox (ZK st) t∧t { nx:=fun _ H'=>Q .non H',rt:=Q } (start N vs) H) (S:ZW N ps (Zk st):=by exact ⟨rfl,rfl,rfl,by decide +kernel,rfl,by decide +kernel,by decide +kernel⟩) (len:∀ vs H Q E,sp vs H Q E→vs.length=ps.length:=by intro _ _ _ _ h;repeat (first | exact (congrArg List.length (And.left h)).trans rfl | (obtain ⟨_,h⟩:=h))):Cal P w K mg base CX0 (k+1) x ps sp:=F.ok S len (hbody S)
theorem Df.YT {x:Str}{st:Stmt}{N ps:List Str}{k:Nat}{sp:Sp}(F:Df K mg x st ps)
  (hbody:ZW N ps (Zk st)→∀ (f:Addr) (cdv:Value) (A:Around) (outer:List Env) (s:Shared) (H:Hp) (vs:List V) (Q:VK) (E:XK),Yf k (A.deeper (envOfC x (Zk st) s.heap.objs.size f cdv))→sp vs H Q E →
   ∃ t,PSs (cxR P w K mg base N x (Zk st) f cdv A outer s H E) (ZK st) t∧t { nx:=fun _ H'=>Q .non H',rt:=Q } (start N vs) H) (S:ZW N ps (Zk st):=by exact ⟨rfl,rfl,rfl,by decide +kernel,rfl,by decide +kernel,by decide +kernel⟩) (len:∀ vs H Q E,sp vs H Q E→vs.length=ps.length:=by intro _ _ _ _ h;repeat (first | exact (congrArg List.length (And.left h)).trans rfl | (obtain ⟨_,h⟩:=h))):Cal P w K mg base (CXR P w) (k+1) x ps sp:=F.okx S len (hbody S)
theorem Dm.okS {C:Addr}{m q:Str}{st:Stmt}{N ps:List Str}{k:Nat}{sp:Sp}(F:Dm K C m q st ps)
  (hbody:ZW N ps (Zk st)→∀ (f:Addr) (cdv:Value) (A:Around) (outer:List Env) (s:Shared) (H:Hp) (vs:List V) (Q:VK) (E:XK),Yf k (A.deeper (envOfC q (Zk st) s.heap.objs.size f cdv))→sp vs H Q E →
   ∃ t,PSs (Ja CX0 P w K mg base N q (Zk st) f cdv A outer s H E).nox (ZK st) t∧t { nx:=fun _ H'=>Q .non H',rt:=Q } (start N vs) H) (S:ZW N ps (Zk st):=by exact ⟨rfl,rfl,rfl,by decide +kernel,rfl,by decide +kernel,by decide +kernel⟩) (len:∀ vs H Q E,sp vs H Q E→vs.length=ps.length:=by intro _ _ _ _ h;repeat (first | exact (congrArg List.length (And.left h)).trans rfl | (obtain ⟨_,h⟩:=h))):Mth P w K mg base CX0 (k+1) C m ps sp:=F.ok S len (hbody S)
theorem Dm.YT {C:Addr}{m q:Str}{st:Stmt}{N ps:List Str}{k:Nat}{sp:Sp}(F:Dm K C m q st ps)
  (hbody:ZW N ps (Zk st)→∀ (f:Addr) (cdv:Value) (A:Around) (outer:List Env) (s:Shared) (H:Hp) (vs:List V) (Q:VK) (E:XK),Yf k (A.deeper (envOfC q (Zk st) s.heap.objs.size f cdv))→sp vs H Q E →
   ∃ t,PSs (cxR P w K mg base N q (Zk st) f cdv A outer s H E) (ZK st) t∧t { nx:=fun _ H'=>Q .non H',rt:=Q } (start N vs) H) (S:ZW N ps (Zk st):=by exact ⟨rfl,rfl,rfl,by decide +kernel,rfl,by decide +kernel,by decide +kernel⟩) (len:∀ vs H Q E,sp vs H Q E→vs.length=ps.length:=by intro _ _ _ _ h;repeat (first | exact (congrArg List.length (And.left h)).trans rfl | (obtain ⟨_,h⟩:=h))):Mth P w K mg base (CXR P w) (k+1) C m ps sp:=F.okx S len (hbody S)
theorem Di.okS {x q:Str}{C:Addr}{st:Stmt}{N ps:List Str}{k:Nat}{sp:Sp}(F:Di K mg x C q st ps)
  (hbody:ZW N ps (Zk st)→∀ (f:Addr) (cdv:Value) (A:Around) (outer:List Env) (s:Shared) (H:Hp) (vs:List V) (Q:VK) (E:XK),Yf k (A.deeper (envOfC q (Zk st) s.heap.objs.size f cdv))→sp vs H Q E →
   ∃ t,PSs (Ja CX0 P w K mg base N q (Zk st) f cdv A outer s H E).nox (ZK st) t∧t { nx:=fun _ H'=>Q .non H',rt:=Q } (start N vs) H) (S:ZW N ps (Zk st):=by exact ⟨rfl,rfl,rfl,by decide +kernel,rfl,by decide +kernel,by decide +kernel⟩) (len:∀ vs H Q E,sp vs H Q E→vs.length=ps.length:=by intro _ _ _ _ h;repeat (first | exact (congrArg List.length (And.left h)).trans rfl | (obtain ⟨_,h⟩:=h))):Mak P w K mg base CX0 (k+1) x C ps sp:=F.ok S len (hbody S)
end
def Cst (mg:Str→Option Value) (x:Str) (v:V):Prop:=∃ u,mg x=some u∧RelV v u
theorem Zp {X:Cx}{x:Str}{v:V}{pos:Pos}(h:Cst X.mg x v) (hg:Gl X x) (hd:(x==("__debug__":Str))=false:=by decide):PE X (.Name x pos) (tC v):=by
 obtain ⟨u,h1,h2⟩:=h
 exact Zko hg h1 h2 hd
theorem boot_max:bootBuiltins "max"=some (.builtin "max"):=by decide +kernel
theorem boot_min:bootBuiltins "min"=some (.builtin "min"):=by decide +kernel
end Sg
namespace Sg
open PySem PySem.Spec PyProof.Rows L2 LX SbM
theorem sm {k:Nat}{x:Int}(h:Bd k x) (hk:k≤4000:=by decide):Sm x:=h.mono hk
theorem Qt {x:Int}(h:x.natAbs<2^64):Sm x:=Nat.lt_trans h (Nat.pow_lt_pow_right (by decide) (by decide))
theorem QT (i:Int):Builtin.Int.intBits i=nb i.natAbs:=by
 unfold Builtin.Int.intBits nb
 by_cases h:i=0
 ·subst h;rfl
 ·rw [if_neg (by simpa using h),if_neg (by lia)]
theorem Zdh {n k:Nat}(h:n<2^k):nb n≤k:=by
 unfold nb
 split
 ·lia
 ·rename_i h0
  exact (Nat.log2_lt h0).mpr h
theorem YR (n k:Nat){y:Int}(hy:y=((2^k-1:Nat):Int)):Builtin.bitAnd (n:Int) y=((n % 2^k:Nat):Int):=by
 subst hy
 unfold Builtin.bitAnd
 rw [decide_eq_true (Int.natCast_nonneg n),decide_eq_true (Int.natCast_nonneg _)]
 show (((n:Int).toNat &&& (((2^k-1:Nat):Int)).toNat:Nat):Int)=_
 rw [Int.toNat_natCast,Int.toNat_natCast,Nat.and_two_pow_sub_one_eq_mod]
theorem ZeF (d e:Nat):(d:Int)*2^((e:Nat):Int).toNat=((d*2^e:Nat):Int):=by
 rw [Int.toNat_natCast,Int.natCast_mul];simp
theorem Xb (d e:Nat):(d:Int) / 2^((e:Nat):Int).toNat=((d / 2^e:Nat):Int):=by
 rw [Int.toNat_natCast,Int.natCast_ediv];simp
theorem Zby (k:Nat):(1:Int)*2^((k:Nat):Int).toNat-1=((2^k-1:Nat):Int):=by
 have:=Nat.two_pow_pos k
 rw [Int.toNat_natCast,Int.one_mul]
 have e:((2^k:Nat):Int)=2^k:=by simp
 lia
def Form (eb fb:Nat):Prop:=(eb=8∧fb=23)∨(eb=11∧fb=52)
def YW (eb fb n:Nat):Nat:=n / 2^fb % 2^eb
def Yc (eb fb n:Nat):Int :=
 let v:Nat:=if YW eb fb n=0 then n % 2^fb else (2^fb+n % 2^fb)*2^(YW eb fb n-1)
 if n / 2^(eb+fb)=0 then (v:Int) else -(v:Int)
section
variable {P:Program}{w:World}{K:PySem.W.Frag}{mg:Str→Option Value}{base:Heap}{RF NT:Addr}
def Zhc:Sp:=fun vs H Q _=>∃ n eb fb:Nat,vs=[.int n,.int eb,.int fb]∧Form eb fb∧Q (.int (YW eb fb n:Nat)) H
theorem ZbY (F:Df K mg "exponent_of" (top 1) ["bits","exponent_bits","fraction_bits"]):Cal P w K mg base CX0 1 "exponent_of" ["bits","exponent_bits","fraction_bits"] Zhc:=by
 refine F.okS (N:=["bits","exponent_bits","fraction_bits"]) fun S f cdv A outer s H vs Q E hr h=>?_
 obtain ⟨n,eb,fb,rfl,hf,k⟩:=h
 refine ⟨_,(Zf (Zm (Zj Zjx (Zj Jz (pv 0) (pv 2)) (Zj YK (Zj QG Zd (pv 1)) Zd)))),?_⟩
 have h1:Sm 1:=by unfold Sm;decide
 have e:=Zby eb
 refine ⟨_,rfl,_,rfl,_,_,_,rfl,rfl,(by lia),Xb _ _,_,rfl,_,_,_,rfl,rfl,⟨by lia,by rcases hf with ⟨rfl,rfl⟩ | ⟨rfl,rfl⟩ <;> decide,h1⟩,rfl,_,_,_,rfl,rfl,e,_,_,_,rfl,rfl,YR _ _ rfl,k⟩
def ZiM:Sp:=fun vs H Q _=>∃ n eb fb:Nat,vs=[.int n,.int eb,.int fb]∧Form eb fb∧∀ b:Bool,(b=true↔YW eb fb n≠2^eb-1)→Q (.bl b) H
theorem ZdD (F:Df K mg "is_finite" (top 2) ["bits","exponent_bits","fraction_bits"])
  (f_exponent_of:Cal P w K mg base CX0 1 "exponent_of" ["bits","exponent_bits","fraction_bits"] Zhc):Cal P w K mg base CX0 2 "is_finite" ["bits","exponent_bits","fraction_bits"] ZiM:=by
 refine F.okS (N:=["bits","exponent_bits","fraction_bits"]) fun S f cdv A outer s H vs Q E hr h=>?_
 obtain ⟨n,eb,fb,rfl,hf,k⟩:=h
 refine ⟨_,(Zf (Zm (QS neC (Zg f_exponent_of (hr.mono (by decide)) rfl Zi (Za (pv 0) (Za (pv 1) (Za (pv 2) Zb)))) (Zj YK (Zj QG Zd (pv 1)) Zd) (ZD _)))),?_⟩
 have h1:Sm 1:=by unfold Sm;decide
 have e:=Zby eb
 refine ⟨_,rfl,_,rfl,_,rfl,n,eb,fb,rfl,hf,_,rfl,_,_,_,rfl,rfl,⟨by lia,by rcases hf with ⟨rfl,rfl⟩ | ⟨rfl,rfl⟩ <;> decide,h1⟩,rfl,_,_,_,rfl,rfl,e,_,_,rfl,rfl,fun b hb=>k b ?_⟩
 rw [hb];lia
def ZdT:Sp:=fun vs H Q _=>∃ n eb fb:Nat,vs=[.int n,.int eb,.int fb]∧Form eb fb∧Q (.int (Yc eb fb n)) H
theorem Jn (F:Df K mg "steps_from_bits" (top 3) ["bits","exponent_bits","fraction_bits"])
  (f_exponent_of:Cal P w K mg base CX0 1 "exponent_of" ["bits","exponent_bits","fraction_bits"] Zhc):Cal P w K mg base CX0 2 "steps_from_bits" ["bits","exponent_bits","fraction_bits"] ZdT:=by
 refine F.okS (N:=["bits","exponent_bits","fraction_bits","exponent","size"]) fun S f cdv A outer s H vs Q E hr h=>?_
 obtain ⟨n,eb,fb,rfl,hf,k⟩:=h
 refine ⟨_,(Zc (Zl (i:=3) S.nd rfl (Or.inl rfl) (Zg f_exponent_of (hr.mono (by decide)) rfl Zi (Za (pv 0) (Za (pv 1) (Za (pv 2) Zb))))) (Zc (Zl (i:=4) S.nd rfl (Or.inl rfl) (Zj Zjx (pv 0) (Zj YK (Zj QG Zd (pv 2)) Zd))) (Zc (Yg (ZC gtC (pv 3) Zd (ZD _)) (Zf (Zl (i:=4) S.nd rfl (Or.inl rfl) (Zj QG (Zj Yh (pv 4) (Zj QG Zd (pv 2))) (Zj YK (pv 3) Zd)))) ZJ) (Zf (Zm (Qp (ZC eqC (Zj Jz (pv 0) (Zj Yh (pv 1) (pv 2))) Zd (ZD _)) (pv 4) (YJ Qk (pv 4)))))))),?_⟩
 have h1:Sm 1:=by unfold Sm;decide
 have hfb:fb≤52∧eb≤11:=by rcases hf with ⟨rfl,rfl⟩ | ⟨rfl,rfl⟩ <;> decide
 have hex:YW eb fb n<2^eb:=Nat.mod_lt _ (Nat.two_pow_pos _)
 have he11:2^eb≤2^11:=Nat.pow_le_pow_right (by decide) hfb.2
 have h52:2^fb≤2^52:=Nat.pow_le_pow_right (by decide) hfb.1
 have hmm:n % 2^fb<2^fb:=Nat.mod_lt _ (Nat.two_pow_pos _)
 refine ⟨_,rfl,_,rfl,_,rfl,n,eb,fb,rfl,hf,?_⟩
 refine ⟨_,rfl,_,rfl,_,_,_,rfl,rfl,⟨by lia,by lia,h1⟩,rfl,_,_,_,rfl,rfl,Zby fb,_,_,_,rfl,rfl,YR _ _ rfl,?_⟩
 unfold Yc at k
 generalize YW eb fb n=ex at *
 generalize n % 2^fb=mm at *
 have fin:∀ v:Nat,(if ex=0 then mm else (2^fb+mm)*2^(ex-1))=v→ZcF (tIf (Zfd (tOp ZkX (tOp ZlA (ZH 0) (tOp ZgP (ZH 1) (ZH 2))) (tC (.int 0)))) (ZH 4) (tUn Zhb (ZH 4)))
   { nx:=fun _ H'=>Q .non H',rt:=Q } [some (.int (n:Nat)),some (.int (eb:Nat)),some (.int (fb:Nat)),some (.int (ex:Nat)),some (.int (v:Nat))] H:=by
  intro v hv
  rw [hv] at k
  have hsum:((eb:Nat):Int)+((fb:Nat):Int)=((eb+fb:Nat):Int):=by lia
  refine ⟨_,rfl,_,rfl,_,rfl,_,_,_,rfl,rfl,hsum,_,_,_,rfl,rfl,(by lia),Xb _ _,_,_,rfl,rfl,fun b hb=>⟨_,rfl,Ye (fun h=>?_) fun h=>?_⟩⟩
  ·have h1:=hb.mp h
   rw [if_pos (by lia)] at k
   exact ⟨_,rfl,k⟩
  ·have h1:¬ ((n / 2^(eb+fb):Nat):Int)=0:=fun z=>h (hb.mpr z)
   rw [if_neg (by lia)] at k
   exact ⟨_,rfl,_,_,rfl,rfl,k⟩
 refine ⟨_,rfl,_,_,rfl,rfl,fun b hb=>⟨_,rfl,Ye (fun h=>?_) fun h=>?_⟩⟩
 ·have h1':0<ex:=by have:(0:Int)<(ex:Nat):=hb.mp h;lia
  have hsmm:Sm ((2^fb+mm:Nat):Int):=Qt (by rw [Int.natAbs_natCast];exact Nat.lt_of_lt_of_le (show 2^fb+mm<2^53 by lia) (by decide))
  have e2:(mm:Int)+((2^fb:Nat):Int)=((2^fb+mm:Nat):Int):=by lia
  have e1:((ex:Nat):Int)-1=((ex-1:Nat):Int):=by lia
  have e0:(1:Int)*2^((fb:Nat):Int).toNat=((2^fb:Nat):Int):=by rw [Int.toNat_natCast,Int.one_mul];simp
  refine ⟨_,rfl,_,rfl,_,_,_,rfl,rfl,⟨by lia,by lia,h1⟩,e0,_,_,_,rfl,rfl,e2,_,rfl,_,_,_,rfl,rfl,e1,_,_,_,rfl,rfl,⟨by lia,by lia,hsmm⟩,ZeF _ _,?_⟩
  exact fin _ (if_neg (by lia))
 ·have h1':ex=0:=by have:¬ (0:Int)<(ex:Nat):=fun q=>h (hb.mpr q);lia
  exact fin _ (if_pos h1')
def ZaF:Sp:=fun vs H Q _=>∃ (n:Int) (b:Nat),vs=[.int n,.int b]∧(0<b∧b≤3000∧Bd 3500 n)∧Q (.int (Sb20.near n (2^b))) H
theorem Zav (F:Df K mg "nearest_whole" (top 4) ["number","bits"]):Cal P w K mg base CX0 1 "nearest_whole" ["number","bits"] ZaF:=by
 refine F.okS (N:=["number","bits","halves"]) fun S f cdv A outer s H vs Q E hr h=>?_
 obtain ⟨n,b,rfl,⟨h0,h1,h2⟩,k⟩:=h
 refine ⟨_,(Zc (Zl (i:=2) S.nd rfl (Or.inl rfl) (Zj Jz (pv 0) (Zj YK (pv 1) Zd))) (Zc (Yg (PW.pt (Zdy (ZC eqC (Zj ZkF (pv 2) Zd) Zd (ZD _)) (Zba (ZC eqC (Zj QG (pv 2) (Zj YK (pv 1) Zd)) (pv 0) (ZD _))))) (Zf (Zm (Zj Jz (pv 2) Zd))) ZJ) (Zf (Zm (Zj Jz (Zj Yh (pv 2) Zd) Zd))))),?_⟩
 obtain ⟨c,rfl⟩:∃ c,b=c+1:=⟨b-1,by lia⟩
 rw [← ZfS] at k
 have e1:((c+1:Nat):Int)-1=((c:Nat):Int):=by lia
 have e2:n / 2^((c:Nat):Int).toNat=n / 2^c:=by rw [Int.toNat_natCast]
 have e3:n / 2^c*2^((c:Nat):Int).toNat=n / 2^c*2^c:=by rw [Int.toNat_natCast]
 have hs:Sm (n / 2^c):=by
  unfold Sm
  refine Nat.lt_of_le_of_lt ?_ (Nat.lt_trans h2 (Nat.pow_lt_pow_right (by decide) (show 3500<4000 by decide)))
  have hp:(0:Int)<2^c:=Int.pow_pos (by decide)
  have a1:=Int.mul_ediv_self_le (x:=n) (k:=2^c) (Int.ne_of_gt hp)
  have a2:=Int.lt_mul_ediv_self_add (x:=n) (k:=2^c) hp
  rcases Int.le_total 0 n with q | q
  ·have b1:=Int.ediv_nonneg q (Int.le_of_lt hp)
   have b2:=Int.ediv_le_self (2^c) q
   lia
  ·have b1:n / 2^c≤0:=by
    have:=Int.ediv_le_ediv (show (0:Int)<2^c from hp) q
    simpa using this
   have b2:n≤n / 2^c:=by
    have h3:2^c*(n / 2^c)≤1*(n / 2^c):=Int.mul_le_mul_of_nonpos_right (by lia) b1
    rw [Int.le_ediv_iff_mul_le hp]
    have h4:n*2^c≤n*1:=Int.mul_le_mul_of_nonpos_left q (by lia)
    lia
   lia
 refine ⟨_,rfl,_,rfl,_,_,_,rfl,rfl,e1,_,_,_,rfl,rfl,(by lia),e2,?_⟩
 generalize n / 2^c=hv at *
 refine ⟨_,rfl,_,_,_,rfl,rfl,(by decide),rfl,_,_,rfl,rfl,fun b1 hb1=>⟨_,rfl,Ye (fun q1=>?_) fun q1=>?_⟩⟩
 ·refine ⟨_,rfl,_,rfl,_,_,_,rfl,rfl,e1,_,_,_,rfl,rfl,⟨by lia,by lia,hs⟩,e3,_,rfl,_,_,rfl,rfl,fun b2 hb2=>⟨_,rfl,Ye (fun q2=>?_) fun q2=>?_⟩⟩
  ·rw [if_pos ⟨hb1.mp q1,hb2.mp q2⟩] at k
   exact ⟨_,rfl,_,_,_,rfl,rfl,(by decide),rfl,k⟩
  ·rw [if_neg (fun z=>q2 (hb2.mpr z.2))] at k
   exact ⟨_,rfl,_,_,_,rfl,rfl,rfl,_,_,_,rfl,rfl,(by decide),rfl,k⟩
 ·rw [if_neg (fun z=>q1 (hb1.mpr z.1))] at k
  exact ZfI ⟨_,rfl,_,_,_,rfl,rfl,rfl,_,_,_,rfl,rfl,(by decide),rfl,k⟩
def ZjH:Sp:=fun vs H Q _=>∃ (n:Int) (b:Nat),vs=[.int n,.int b]∧Q (.int (Sb20.cut n (2^b))) H
theorem Zei (F:Df K mg "cut_whole" (top 5) ["number","bits"]):Cal P w K mg base CX0 1 "cut_whole" ["number","bits"] ZjH:=by
 refine F.okS (N:=["number","bits"]) fun S f cdv A outer s H vs Q E hr h=>?_
 obtain ⟨n,b,rfl,k⟩:=h
 refine ⟨_,(Zf (Zm (Qp (ZC geC (pv 0) Zd (ZD _)) (Zj Jz (pv 0) (pv 1)) (YJ Qk (Zj Jz (YJ Qk (pv 0)) (pv 1)))))),?_⟩
 rw [← ZlI] at k
 have e1:((b:Nat):Int).toNat=b:=Int.toNat_natCast b
 refine ⟨_,rfl,_,_,rfl,rfl,fun b1 hb1=>⟨_,rfl,Ye (fun q1=>?_) fun q1=>?_⟩⟩
 ·rw [if_pos (hb1.mp q1)] at k
  exact ⟨_,rfl,_,rfl,_,_,_,rfl,rfl,(by lia),(by rw [e1]),k⟩
 ·rw [if_neg (fun z=>q1 (hb1.mpr z))] at k
  exact ⟨_,rfl,_,_,rfl,rfl,_,rfl,_,_,_,rfl,rfl,(by lia),(by rw [e1]),_,_,rfl,rfl,k⟩
end
end Sg
namespace Sg
open PySem PySem.Spec PyProof.Rows L2 LX SbM
section
variable {P:Program}{w:World}{K:PySem.W.Frag}{mg:Str→Option Value}{base:Heap}{RF NT:Addr}
def ZjL:Sp:=fun vs H Q _=>∃ (n z:Int),vs=[.int n]∧Bd 100 n∧n*2^1074=z∧Q (.int z) H
theorem QA (F:Df K mg "double_from_whole" (top 8) ["number"])
  (c_UNIT_BITS_doubles:Cst mg "UNIT_BITS_doubles" (.int 1074)):Cal P w K mg base CX0 1 "double_from_whole" ["number"] ZjL:=by
 refine F.okS (N:=["number"]) fun S f cdv A outer s H vs Q E hr h=>?_
 obtain ⟨n,z,rfl,h,e,k⟩:=h
 refine ⟨_,(Zf (Zm (Zj QG (pv 0) (Zp c_UNIT_BITS_doubles rfl)))),?_⟩
 exact ⟨_,rfl,_,_,_,rfl,rfl,⟨by decide,by decide,sm h⟩,e,k⟩
def Zmp:Sp:=fun vs H Q _=>∃ (n:Int),vs=[.int n]∧Bd 3500 n∧Q (.int (Sb20.near n (2^1074))) H
theorem QD (F:Df K mg "whole_from_double" (top 9) ["a"])
  (f_nearest_whole:Cal P w K mg base CX0 1 "nearest_whole" ["number","bits"] ZaF)
  (c_UNIT_BITS_doubles:Cst mg "UNIT_BITS_doubles" (.int 1074)):Cal P w K mg base CX0 2 "whole_from_double" ["a"] Zmp:=by
 refine F.okS (N:=["a"]) fun S f cdv A outer s H vs Q E hr h=>?_
 obtain ⟨n,rfl,h,k⟩:=h
 refine ⟨_,(Zf (Zm (Zg f_nearest_whole (hr.mono (by decide)) rfl Zi (Za (pv 0) (Za (Zp c_UNIT_BITS_doubles rfl) Zb))))),?_⟩
 exact ⟨_,rfl,n,1074,rfl,⟨by decide,by decide,h⟩,k⟩
def QF:Sp:=fun vs H Q _=>∃ e z,vs=[.int e]∧(-149≤e∧e≤3000)∧(2:Int)^(149+e).toNat=z∧Q (.int z) H
theorem ZaQ (F:Df K mg "power_of_two" (top 13) ["exponent"])
  (c_UNIT_BITS_singles:Cst mg "UNIT_BITS_singles" (.int 149)):Cal P w K mg base CX0 1 "power_of_two" ["exponent"] QF:=by
 refine F.okS (N:=["exponent"]) fun S f cdv A outer s H vs Q E hr h=>?_
 obtain ⟨b,z,rfl,⟨hb,hb2⟩,e,k⟩:=h
 refine ⟨_,(Zf (Zm (Zj QG Zd (Zj Yh (Zp c_UNIT_BITS_singles rfl) (pv 0))))),?_⟩
 exact ⟨_,rfl,_,_,_,rfl,rfl,rfl,_,_,_,rfl,rfl,⟨by lia,by lia,by unfold Sm;decide⟩,(by rw [Int.one_mul];exact e),k⟩
theorem Qb {x:Int}{k b:Nat}(h:Bd k x) (hk:k≤3500):Sm (Sb20.near x (2^b)):=by
 unfold Sm
 have hd:0<2^b:=Nat.two_pow_pos b
 have key:(Sb20.near x (2^b)).natAbs≤x.natAbs+1:=by
  rcases Int.le_total 0 x with q | q
  ·obtain ⟨n,rfl⟩:=Int.eq_ofNat_of_zero_le q
   rw [Qz,Int.natAbs_natCast,Int.natAbs_natCast]
   exact Nat.le_trans (Qq _ _) (Nat.succ_le_succ (Nat.div_le_self _ _))
  ·obtain ⟨n,hn⟩:=Int.eq_ofNat_of_zero_le (show 0≤-x by lia)
   obtain rfl:x = -(n:Int):=by lia
   rw [Qr _ _ hd,Int.natAbs_neg,Int.natAbs_neg,Int.natAbs_natCast,Int.natAbs_natCast]
   exact Nat.le_trans (Qq _ _) (Nat.succ_le_succ (Nat.div_le_self _ _))
 have h3:(2:Nat)^k≤2^3500:=Nat.pow_le_pow_right (by decide) hk
 have h4:(2:Nat)^3500+1<2^4000:=by decide
 have:x.natAbs<2^k:=h
 lia
def QB:Sp:=fun vs H Q _=>∃ a b z,vs=[.int a,.int b]∧(Bd 1800 a∧Bd 1800 b)∧Sb20.add a b=z∧Q (.int z) H
theorem Zkr (F:Df K mg "plus" (top 14) ["a","b"])
  (f_nearest_whole:Cal P w K mg base CX0 1 "nearest_whole" ["number","bits"] ZaF)
  (c_KEPT_BITS:Cst mg "KEPT_BITS" (.int 24)):Cal P w K mg base CX0 2 "plus" ["a","b"] QB:=by
 refine F.okS (N:=["a","b","total","spare"]) fun S f cdv A outer s H vs Q E hr h=>?_
 obtain ⟨a,b,z,rfl,⟨ha,hb⟩,e,k⟩:=h
 refine ⟨_,(Zc (Zl (i:=2) S.nd rfl (Or.inl rfl) (Zj Yh (pv 0) (pv 1))) (Zc (Zl (i:=3) S.nd rfl (Or.inl rfl) (Zj YK (Zbi PySem.F.plainAttrs_int PySem.F.slot_int_bit_length PySem.F.type_int_bit_length Zeu (pv 2)) (Zp c_KEPT_BITS rfl))) (Zc (Yg (ZC leC (pv 3) Zd (ZD _)) (Zf (Zm (pv 2))) ZJ) (Zf (Zm (Zj QG (Zg f_nearest_whole (hr.mono (by decide)) rfl Zi (Za (pv 2) (Za (pv 3) Zb))) (pv 3))))))),?_⟩
 have hab:Bd 1801 (a+b):=ha.add hb
 have hnb:nb (a+b).natAbs≤1801:=Zdh hab
 unfold Sb20.add at e
 rw [Qu] at e
 have hb':((Builtin.Int.intBits (a+b):Nat):Int)-24=((nb (a+b).natAbs:Nat):Int)-24:=by rw [QT]
 refine ⟨_,rfl,_,rfl,_,_,_,rfl,rfl,rfl,?_⟩
 refine ⟨_,rfl,rfl,_,_,rfl,rfl,rfl,_,_,_,rfl,rfl,hb',?_⟩
 refine ⟨_,rfl,_,_,rfl,rfl,fun b1 h1=>⟨_,rfl,Ye (fun q=>?_) fun q=>?_⟩⟩
 ·have:=h1.mp q
  rw [if_pos (by lia)] at e
  exact ⟨_,rfl,by rw [e];exact k⟩
 ·have:¬ ((nb (a+b).natAbs:Nat):Int)-24≤0:=fun z=>q (h1.mpr z)
  rw [if_neg (by lia)] at e
  have es:((nb (a+b).natAbs:Nat):Int)-24=((nb (a+b).natAbs-24:Nat):Int):=by lia
  rw [es]
  refine ⟨_,rfl,_,rfl,a+b,nb (a+b).natAbs-24,rfl,⟨by lia,by lia,hab.mono (by decide)⟩,_,rfl,_,_,z,rfl,rfl,⟨by lia,by lia,Qb hab (by decide)⟩,?_,k⟩
  rw [Int.toNat_natCast];exact e
def Xk:Sp:=fun vs H Q _=>∃ a b z,vs=[.int a,.int b]∧(Bd 900 a∧Bd 900 b)∧Sb20.mul a b=z∧Q (.int z) H
theorem Zkh (F:Df K mg "times" (top 15) ["a","b"])
  (f_nearest_whole:Cal P w K mg base CX0 1 "nearest_whole" ["number","bits"] ZaF)
  (c_KEPT_BITS:Cst mg "KEPT_BITS" (.int 24))
  (c_UNIT_BITS_singles:Cst mg "UNIT_BITS_singles" (.int 149)):Cal P w K mg base CX0 2 "times" ["a","b"] Xk:=by
 refine F.okS (N:=["a","b","product","spare"]) fun S f cdv A outer s H vs Q E hr h=>?_
 obtain ⟨a,b,z,rfl,⟨ha,hb⟩,e,k⟩:=h
 refine ⟨_,(Zc (Zl (i:=2) S.nd rfl (Or.inl rfl) (Zj Xu (pv 0) (pv 1))) (Zc (Zl (i:=3) S.nd rfl (Or.inl rfl) (Zj YK (Zbi PySem.F.plainAttrs_int PySem.F.slot_int_bit_length PySem.F.type_int_bit_length Zeu (pv 2)) (Zp c_KEPT_BITS rfl))) (Zc (Yg (ZC ltC (pv 3) (Zp c_UNIT_BITS_singles rfl) (ZD _)) (Zf (Zl (i:=3) S.nd rfl (Or.inl rfl) (Zp c_UNIT_BITS_singles rfl))) ZJ) (Zf (Zm (Zj QG (Zg f_nearest_whole (hr.mono (by decide)) rfl Zi (Za (pv 2) (Za (pv 3) Zb))) (Zj YK (pv 3) (Zp c_UNIT_BITS_singles rfl)))))))),?_⟩
 have hab:Bd 1800 (a*b):=ha.mul hb
 have hnb:nb (a*b).natAbs≤1800:=Zdh hab
 unfold Sb20.mul at e
 have hb':((Builtin.Int.intBits (a*b):Nat):Int)-24=((nb (a*b).natAbs:Nat):Int)-24:=by rw [QT]
 refine ⟨_,rfl,_,rfl,_,_,_,rfl,rfl,⟨sm ha,sm hb⟩,rfl,?_⟩
 refine ⟨_,rfl,rfl,_,_,rfl,rfl,rfl,_,_,_,rfl,rfl,hb',?_⟩
 have fin:∀ sp:Int,sp=(((nb (a*b).natAbs-24-149)+149:Nat):Int)→ZcF (tOp Zlz (JJ ZaF [] E (ZV (ZH 2) (ZV (ZH 3) XW))) (tOp ZiF (ZH 3) (tC (.int 149))))
   { nx:=fun _ H'=>Q .non H',rt:=Q } [some (.int a),some (.int b),some (.int (a*b)),some (.int sp)] H:=by
  intro sp hsp
  subst hsp
  have e149:(((nb (a*b).natAbs-24-149)+149:Nat):Int)-149=((nb (a*b).natAbs-24-149:Nat):Int):=by lia
  refine ⟨_,rfl,_,rfl,a*b,_,rfl,⟨by lia,by lia,hab.mono (by decide)⟩,_,rfl,_,_,_,rfl,rfl,e149,_,_,z,rfl,rfl,⟨by lia,by lia,Qb hab (by decide)⟩,?_,k⟩
  rw [Int.toNat_natCast,← e,ZdR (a*b) _ rfl,Nat.add_sub_cancel]
 refine ⟨_,rfl,_,_,rfl,rfl,fun b1 h1=>⟨_,rfl,Ye (fun q=>?_) fun q=>?_⟩⟩
 ·have:=h1.mp q
  exact fin _ (by lia)
 ·have:¬ ((nb (a*b).natAbs:Nat):Int)-24<149:=fun z=>q (h1.mpr z)
  exact fin _ (by lia)
def Jg:Sp:=fun vs H Q _=>∃ a b z,vs=[.int a,.int b]∧(Bd 1800 a∧0<b∧Bd 1800 b)∧Sb20.div a b=z∧∀ H',Zq H H'→Q (.int z) H'
theorem ZhX (n b:Nat):YC n b≤n+1:=by
 unfold YC
 rw [Zar]
 have:=Nat.div_le_self n b
 split <;> lia
theorem Zh {H:Hp}{p:Addr}{o:HO}(h:H p=none):Zq H (upd H p o):=fun b u e=>by rw [Zn (Zs e h)];exact e
theorem Zr {H H':Hp}{p:Addr}{o:HO}(s:Zq H H') (h:H p=none):Zq H (upd H' p o):=fun b u e=>by rw [Zn (Zs e h)];exact s b u e
theorem Xg {X:Cx}{K:PySem.W.Frag}(hk:X.K=K:=by rfl):IxR X (YU K):=by subst hk;exact Zmg
theorem ZeS (F:Df K mg "quotient" (top 16) ["a","b"])
  (f_nearest_whole:Cal P w K mg base CX0 1 "nearest_whole" ["number","bits"] ZaF)
  (c_KEPT_BITS:Cst mg "KEPT_BITS" (.int 24))
  (c_UNIT_BITS_singles:Cst mg "UNIT_BITS_singles" (.int 149))
  (b_divmod:mg "divmod"=none):Cal P w K mg base CX0 2 "quotient" ["a","b"] Jg:=by
 refine F.okS (N:=["a","b","parts","number","spare"]) fun S f cdv A outer s H vs Q E hr h=>?_
 obtain ⟨a,b,z,rfl,⟨ha,h0,hb⟩,e,k⟩:=h
 refine ⟨_,(Zc (Zl (i:=2) S.nd rfl (Or.inl rfl) (ZP Zlf (by rfl) b_divmod ZmH (Za (Zj QG (pv 0) (Zj Yh (Zp c_UNIT_BITS_singles rfl) Zd)) (Za (pv 1) Zb)))) (Zc (Zl (i:=3) S.nd rfl (Or.inl rfl) (Qp (ZC eqC (Zt (r:=YU K) Xg (pv 2) Zd (fun _ _=>rfl)) Zd (ZD _)) (Zt (r:=YU K) Xg (pv 2) Zd (fun _ _=>rfl)) (Zj orE (Zt (r:=YU K) Xg (pv 2) Zd (fun _ _=>rfl)) Zd))) (Zc (Zl (i:=4) S.nd rfl (Or.inl rfl) (Zj YK (Zbi PySem.F.plainAttrs_int PySem.F.slot_int_bit_length PySem.F.type_int_bit_length Zeu (pv 3)) (Zp c_KEPT_BITS rfl))) (Zc (Yg (ZC ltC (pv 4) Zd (ZD _)) (Zf (Zl (i:=4) S.nd rfl (Or.inl rfl) Zd)) ZJ) (Zf (Zm (Zj QG (Zg f_nearest_whole (hr.mono (by decide)) rfl Zi (Za (pv 3) (Za (pv 4) Zb))) (Zj YK (pv 4) Zd)))))))),?_⟩
 have sh:(a:Int)*2^((151:Int)).toNat=a*2^151:=rfl
 refine ⟨_,rfl,_,_,(151:Int),rfl,rfl,rfl,_,_,_,rfl,rfl,⟨by decide,by decide,sm ha⟩,sh,_,rfl,_,_,rfl,⟨h0,sm hb⟩,fun l hl=>?_⟩
 have hlt:SqT K (upd H l (.tup [.int (a*2^151 / b),.int (a*2^151 % b)])) l [.int (a*2^151 / b),.int (a*2^151 % b)]:=SqT.of Ze
 have i0:atI [V.int (a*2^151 / b),V.int (a*2^151 % b)] 0=some (V.int (a*2^151 / b)):=rfl
 have i1:atI [V.int (a*2^151 / b),V.int (a*2^151 % b)] 1=some (V.int (a*2^151 % b)):=rfl
 have k:=k _ (Zh (o:=.tup [.int (a*2^151 / b),.int (a*2^151 % b)]) hl)
 generalize upd H l (.tup [.int (a*2^151 / b),.int (a*2^151 % b)])=H1 at *
 have snum:∀ num:Int,num=(if a*2^151 % b=0 then a*2^151 / b else Builtin.bitOr (a*2^151 / b) 1)→Bd 2000 num:=fun num hn=>by
  rw [Zbq h0] at hn
  have h1:=ZhX (4*(a.natAbs*2^149)) b.toNat
  have h2:num.natAbs≤4*(a.natAbs*2^149)+1:=by rw [hn];split <;> lia
  have h3:a.natAbs<2^1800:=ha
  have h4:a.natAbs*2^149≤2^1800*2^149:=Nat.mul_le_mul_right _ (Nat.le_of_lt h3)
  have h5:4*(2^1800*2^149)+1<2^2000:=by decide
  unfold Bd;lia
 refine ⟨_,rfl,l,_,_,_,rfl,rfl,hlt,i1,_,_,rfl,rfl,fun b1 h1=>⟨_,rfl,Ye (fun q=>?_) fun q=>?_⟩⟩
 ·have hn:a*2^151 / b=(if a*2^151 % b=0 then a*2^151 / b else Builtin.bitOr (a*2^151 / b) 1):=by rw [if_pos (h1.mp q)]
  refine ⟨_,rfl,l,_,_,_,rfl,rfl,hlt,i0,?_⟩
  have sn:=snum _ hn
  have ev:=fun s hs=>div_eq h0 (num:=a*2^151 / b) hn (s:=s) hs
  clear hn
  generalize a*2^151 / b=num at ev sn ⊢
  have hnb:nb num.natAbs≤2000:=Zdh sn
  have hb':((Builtin.Int.intBits num:Nat):Int)-24=((nb num.natAbs:Nat):Int)-24:=by rw [QT]
  refine ⟨_,rfl,rfl,_,_,rfl,rfl,rfl,_,_,_,rfl,rfl,hb',?_⟩
  refine ⟨_,rfl,_,_,rfl,rfl,fun b2 h2=>⟨_,rfl,Ye (fun q2=>?_) fun q2=>?_⟩⟩
  ·have:=h2.mp q2
   have e2:=ev 2 (by lia)
   refine ⟨_,rfl,_,rfl,num,2,rfl,⟨by decide,by decide,sn.mono (by decide)⟩,_,rfl,_,_,_,rfl,rfl,rfl,_,_,z,rfl,rfl,⟨by decide,by decide,Qb sn (by decide)⟩,?_,k⟩
   rw [← e,← e2];rfl
  ·have hge:¬ ((nb num.natAbs:Nat):Int)-24<2:=fun z=>q2 (h2.mpr z)
   have es:((nb num.natAbs:Nat):Int)-24=((nb num.natAbs-24:Nat):Int):=by lia
   rw [es]
   have e2:=ev (nb num.natAbs-24) (by lia)
   have e3:((nb num.natAbs-24:Nat):Int)-2=((nb num.natAbs-24-2:Nat):Int):=by lia
   refine ⟨_,rfl,_,rfl,num,nb num.natAbs-24,rfl,⟨by lia,by lia,sn.mono (by decide)⟩,_,rfl,_,_,_,rfl,rfl,e3,_,_,z,rfl,rfl,⟨by lia,by lia,Qb sn (by decide)⟩,?_,k⟩
   rw [← e,← e2,Int.toNat_natCast]
 ·have hn:Builtin.bitOr (a*2^151 / b) 1=(if a*2^151 % b=0 then a*2^151 / b else Builtin.bitOr (a*2^151 / b) 1):=by rw [if_neg (fun z=>q (h1.mpr z))]
  refine ⟨_,rfl,l,_,_,_,rfl,rfl,hlt,i0,_,_,_,rfl,rfl,rfl,?_⟩
  have sn:=snum _ hn
  have ev:=fun s hs=>div_eq h0 (num:=Builtin.bitOr (a*2^151 / b) 1) hn (s:=s) hs
  clear hn
  generalize Builtin.bitOr (a*2^151 / b) 1=num at ev sn ⊢
  have hnb:nb num.natAbs≤2000:=Zdh sn
  have hb':((Builtin.Int.intBits num:Nat):Int)-24=((nb num.natAbs:Nat):Int)-24:=by rw [QT]
  refine ⟨_,rfl,rfl,_,_,rfl,rfl,rfl,_,_,_,rfl,rfl,hb',?_⟩
  refine ⟨_,rfl,_,_,rfl,rfl,fun b2 h2=>⟨_,rfl,Ye (fun q2=>?_) fun q2=>?_⟩⟩
  ·have:=h2.mp q2
   have e2:=ev 2 (by lia)
   refine ⟨_,rfl,_,rfl,num,2,rfl,⟨by decide,by decide,sn.mono (by decide)⟩,_,rfl,_,_,_,rfl,rfl,rfl,_,_,z,rfl,rfl,⟨by decide,by decide,Qb sn (by decide)⟩,?_,k⟩
   rw [← e,← e2];rfl
  ·have hge:¬ ((nb num.natAbs:Nat):Int)-24<2:=fun z=>q2 (h2.mpr z)
   have es:((nb num.natAbs:Nat):Int)-24=((nb num.natAbs-24:Nat):Int):=by lia
   rw [es]
   have e2:=ev (nb num.natAbs-24) (by lia)
   have e3:((nb num.natAbs-24:Nat):Int)-2=((nb num.natAbs-24-2:Nat):Int):=by lia
   refine ⟨_,rfl,_,rfl,num,nb num.natAbs-24,rfl,⟨by lia,by lia,sn.mono (by decide)⟩,_,rfl,_,_,_,rfl,rfl,e3,_,_,z,rfl,rfl,⟨by lia,by lia,Qb sn (by decide)⟩,?_,k⟩
   rw [← e,← e2,Int.toNat_natCast]
end
end Sg
namespace Sg
open PySem PySem.Spec PyProof.Rows L2 LX SbM
theorem Xh {xs:List V}{i j:Nat}(hij:i≤j) (hj:j≤xs.length):YV xs (some (i:Int)) (some (j:Int))=(xs.drop i).take (j-i):=by
 unfold YV
 rw [HT.Zec,HT.Zec,Nat.min_eq_left hj,Nat.min_eq_left (show i≤xs.length by lia)]
theorem ZbZ {xs:List V}{i:Nat}(hi:i≤xs.length):YV xs (some (i:Int)) none=xs.drop i:=by
 unfold YV
 rw [HT.Zec,HT.ZeN,Nat.min_eq_left hi,List.take_of_length_le (by rw [List.length_drop];lia)]
theorem Ys {ns:List Int}{i:Nat}{z:Int}(h:ns[i]?=some z):atI (ns.map V.int) (i:Int)=some (V.int z):=ZdF (by rw [List.getElem?_map,h];rfl)
def YN (K:PySem.W.Frag) (b:Addr) (zs:List V):Prop:=∃ (its:Array Value) (n:Nat),K.lookup b=some { cls:=.type "tuple",dict:=none,data:=.seq its n,slots:=#[] }∧its.size≤sizeLine∧Vals zs its.toList
theorem YN.sq {K:PySem.W.Frag}{H:Hp}{b:Addr}{zs:List V}(h:YN K b zs):SqT K H b zs:=by
 obtain ⟨its,n,h1,h2,h3⟩:=h
 exact .inr ⟨_,its,n,h1,rfl,rfl,h2,h3⟩
def ZmU (K:PySem.W.Frag):V→List V→Hp→VK→Prop:=fun x vs H Q=>∃ l b xs zs,x=.ref l∧vs=[.ref b]∧H l=some (.lst xs)∧YN K b zs∧xs.length+zs.length≤sizeLine∧Q .non (upd H l (.lst (xs++zs)))
theorem ZkA {X:Cx}:MtM X "list.extend" (ZmU X.K):=by
 intro pins s σ H x vs v us Q I rx rv h
 obtain ⟨l,b,xs,zs,rfl,rfl,hH,⟨its2,n2,hk,hz2,r2⟩,hz,q⟩:=h
 cases rx
 obtain ⟨u,rfl,ru⟩:=rv.one
 cases ru
 obtain ⟨z,its,n,r,hl,e⟩:=I.Zfe hH
 have e2:=I.kIn b _ hk
 have hl2:=r2.length
 have hsz:its.toArray.size+its2.size≤sizeLine:=by rw [List.size_toArray,← Array.length_toList];lia
 have hlong:¬ (!its.toArray.isEmpty&&Builtin.List.listTooLong (its.toArray.size+its2.size))=true:=by
  rw [JR hsz,Bool.and_false]
  exact Bool.false_ne_true
 refine call_meets PySem.F.slot_list_extend ⟨_,e,rfl⟩ PySem.F.entry_list_extend (PySem.F.args_list_extend_2 _ _)
  (AutoSeq1.list_extend_list_tuple_0 l its.toArray n b its2 n2 hlong (by rw [List.size_toArray];lia) (by lia)) ⟨e,e2,?_⟩
 refine ⟨.non,_,I.ZkJ (its':=its++its2.toList) hH e (by simp) (r.append r2) ?_,rfl,q⟩
 rw [List.length_append]
 lia
section
variable {X:Cx}{K:PySem.W.Frag}
theorem slK (hk:X.K=K:=by rfl):SlR X (Qj K):=by subst hk;exact ZkS
theorem ixK (hk:X.K=K:=by rfl):IxR X (ZE K):=by subst hk;exact ZkI
def Zfj (K:PySem.W.Frag):List V→Hp→VK→Prop:=fun xs H Q=>∃ p ys z,xs=[.ref p]∧(SqL K H p ys∨SqT K H p ys)∧((ys.length:Nat):Int)=z∧Q (.int z) H
theorem Zgt (hk:X.K=K:=by rfl):XA X (.builtin "len") (Zfj K):=by
 subst hk
 intro pins s σ H xs us Q I r h
 obtain ⟨p,ys,z,e1,e2,e3,q⟩:=h
 exact ZdX pins s σ H xs us Q I r ⟨p,ys,e1,e2,by subst e3;exact q⟩
def ZgI (K:PySem.W.Frag):List V→Hp→VK→Prop:=fun xs H Q=>∃ p ys,xs=[.ref p]∧(SqL K H p ys∨SqT K H p ys)∧∀ l,H l=none→Q (.ref l) (upd H l (.lst ys))
theorem Zns (hk:X.K=K:=by rfl):XA X (.type "list") (ZgI K):=by subst hk;exact Zem
def Zdu (K:PySem.W.Frag):List V→Hp→VK→Prop:=fun xs H Q=>∃ p ys,xs=[.ref p]∧SqL K H p ys∧∀ l,H l=none→Q (.ref l) (upd H l (.tup ys))
theorem tupK (hk:X.K=K:=by rfl):XA X (.type "tuple") (Zdu K):=by
 subst hk
 intro pins s σ H xs us Q I r h
 obtain ⟨p,ys,e1,e2,q⟩:=h
 exact ZcC pins s σ H xs us Q I r ⟨p,ys,e1,.inl ⟨e2,q⟩⟩
end
theorem Zaf {lo c:Int}{n:Nat}{g:TG}{tt:TT}{te:TE}{vs:List Nat}{σ:L2.St}{H1:Hp}{D:Addr}{Qd:Hp→Prop}(Pv:Nat→Hp→Prop) (h0:Pv 0 (upd H1 D (.lst [])))
  (hs:∀ i H,i<n→Pv i H→g (.int (lo+(i:Nat)*c)) (wipe σ vs) H fun σ2 H2=>wipe σ2 vs=wipe σ vs∧tt σ2 H2 fun b H3 =>
   if b=true then te σ2 H3 fun y H4=>∃ acc,H4 D=some (.lst acc)∧acc.length<sizeLine∧Pv (i+1) (upd H4 D (.lst (acc++[y]))) else Pv (i+1) H3) (hd:∀ H,Pv n H→Qd H) :
  ∃ W:Nat→Nat→Hp→Prop,(∃ m,W 0 m (upd H1 D (.lst [])))∧∀ i m H,W i m H →
   ((Itc lo c n).stop i H∧Qd H)∨((Itc lo c n).go i H∧∃ Nx:Hp→Prop,(∀ H',Nx H'→∃ m',m'<m∧W (i+1) m' H')∧∀ x H',(Itc lo c n).yld i H x H'→g x (wipe σ vs) H' fun σ2 H2=>wipe σ2 vs=wipe σ vs∧tt σ2 H2 fun b H3 =>
    if b=true then te σ2 H3 fun y H4=>∃ acc,H4 D=some (.lst acc)∧acc.length<sizeLine∧Nx (upd H4 D (.lst (acc++[y]))) else Nx H3):=by
 refine ⟨fun i m H=>m=n-i∧i≤n∧Pv i H,⟨n,by simp,Nat.zero_le _,h0⟩,?_⟩
 rintro i m H ⟨rfl,hi,p⟩
 by_cases hlt:i<n
 ·refine .inr ⟨hlt,Pv (i+1),fun H' p'=>⟨n-(i+1),by lia,rfl,hlt,p'⟩,fun x H' y=>?_⟩
  obtain ⟨e,y⟩:=y
  subst e y
  exact hs i _ hlt p
 ·have e:i=n:=by lia
  subst e
  exact .inl ⟨Nat.le_refl _,hd H p⟩
theorem JN (c n:Nat) (hc:0<c) (hc2:c<1073741824) (hn:c*n<2^60):RgC 0 ((c*n:Nat):Int) (c:Int) n:=by
 have hsz:Builtin.Range.rangeSize 0 ((c*n:Nat):Int) (c:Int)=n:=by
  unfold Builtin.Range.rangeSize
  rw [if_pos (by lia)]
  by_cases h0:n=0
  ·subst h0;simp
  ·have hp:0<c*n:=Nat.mul_pos hc (by lia)
   rw [if_pos (by lia)]
   have e:((c*n:Nat):Int)-0-1=((c*n-1:Nat):Int):=by lia
   rw [e,← Int.natCast_ediv]
   have e2:(c*n-1) / c=n-1:=by
    obtain ⟨m,rfl⟩:∃ m,n=m+1:=⟨n-1,by lia⟩
    have h1:c*(m+1)-1=(c-1)+c*m:=by rw [Nat.mul_add,Nat.mul_one];lia
    rw [h1,Nat.add_mul_div_left _ _ hc,Nat.div_eq_of_lt (by lia)]
    lia
   rw [e2];lia
 have hnc:n≤c*n:=Nat.le_mul_of_pos_left _ hc
 refine ⟨by lia,by lia,?_,hsz⟩
 unfold Builtin.Range.small
 rw [hsz]
 simp only [Builtin.Range.rangeFitsLong,Bool.and_eq_true,Bool.or_eq_true,decide_eq_true_eq,beq_iff_eq,show (c:Int)>0 by lia,if_true]
 have hmm:(c:Int)*(n:Int)=((c*n:Nat):Int):=by simp
 first
  | lia
  | (rw [Int.mul_comm] at *;lia)
  | (split <;> lia)
  | trace_state
end Sg
namespace Sg
open PySem PySem.Spec PyProof.Rows L2 LX SbM
section
variable {P:Program}{w:World}{K:PySem.W.Frag}{mg:Str→Option Value}{base:Heap}{RF NT:Addr}
def Zbm:Sp:=fun vs H Q _=>∃ a z,vs=[.int a]∧Bd 1800 a∧Sb20.rounded a 1=z∧Q (.int z) H
theorem Zcv (F:Df K mg "kept_whole" (top 17) ["number"])
  (f_plus:Cal P w K mg base CX0 2 "plus" ["a","b"] QB):Cal P w K mg base CX0 3 "kept_whole" ["number"] Zbm:=by
 refine F.okS (N:=["number"]) fun S f cdv A outer s H vs Q E hr h=>?_
 obtain ⟨a,z,rfl,ha,e,k⟩:=h
 refine ⟨_,(Zf (Zm (Zg f_plus (hr.mono (by decide)) rfl Zi (Za (pv 0) (Za Zd Zb))))),?_⟩
 refine ⟨_,rfl,a,0,z,rfl,⟨ha,Bd.zero⟩,?_,k⟩
 unfold Sb20.add;rw [Int.add_zero];exact e
def ZdM:Sp:=fun vs H Q _=>∃ a z,vs=[.int a]∧(0<a∧Bd 1800 a)∧Sb20Neutral.recip a=z∧∀ H',Zq H H'→Q (.int z) H'
theorem ZcA (F:Df K mg "reciprocal" (top 18) ["a"])
  (f_power_of_two:Cal P w K mg base CX0 1 "power_of_two" ["exponent"] QF)
  (f_quotient:Cal P w K mg base CX0 2 "quotient" ["a","b"] Jg):Cal P w K mg base CX0 3 "reciprocal" ["a"] ZdM:=by
 refine F.okS (N:=["a"]) fun S f cdv A outer s H vs Q E hr h=>?_
 obtain ⟨a,z,rfl,⟨ha,hb⟩,e,k⟩:=h
 refine ⟨_,(Zf (Zm (Zg f_quotient (hr.mono (by decide)) rfl Zi (Za (Zg f_power_of_two (hr.mono (by decide)) rfl Zi (Za Zd Zb)) (Za (pv 0) Zb))))),?_⟩
 exact ⟨_,Sb20.ONE,rfl,⟨by decide,by decide⟩,by decide,_,rfl,_,a,z,rfl,⟨by unfold Bd;decide,ha,hb⟩,e,k⟩
def Zkk:Sp:=fun vs H Q _=>∃ a z,vs=[.int a]∧Bd 3500 a∧Sb20.whole a=z∧Q (.int z) H
theorem QE (F:Df K mg "whole_from_single" (top 20) ["a"])
  (f_nearest_whole:Cal P w K mg base CX0 1 "nearest_whole" ["number","bits"] ZaF)
  (c_UNIT_BITS_singles:Cst mg "UNIT_BITS_singles" (.int 149)):Cal P w K mg base CX0 2 "whole_from_single" ["a"] Zkk:=by
 refine F.okS (N:=["a"]) fun S f cdv A outer s H vs Q E hr h=>?_
 obtain ⟨a,z,rfl,ha,e,k⟩:=h
 refine ⟨_,(Zf (Zm (Zg f_nearest_whole (hr.mono (by decide)) rfl Zi (Za (pv 0) (Za (Zp c_UNIT_BITS_singles rfl) Zb))))),?_⟩
 refine ⟨_,rfl,a,149,rfl,⟨by decide,by decide,ha⟩,?_⟩
 rw [← Zik,e];exact k
def ZmK:Sp:=fun vs H Q _=>∃ a z,vs=[.int a]∧Sb20.chopped a=z∧Q (.int z) H
theorem Ju (F:Df K mg "cut_from_single" (top 21) ["a"])
  (f_cut_whole:Cal P w K mg base CX0 1 "cut_whole" ["number","bits"] ZjH)
  (c_UNIT_BITS_singles:Cst mg "UNIT_BITS_singles" (.int 149)):Cal P w K mg base CX0 2 "cut_from_single" ["a"] ZmK:=by
 refine F.okS (N:=["a"]) fun S f cdv A outer s H vs Q E hr h=>?_
 obtain ⟨a,z,rfl,e,k⟩:=h
 refine ⟨_,(Zf (Zm (Zg f_cut_whole (hr.mono (by decide)) rfl Zi (Za (pv 0) (Za (Zp c_UNIT_BITS_singles rfl) Zb))))),?_⟩
 refine ⟨_,rfl,a,149,rfl,?_⟩
 have:Sb20.cut a (2^149)=z:=e
 rw [this];exact k
def XO (K:PySem.W.Frag):Sp:=fun vs H Q _=>∃ (p q:Addr) (a0 a1 a2 b0 b1 b2 z:Int),vs=[.ref p,.ref q]∧SqL K H p ([a0,a1,a2].map V.int)∧SqL K H q ([b0,b1,b2].map V.int) ∧
 (Bd 800 a0∧Bd 800 a1∧Bd 800 a2∧Bd 800 b0∧Bd 800 b1∧Bd 800 b2)∧Sb20.add (Sb20.add (Sb20.mul a0 b0) (Sb20.mul a1 b1)) (Sb20.mul a2 b2)=z∧Q (.int z) H
theorem JM (F:Df K mg "three_products" (top 19) ["a","b"])
  (f_plus:Cal P w K mg base CX0 2 "plus" ["a","b"] QB)
  (f_times:Cal P w K mg base CX0 2 "times" ["a","b"] Xk):Cal P w K mg base CX0 3 "three_products" ["a","b"] (XO K):=by
 refine F.okS (N:=["a","b","total"]) fun S f cdv A outer s H vs Q E hr h=>?_
 obtain ⟨p,q,a0,a1,a2,b0,b1,b2,z,rfl,hp,hq,⟨x0,x1,x2,y0,y1,y2⟩,e,k⟩:=h
 refine ⟨_,(Zc (Zl (i:=2) S.nd rfl (Or.inl rfl) (Zg f_plus (hr.mono (by decide)) rfl Zi (Za (Zg f_times (hr.mono (by decide)) rfl Zi (Za (Zt (r:=ZE K) ixK (pv 0) Zd (fun _ _=>rfl)) (Za (Zt (r:=ZE K) ixK (pv 1) Zd (fun _ _=>rfl)) Zb))) (Za (Zg f_times (hr.mono (by decide)) rfl Zi (Za (Zt (r:=ZE K) ixK (pv 0) Zd (fun _ _=>rfl)) (Za (Zt (r:=ZE K) ixK (pv 1) Zd (fun _ _=>rfl)) Zb))) Zb)))) (Zf (Zm (Zg f_plus (hr.mono (by decide)) rfl Zi (Za (pv 2) (Za (Zg f_times (hr.mono (by decide)) rfl Zi (Za (Zt (r:=ZE K) ixK (pv 0) Zd (fun _ _=>rfl)) (Za (Zt (r:=ZE K) ixK (pv 1) Zd (fun _ _=>rfl)) Zb))) Zb)))))),?_⟩
 have wk:∀ {x:Int},Bd 800 x→Bd 900 x:=fun h=>h.mono (by decide)
 have m0:=x0.smul y0
 have m1:=x1.smul y1
 have m2:=x2.smul y2
 have wm:∀ {x:Int},Bd (800+800-149+2) x→Bd 1800 x:=fun h=>h.mono (by decide)
 have i0:atI ([a0,a1,a2].map V.int) 0=some (.int a0):=Ys (i:=0) rfl
 have i1:atI ([a0,a1,a2].map V.int) 1=some (.int a1):=Ys (i:=1) rfl
 have i2:atI ([a0,a1,a2].map V.int) 2=some (.int a2):=Ys (i:=2) rfl
 have j0:atI ([b0,b1,b2].map V.int) 0=some (.int b0):=Ys (i:=0) rfl
 have j1:atI ([b0,b1,b2].map V.int) 1=some (.int b1):=Ys (i:=1) rfl
 have j2:atI ([b0,b1,b2].map V.int) 2=some (.int b2):=Ys (i:=2) rfl
 refine ⟨_,rfl,p,_,_,_,rfl,rfl,hp,i0,_,rfl,q,_,_,_,rfl,rfl,hq,j0,a0,b0,_,rfl,⟨wk x0,wk y0⟩,rfl,_,rfl,p,_,_,_,rfl,rfl,hp,i1,_,rfl,q,_,_,_,rfl,rfl,hq,j1,a1,b1,_,rfl,⟨wk x1,wk y1⟩,rfl,_,_,_,rfl,⟨wm m0,wm m1⟩,rfl,?_⟩
 refine ⟨_,rfl,_,rfl,p,_,_,_,rfl,rfl,hp,i2,_,rfl,q,_,_,_,rfl,rfl,hq,j2,a2,b2,_,rfl,⟨wk x2,wk y2⟩,rfl,_,_,_,rfl,⟨?_,wm m2⟩,e,k⟩
 exact (m0.ZcB m1).mono (by decide)
def Zgk:Sp:=fun vs H Q _=>∃ n z,vs=[.int n]∧(0<n∧Bd 1900 n)∧((Sb20Neutral.isqrt n.toNat:Nat):Int)=z∧Q (.int z) H
theorem Zcs (F:Df K mg "whole_root" (top 22) ["number"]):Cal P w K mg base CX0 1 "whole_root" ["number"] Zgk:=by
 refine F.okS (N:=["number","guess","lower"]) fun S f cdv A outer s H vs Q E hr h=>?_
 obtain ⟨a,z,rfl,⟨ha,hb⟩,e,k⟩:=h
 refine ⟨_,(Zc (Zl (i:=1) S.nd rfl (Or.inl rfl) (Zj QG Zd (Zj Qc (Zj Yh (Zbi PySem.F.plainAttrs_int PySem.F.slot_int_bit_length PySem.F.type_int_bit_length Zeu (pv 0)) Zd) Zd))) (Zc (Zl (i:=2) S.nd rfl (Or.inl rfl) (Zj Qc (Zj Yh (pv 1) (Zj Qc (pv 0) (pv 1))) Zd)) (Zc (Zer PassesOwn.never (ZC ltC (pv 2) (pv 1) (ZD _)) (Zc (Zl (i:=1) S.nd rfl (Or.inl rfl) (pv 2)) (Zf (Zl (i:=2) S.nd rfl (Or.inl rfl) (Zj Qc (Zj Yh (pv 1) (Zj Qc (pv 0) (pv 1))) Zd))))) (Zf (Zm (pv 1)))))),?_⟩
 obtain ⟨n,rfl⟩:=Int.eq_ofNat_of_zero_le (Int.le_of_lt ha)
 rw [Int.toNat_natCast] at e
 have hn:0<n:=by lia
 have hn2:n<2^1900:=by simpa [Bd] using hb
 have hr:=XX n
 generalize Sb20Neutral.isqrt n=r at *
 have hr0:=ZjD hr hn
 have hnb:nb n≤1900:=Zdh hn2
 have step:∀ g:Nat,0<g→(((g:Int)+(n:Int) / (g:Int)) / 2)=(((g+n / g) / 2:Nat):Int):=fun g _=>by
  rw [← Int.natCast_ediv,← Int.natCast_add]
  exact (Int.natCast_ediv _ 2).symm
 have g0:0<2^((nb n+1) / 2):=Nat.two_pow_pos _
 have smg:∀ g:Nat,g≤2^1000→Sm (g:Int):=fun g h=>Nat.lt_of_le_of_lt h (Nat.pow_lt_pow_right (by decide) (by decide))
 have g1:2^((nb n+1) / 2)≤2^1000:=Nat.pow_le_pow_right (by decide) (by lia)
 refine ⟨_,rfl,rfl,_,_,rfl,rfl,rfl,_,_,_,rfl,rfl,rfl,_,_,(((nb n+1) / 2:Nat):Int),rfl,rfl,⟨by decide,by unfold Sm;decide⟩,?_,_,_,((2^((nb n+1) / 2):Nat):Int),rfl,rfl,⟨by lia,by lia,by unfold Sm;decide⟩,?_,?_⟩
 ·rw [QT,Int.natAbs_natCast]
  lia
 ·rw [Int.one_mul,Int.toNat_natCast];simp
 refine ⟨_,rfl,_,rfl,_,rfl,_,_,_,rfl,rfl,⟨by lia,smg _ g1⟩,rfl,_,_,_,rfl,rfl,rfl,_,_,_,rfl,rfl,⟨by decide,by unfold Sm;decide⟩,step _ g0,?_⟩
 refine Zfp (fun σ H'=>H'=H∧∃ g:Nat,r≤g∧g≤2^1000∧σ=[some (.int (n:Int)),some (.int (g:Nat)),some (.int (((g+n / g) / 2:Nat):Int))])
  (fun σ _=>match σ with | [_,some (.int g),_]=>g.toNat | _=>0) ⟨rfl,_,ZdO hr.1,g1,rfl⟩ ?_ ?_
 ·rintro σ H' ⟨rfl,g,h1,h2,rfl⟩
  refine ⟨_,rfl,_,rfl,_,_,rfl,rfl,fun b hb=>⟨_,rfl,Ye (fun h=>?_) fun h=>?_⟩⟩
  ·have hlt:(g+n / g) / 2<g:=by have:(((g+n / g) / 2:Nat):Int)<(g:Int):=hb.mp h;lia
   have hge:r≤(g+n / g) / 2:=Zic (by lia) hr.1
   generalize (g+n / g) / 2=l at *
   refine ⟨_,rfl,?_⟩
   refine ⟨_,rfl,_,rfl,_,rfl,_,_,_,rfl,rfl,⟨by lia,smg l (by lia)⟩,rfl,_,_,_,rfl,rfl,rfl,_,_,_,rfl,rfl,⟨by decide,by unfold Sm;decide⟩,step l (by lia),?_⟩
   exact ⟨⟨rfl,l,hge,by lia,rfl⟩,by show ((l:Nat):Int).toNat<((g:Nat):Int).toNat;lia⟩
  ·have hge:g≤(g+n / g) / 2:=by
    have:¬ (((g+n / g) / 2:Nat):Int)<(g:Int):=fun q=>h (hb.mpr q)
    lia
   have eg:g=r:=ZfV (by lia) hr h1 hge
   exact ⟨_,rfl,by rw [eg,e];exact k⟩
 ·rintro σ H' Q1 Q2 hq ⟨v,e1,u,e2,i,j,e3,e4,q⟩
  refine ⟨v,e1,u,e2,i,j,e3,e4,fun b hb=>?_⟩
  obtain ⟨b',e5,q'⟩:=q b hb
  exact ⟨b',e5,hq _ _ q'⟩
def Zeg:Sp:=fun vs H Q _=>∃ n z,vs=[.int n]∧(0<n∧Bd 300 n)∧Sb20Neutral.root n=z∧Q (.int z) H
theorem Jt (F:Df K mg "reciprocal_root" (top 23) ["a"])
  (f_whole_root:Cal P w K mg base CX0 1 "whole_root" ["number"] Zgk)
  (c_KEPT_BITS:Cst mg "KEPT_BITS" (.int 24))
  (c_UNIT_BITS_singles:Cst mg "UNIT_BITS_singles" (.int 149))
  (b_max:mg "max"=none):Cal P w K mg base CX0 2 "reciprocal_root" ["a"] Zeg:=by
 refine F.okS (N:=["a","size","spare"]) fun S f cdv A outer s H vs Q E hr h=>?_
 obtain ⟨a,z,rfl,⟨ha,hb⟩,e,k⟩:=h
 refine ⟨_,(Zc (Zl (i:=1) S.nd rfl (Or.inl rfl) (Zg f_whole_root (hr.mono (by decide)) rfl Zi (Za (Zj Qc (Zj QG Zd (Zj Xu Zd (Zp c_UNIT_BITS_singles rfl))) (pv 0)) Zb))) (Zc (Zl (i:=2) S.nd rfl (Or.inl rfl) (ZP (ZiT rfl) (by rfl) b_max boot_max (Za (Zj YK (Zbi PySem.F.plainAttrs_int PySem.F.slot_int_bit_length PySem.F.type_int_bit_length Zeu (pv 1)) (Zp c_KEPT_BITS rfl)) (Za Zd Zb)))) (Zf (Zm (Zj QG (Zj Jz (pv 1) (pv 2)) (pv 2)))))),?_⟩
 obtain ⟨n,rfl⟩:=Int.eq_ofNat_of_zero_le (Int.le_of_lt ha)
 have hn:0<n:=by lia
 have hn2:n<2^300:=by simpa [Bd] using hb
 rw [Zcb n hn] at e
 have hM:0<2^447 / n:=Nat.div_pos (Nat.le_of_lt (Nat.lt_trans hn2 (Nat.pow_lt_pow_right (by decide) (by decide)))) hn
 have hM2:2^447 / n<2^448:=Nat.lt_of_le_of_lt (Nat.div_le_self _ _) (Nat.pow_lt_pow_right (by decide) (by decide))
 have hq:=(XX (2^447 / n)).1
 refine ⟨_,_,(447:Int),rfl,rfl,⟨by unfold Sm;decide,by unfold Sm;decide⟩,by decide,_,_,((2^447:Nat):Int),rfl,rfl,⟨by decide,by decide,by unfold Sm;decide⟩,by decide,_,rfl,_,_,((2^447 / n:Nat):Int),rfl,rfl,⟨ha,sm hb⟩,(Int.natCast_ediv _ _).symm,_,_,rfl,⟨by lia,?_⟩,rfl,?_⟩
 ·exact (show Bd 448 ((2^447 / n:Nat):Int) from hM2).mono (by decide)
 rw [Int.toNat_natCast]
 have hsz:Sb20Neutral.isqrt (2^447 / n)<2^448:=by
  refine Nat.lt_of_le_of_lt ?_ hM2
  rcases Nat.eq_zero_or_pos (Sb20Neutral.isqrt (2^447 / n)) with h0 | h0
  ·lia
  ·exact Nat.le_trans (Nat.le_mul_of_pos_right _ h0) hq
 generalize Sb20Neutral.isqrt (2^447 / n)=m at *
 have hnb:nb m≤448:=Zdh hsz
 have es:max (((Builtin.Int.intBits ((m:Nat):Int):Nat):Int)-24) 0=((nb m-24:Nat):Int):=by rw [QT,Int.natAbs_natCast];lia
 refine ⟨_,rfl,rfl,_,_,rfl,rfl,rfl,_,_,_,rfl,rfl,rfl,_,_,_,rfl,es,?_⟩
 refine ⟨_,rfl,_,rfl,_,_,_,rfl,rfl,by lia,Xb m _,_,rfl,_,_,_,rfl,rfl,⟨by lia,by lia,?_⟩,ZeF _ _,by rw [e];exact k⟩
 show m / 2^(nb m-24)<2^4000
 exact Nat.lt_of_le_of_lt (Nat.div_le_self _ _) (Nat.lt_trans hsz (Nat.pow_lt_pow_right (by decide) (by decide)))
end
end Sg
namespace Sg
open PySem PySem.Spec PyProof.Rows L2 LX SbM
section
variable {P:Program}{w:World}{K:PySem.W.Frag}{mg:Str→Option Value}{base:Heap}{RF NT:Addr}
def Zlr (H':Hp) (as:List Addr) (ns:List Int):Prop:=∀ (i:Nat) (b:Addr),as[i]?=some b→H' b=some (.lst (((ns.drop (3*i)).take 3).map V.int))
def JK (K:PySem.W.Frag):Sp:=fun vs H Q _=>∃ (a:Addr) (ns:List Int) (n:Nat),vs=[.ref a]∧SqL K H a (ns.map V.int)∧ns.length=3*n∧n≤100000 ∧
 ∀ (H':Hp) (p:Addr) (as:List Addr),Zq H H'→H p=none→H' p=some (.lst (as.map V.ref))→as.length=n→Zlr H' as ns→Q (.ref p) H'
theorem ZhM (F:Df K mg "threes" (top 57) ["numbers"])
  (b_len:mg "len"=none)
  (b_range:mg "range"=none):Cal P w K mg base CX0 1 "threes" ["numbers"] (JK K):=by
 refine F.okS (N:=["numbers","start"]) fun S f cdv A outer s H vs Q E hr h=>?_
 obtain ⟨a,ns,n,rfl,ha,hlen,hn,k⟩:=h
 refine ⟨_,(Zf (Zm (Qg (own:=[("start",1)]) rfl S.nd (Xs rfl b_range (Za Zd (Za (ZP (r:=Zfj K) Zgt (by rfl) b_len PySem.boot_len (Za (pv 0) Zb)) (Za Zd Zb)))) (show Yj ["numbers","start"] (Zk (top 57)) _ _ from ⟨rfl,by decide +kernel,by decide +kernel,by decide +kernel,by decide +kernel⟩) (fun _ _ _ _ _=>ZO (i:=1) S.nd rfl (Or.inl rfl)) (fun _ _ _ _ _=>ZY) (fun _ _ _ _ _=>(ZT (r:=Qj K) slK (pv 0) (ZG (pv 1)) (ZG (Zj Yh (pv 1) Zd))))))),?_⟩
 refine ⟨_,rfl,a,_,((3*n:Nat):Int),rfl,.inl ha,by rw [List.length_map,hlen],_,_,_,n,rfl,?_,?_⟩
 ·exact JN 3 n (by decide) (by decide) (by lia)
 intro D hD
 refine Zaf (lo:=0) (c:=3) (n:=n) (fun i H'=>∃ as:List Addr,Zq H H'∧H' D=some (.lst (as.map V.ref))∧as.length=i∧D∉as∧Zlr H' as ns) ⟨[],Zh hD,Ze,rfl,by simp,fun i b e=>by simp at e⟩ ?_ ?_
 ·rintro i H' hi ⟨as,sm',hD',hl,hDa,hR⟩
  refine ⟨rfl,YG ?_⟩
  have e1:(0:Int)+((i:Nat):Int)*3=((3*i:Nat):Int):=by lia
  refine ⟨_,rfl,_,rfl,_,rfl,_,rfl,_,_,((3*i+3:Nat):Int),rfl,rfl,by lia,_,rfl,a,_,rfl,sm'.seq ha,fun q hq=>?_⟩
  rw [e1,Xh (by lia) (by rw [List.length_map];lia)]
  have nq:D≠q:=Zs hD' hq
  refine ⟨as.map V.ref,by rw [Zn nq];exact hD',by rw [List.length_map];exact Nat.lt_of_lt_of_le (show as.length<16777216 by lia) (by decide),as++[q],?_,?_,?_,?_,?_⟩
  ·intro b o e
   rw [Zn (Zs e hD),Zn (Zs (sm' b o e) hq)]
   exact sm' b o e
  ·rw [Ze];simp
  ·simp [hl]
  ·simp only [List.mem_append,List.mem_singleton]
   rintro (z | z)
   ·exact hDa z
   ·exact nq z
  ·intro j b e
   by_cases hj:j<as.length
   ·rw [List.getElem?_append_left hj] at e
    have e2:=hR j b e
    have nb:b≠D:=fun z=>hDa (by rw [← z];exact List.mem_of_getElem? e)
    rw [Zn nb,Zn (Zs e2 hq)]
    exact e2
   ·rw [List.getElem?_append_right (by lia)] at e
    have hji:j-as.length=0:=by
     have:=(List.getElem?_eq_some_iff.mp e).1
     simp at this;lia
    rw [hji] at e
    have eb:b=q:=by simpa using e.symm
    have ej:j=i:=by lia
    subst eb ej
    rw [Zn nq.symm,Ze,List.map_take,List.map_drop,show 3*j+3-3*j=3 by lia]
 ·rintro H' ⟨as,sm',hD',hl,_,hR⟩
  exact k H' D as sm' hD hD' hl hR
def Zco (K:PySem.W.Frag) (H:Hp) (a:Addr) (ms:List Int):Prop:=SqL K H a (ms.map V.int)∧ms.length=16∧∀ x∈ms,Bd 171 x
def Zef (K:PySem.W.Frag) (H:Hp) (a:Addr) (x y z:Int):Prop:=SqL K H a ([x,y,z].map V.int)∧Bd 171 x∧Bd 171 y∧Bd 171 z
theorem Zco.same {H H':Hp}{a:Addr}{ms:List Int}(h:Zco K H a ms) (s:Zq H H'):Zco K H' a ms:=⟨s.seq h.1,h.2⟩
theorem Zef.same {H H':Hp}{a:Addr}{x y z:Int}(h:Zef K H a x y z) (s:Zq H H'):Zef K H' a x y z:=⟨s.seq h.1,h.2⟩
def Zhm (K:PySem.W.Frag):Sp:=fun vs H Q _=>∃ (p q:Addr) (r:Nat) (ms:List Int) (x y z v:Int),vs=[.ref p,.int r,.ref q]∧Zco K H p ms∧Zef K H q x y z∧r<4∧Sb20.row ms r x y z=v∧∀ H',Zq H H'→Q (.int v) H'
theorem four {ms:List Int}{r:Nat}(h:ms.length=16) (hr:r<4):(ms.drop (4*r)).take 3=[Sb20.at_ ms (4*r),Sb20.at_ ms (4*r+1),Sb20.at_ ms (4*r+2)]∧ms[4*r+3]?=some (Sb20.at_ ms (4*r+3)):=by
 match ms,h with
 | [a0,a1,a2,a3,a4,a5,a6,a7,a8,a9,a10,a11,a12,a13,a14,a15],_ =>
  match r,hr with
  | 0,_=>exact ⟨rfl,rfl⟩
  | 1,_=>exact ⟨rfl,rfl⟩
  | 2,_=>exact ⟨rfl,rfl⟩
  | 3,_=>exact ⟨rfl,rfl⟩
theorem Zht (F:Df K mg "row_at" (top 58) ["matrix","row","point"])
  (f_plus:Cal P w K mg base CX0 2 "plus" ["a","b"] QB)
  (f_three_products:Cal P w K mg base CX0 3 "three_products" ["a","b"] (XO K)):Cal P w K mg base CX0 4 "row_at" ["matrix","row","point"] (Zhm K):=by
 refine F.okS (N:=["matrix","row","point","start"]) fun S f cdv A outer s H vs Q E hr h=>?_
 obtain ⟨p,q,r,ms,x,y,z,v,rfl,⟨hp,h16,hm⟩,⟨hq,hx,hy,hz⟩,h4,e,k⟩:=h
 refine ⟨_,(Zc (Zl (i:=3) S.nd rfl (Or.inl rfl) (Zj Xu Zd (pv 1))) (Zf (Zm (Zg f_plus (hr.mono (by decide)) rfl Zi (Za (Zg f_three_products (hr.mono (by decide)) rfl Zi (Za (ZT (r:=Qj K) slK (pv 0) (ZG (pv 3)) (ZG (Zj Yh (pv 3) Zd))) (Za (pv 2) Zb))) (Za (Zt (r:=ZE K) ixK (pv 0) (Zj Yh (pv 3) Zd) (fun _ _=>rfl)) Zb)))))),?_⟩
 obtain ⟨e3,e4⟩:=four h16 h4
 have b0:Bd 171 (Sb20.at_ ms (4*r)):=Je hm
 have b1:Bd 171 (Sb20.at_ ms (4*r+1)):=Je hm
 have b2:Bd 171 (Sb20.at_ ms (4*r+2)):=Je hm
 have b3:Bd 171 (Sb20.at_ ms (4*r+3)):=Je hm
 refine ⟨_,rfl,_,_,((4*r:Nat):Int),rfl,rfl,⟨by unfold Sm;decide,?_⟩,by lia,?_⟩
 ·show r<2^4000
  exact Nat.lt_trans h4 (Nat.lt_trans (by decide:4<2^3) (Nat.pow_lt_pow_right (by decide) (by decide)))
 refine ⟨_,rfl,_,rfl,_,rfl,_,rfl,_,_,((4*r+3:Nat):Int),rfl,rfl,by lia,_,rfl,p,_,rfl,hp,fun l hl=>?_⟩
 rw [Xh (by lia) (by rw [List.length_map];lia),show 4*r+3-4*r=3 by lia,← List.map_drop,← List.map_take,e3]
 have sm':Zq H (upd H l (.lst ([Sb20.at_ ms (4*r),Sb20.at_ ms (4*r+1),Sb20.at_ ms (4*r+2)].map V.int))):=Zh hl
 have w8:∀ {x:Int},Bd 171 x→Bd 800 x:=fun h=>h.mono (by decide)
 refine ⟨_,rfl,l,q,_,_,_,x,y,z,_,rfl,SqL.of Ze,sm'.seq hq,⟨w8 b0,w8 b1,w8 b2,w8 hx,w8 hy,w8 hz⟩,rfl,?_⟩
 refine ⟨_,rfl,_,rfl,_,_,((4*r+3:Nat):Int),rfl,rfl,by lia,p,_,_,_,rfl,rfl,sm'.seq hp,Ys e4,_,_,v,rfl,⟨?_,b3.mono (by decide)⟩,e,k _ sm'⟩
 have p1:Bd 195 _:=(b0.smul hx).mono (by decide)
 have p2:Bd 195 _:=(b1.smul hy).mono (by decide)
 have p3:Bd 198 _:=(b2.smul hz).mono (by decide)
 exact (((p1.ZcB p2).mono (by decide:195+3≤198)).ZcB p3).mono (by decide)
def Zck (K:PySem.W.Frag):Sp:=fun vs H Q _=>∃ (p q:Addr) (ms:List Int) (x y z:Int),vs=[.ref p,.ref q]∧Zco K H p ms∧Zef K H q x y z∧∀ H',Zq H H'→∀ b:Bool,(b=true↔Sb20.row ms 3 x y z*1024<Sb20.ONE)→Q (.bl b) H'
theorem Zdq (F:Df K mg "is_behind" (top 59) ["matrix","point"])
  (f_power_of_two:Cal P w K mg base CX0 1 "power_of_two" ["exponent"] QF)
  (f_row_at:Cal P w K mg base CX0 4 "row_at" ["matrix","row","point"] (Zhm K)):Cal P w K mg base CX0 5 "is_behind" ["matrix","point"] (Zck K):=by
 refine F.okS (N:=["matrix","point"]) fun S f cdv A outer s H vs Q E hr h=>?_
 obtain ⟨p,q,ms,x,y,z,rfl,hp,hq,k⟩:=h
 refine ⟨_,(Zf (Zm (QS ltC (Zg f_row_at (hr.mono (by decide)) rfl Zi (Za (pv 0) (Za Zd (Za (pv 1) Zb)))) (Zg f_power_of_two (hr.mono (by decide)) rfl Zi (Za (YJ Qk Zd) Zb)) (ZD _)))),?_⟩
 refine ⟨_,rfl,_,rfl,p,q,3,ms,x,y,z,_,rfl,hp,hq,by decide,rfl,fun H' sm'=>?_⟩
 refine ⟨_,_,rfl,rfl,_,(2^139:Int),rfl,⟨by decide,by decide⟩,by decide,_,_,rfl,rfl,fun b hb=>k H' sm' b ?_⟩
 rw [hb,Zfw]
 lia
def ZgX (ms vw:List Int) (x y z:Int):List Int :=
 [Sb20.add (Sb20.at_ vw 0) (Sb20.mul (Sb20.mul (Sb20.row ms 0 x y z) (Sb20Neutral.recip (Sb20.row ms 3 x y z))) (Sb20.at_ vw 2)),Sb20.add (Sb20.at_ vw 1) (Sb20.mul (Sb20.mul (Sb20.row ms 1 x y z) (Sb20Neutral.recip (Sb20.row ms 3 x y z))) (Sb20.at_ vw 3)),
  Sb20.mul (Sb20.row ms 2 x y z) (Sb20Neutral.recip (Sb20.row ms 3 x y z)),Sb20Neutral.recip (Sb20.row ms 3 x y z)]
def ZiK (K:PySem.W.Frag) (H:Hp) (a:Addr) (vw:List Int):Prop:=SqL K H a (vw.map V.int)∧vw.length=4∧∀ x∈vw,Bd 171 x
theorem ZiK.same {H H':Hp}{a:Addr}{vw:List Int}(h:ZiK K H a vw) (s:Zq H H'):ZiK K H' a vw:=⟨s.seq h.1,h.2⟩
def Zgj (K:PySem.W.Frag):Sp:=fun vs H Q _=>∃ (p v q:Addr) (ms vw:List Int) (x y z:Int),vs=[.ref p,.ref v,.ref q]∧Zco K H p ms∧ZiK K H v vw∧Zef K H q x y z∧¬ Sb20.row ms 3 x y z*1024<Sb20.ONE ∧
 ∀ (H':Hp) (l:Addr),Zq H H'→H l=none→H' l=some (.lst ((ZgX ms vw x y z).map V.int))→Q (.ref l) H'
theorem ZgB {vw:List Int}{i:Nat}(h:vw.length=4) (hi:i<4):vw[i]?=some (Sb20.at_ vw i):=by
 match vw,h with
 | [a0,a1,a2,a3],_ =>
  match i,hi with
  | 0,_=>rfl
  | 1,_=>rfl
  | 2,_=>rfl
  | 3,_=>rfl
theorem ZiZ {w:Int}(h0:0<w):Bd 305 (Sb20Neutral.recip w):=by
 unfold Sb20Neutral.recip
 exact (Bd.sdiv (k:=150) (show Bd 150 Sb20.ONE by unfold Bd;decide) (by lia)).mono (by decide)
theorem Zcu (F:Df K mg "seen_point" (top 60) ["matrix","view","point"])
  (f_plus:Cal P w K mg base CX0 2 "plus" ["a","b"] QB)
  (f_reciprocal:Cal P w K mg base CX0 3 "reciprocal" ["a"] ZdM)
  (f_row_at:Cal P w K mg base CX0 4 "row_at" ["matrix","row","point"] (Zhm K))
  (f_times:Cal P w K mg base CX0 2 "times" ["a","b"] Xk):Cal P w K mg base CX0 5 "seen_point" ["matrix","view","point"] (Zgj K):=by
 refine F.okS (N:=["matrix","view","point","r","x","y","z"]) fun S f cdv A outer s H vs Q E hr h=>?_
 obtain ⟨p,v,q,ms,vw,x,y,z,rfl,hp,hv,hq,hw,k⟩:=h
 refine ⟨_,(Zc (Zl (i:=3) S.nd rfl (Or.inl rfl) (Zg f_reciprocal (hr.mono (by decide)) rfl Zi (Za (Zg f_row_at (hr.mono (by decide)) rfl Zi (Za (pv 0) (Za Zd (Za (pv 2) Zb)))) Zb))) (Zc (Zl (i:=4) S.nd rfl (Or.inl rfl) (Zg f_times (hr.mono (by decide)) rfl Zi (Za (Zg f_row_at (hr.mono (by decide)) rfl Zi (Za (pv 0) (Za Zd (Za (pv 2) Zb)))) (Za (pv 3) Zb)))) (Zc (Zl (i:=5) S.nd rfl (Or.inl rfl) (Zg f_times (hr.mono (by decide)) rfl Zi (Za (Zg f_row_at (hr.mono (by decide)) rfl Zi (Za (pv 0) (Za Zd (Za (pv 2) Zb)))) (Za (pv 3) Zb)))) (Zc (Zl (i:=6) S.nd rfl (Or.inl rfl) (Zg f_times (hr.mono (by decide)) rfl Zi (Za (Zg f_row_at (hr.mono (by decide)) rfl Zi (Za (pv 0) (Za Zd (Za (pv 2) Zb)))) (Za (pv 3) Zb)))) (Zf (Zm (ZL (Za (Zg f_plus (hr.mono (by decide)) rfl Zi (Za (Zt (r:=ZE K) ixK (pv 1) Zd (fun _ _=>rfl)) (Za (Zg f_times (hr.mono (by decide)) rfl Zi (Za (pv 4) (Za (Zt (r:=ZE K) ixK (pv 1) Zd (fun _ _=>rfl)) Zb))) Zb))) (Za (Zg f_plus (hr.mono (by decide)) rfl Zi (Za (Zt (r:=ZE K) ixK (pv 1) Zd (fun _ _=>rfl)) (Za (Zg f_times (hr.mono (by decide)) rfl Zi (Za (pv 5) (Za (Zt (r:=ZE K) ixK (pv 1) Zd (fun _ _=>rfl)) Zb))) Zb))) (Za (pv 6) (Za (pv 3) Zb))))))))))),?_⟩
 have bw:∀ i,Bd 230 (Sb20.row ms i x y z):=fun i=>ZjK hp.2.2 hq.2.1 hq.2.2.1 hq.2.2.2
 have bv:∀ i,Bd 171 (Sb20.at_ vw i):=fun i=>Je hv.2.2
 have w0:0<Sb20.row ms 3 x y z:=by
  have:(0:Int)<Sb20.ONE:=by decide
  lia
 have br:=ZiZ w0
 unfold ZgX at k
 refine ⟨_,rfl,_,rfl,p,q,3,ms,x,y,z,_,rfl,hp,hq,by decide,rfl,fun H0 s0=>⟨_,_,rfl,⟨w0,(bw 3).mono (by decide)⟩,rfl,fun H1 s01=>?_⟩⟩
 have s1:=s0.trans s01
 generalize Sb20Neutral.recip (Sb20.row ms 3 x y z)=r at *
 have wr:Bd 900 r:=br.mono (by decide)
 have ww:∀ i,Bd 900 (Sb20.row ms i x y z):=fun i=>(bw i).mono (by decide)
 refine ⟨_,rfl,_,rfl,p,q,0,ms,x,y,z,_,rfl,hp.same s1,hq.same s1,by decide,rfl,fun H2 s2=>⟨_,rfl,_,_,_,rfl,⟨ww 0,wr⟩,rfl,?_⟩⟩
 have s2:=s1.trans s2
 refine ⟨_,rfl,_,rfl,p,q,1,ms,x,y,z,_,rfl,hp.same s2,hq.same s2,by decide,rfl,fun H3 s3=>⟨_,rfl,_,_,_,rfl,⟨ww 1,wr⟩,rfl,?_⟩⟩
 have s3:=s2.trans s3
 refine ⟨_,rfl,_,rfl,p,q,2,ms,x,y,z,_,rfl,hp.same s3,hq.same s3,by decide,rfl,fun H4 s4=>⟨_,rfl,_,_,_,rfl,⟨ww 2,wr⟩,rfl,?_⟩⟩
 have s4:=s3.trans s4
 have hv4:=(hv.same s4).1
 have bm:∀ i,Bd 388 (Sb20.mul (Sb20.row ms i x y z) r):=fun i=>((bw i).smul br).mono (by decide)
 have bm2:∀ i j,Bd 1800 (Sb20.mul (Sb20.mul (Sb20.row ms i x y z) r) (Sb20.at_ vw j)):=fun i j=>((bm i).smul (bv j)).mono (by decide)
 have wb:∀ i,Bd 900 (Sb20.mul (Sb20.row ms i x y z) r):=fun i=>(bm i).mono (by decide)
 have wv:∀ i,Bd 900 (Sb20.at_ vw i):=fun i=>(bv i).mono (by decide)
 have wv2:∀ i,Bd 1800 (Sb20.at_ vw i):=fun i=>(bv i).mono (by decide)
 have v0:atI (vw.map V.int) 0=some (.int (Sb20.at_ vw 0)):=Ys (i:=0) (ZgB hv.2.1 (by decide))
 have v1:atI (vw.map V.int) 1=some (.int (Sb20.at_ vw 1)):=Ys (i:=1) (ZgB hv.2.1 (by decide))
 have v2:atI (vw.map V.int) 2=some (.int (Sb20.at_ vw 2)):=Ys (i:=2) (ZgB hv.2.1 (by decide))
 have v3:atI (vw.map V.int) 3=some (.int (Sb20.at_ vw 3)):=Ys (i:=3) (ZgB hv.2.1 (by decide))
 refine ⟨_,rfl,v,_,_,_,rfl,rfl,hv4,v0,_,rfl,_,rfl,v,_,_,_,rfl,rfl,hv4,v2,_,_,_,rfl,⟨wb 0,wv 2⟩,rfl,_,_,_,rfl,⟨wv2 0,bm2 0 2⟩,rfl,?_⟩
 refine ⟨_,rfl,v,_,_,_,rfl,rfl,hv4,v1,_,rfl,_,rfl,v,_,_,_,rfl,rfl,hv4,v3,_,_,_,rfl,⟨wb 1,wv 3⟩,rfl,_,_,_,rfl,⟨wv2 1,bm2 1 3⟩,rfl,?_⟩
 refine ⟨_,rfl,_,rfl,(by show 4≤sizeLine;decide),fun l hl=>?_⟩
 exact k _ l (Zr s4 (s4.free hl)) (s4.free hl) Ze
theorem ZnK {H:Hp}{D:Addr}{a b:HO}:upd (upd H D a) D b=upd H D b:=by
 funext c
 unfold upd
 split <;> rfl
theorem Ji:∀ {n:Nat}{gs:List Int},gs.length=3*n→(Sb20.threes gs).length=n
 | 0,[],_=>rfl
 | n+1,x::y::z::r,h=>by
  show (Sb20.threes r).length+1=n+1
  rw [Ji (n:=n) (by simp at h;lia)]
 | 0,_::_,h=>by simp at h
 | n+1,[],h=>by simp at h
 | n+1,[_],h=>by simp at h;lia
 | n+1,[_,_],h=>by simp at h;lia
theorem XD:∀ {n i:Nat}{gs:List Int},gs.length=3*n→i<n→∃ x y z,(Sb20.threes gs)[i]?=some (x,y,z)∧(gs.drop (3*i)).take 3=[x,y,z]∧x∈gs∧y∈gs∧z∈gs
 | 0,_,_,_,h=>by lia
 | n+1,0,x::y::z::r,_,_=>⟨x,y,z,rfl,rfl,by simp,by simp,by simp⟩
 | n+1,i+1,x::y::z::r,h,hi=>by
  obtain ⟨a,b,c,h1,h2,h3,h4,h5⟩:=XD (n:=n) (i:=i) (gs:=r) (by simp at h;lia) (by lia)
  refine ⟨a,b,c,h1,?_,by simp [h3],by simp [h4],by simp [h5]⟩
  rw [show 3*(i+1)=3*i+3 by lia]
  exact h2
 | n+1,_,[],h,_=>by simp at h
 | n+1,_,[_],h,_=>by simp at h;lia
 | n+1,_,[_,_],h,_=>by simp at h;lia
theorem take_snoc {α:Type}{l:List α}{i:Nat}{x:α}(h:l[i]?=some x):l.take (i+1)=l.take i++[x]:=by
 rw [List.take_succ,h];rfl
def ZeW (ms vw:List Int) (p:Int×Int×Int):List Int:=if Sb20.row ms 3 p.1 p.2.1 p.2.2*1024<Sb20.ONE then [0,0,0,0] else ZgX ms vw p.1 p.2.1 p.2.2
def front (ms:List Int) (p:Int×Int×Int):Bool:=decide (Sb20.ONE≤Sb20.row ms 3 p.1 p.2.1 p.2.2*1024)
theorem Zfq (ms vw:List Int) (p:Int×Int×Int):(ZeW ms vw p).length=4:=by unfold ZeW;split <;> rfl
theorem QI {α:Type}{f:α→List Int}(h:∀ p,(f p).length=4):∀ l:List α,(l.flatMap f).length=4*l.length
 | []=>rfl
 | a::r=>by rw [List.flatMap_cons,List.length_append,h,QI h r,List.length_cons];lia
def Zej (K:PySem.W.Frag):Sp:=fun vs H Q _=>∃ (p v g:Addr) (ms vw gs:List Int) (n:Nat),vs=[.ref p,.ref v,.ref g]∧Zco K H p ms∧ZiK K H v vw∧SqL K H g (gs.map V.int)∧gs.length=3*n∧n≤256∧(∀ x∈gs,Bd 171 x) ∧
 ∀ (H':Hp) (l:Addr),Zq H H'→H l=none→H' l=some (.lst (((((Sb20.threes gs).filter (front ms)).length:Int)::(Sb20.threes gs).flatMap (ZeW ms vw)).map V.int))→Q (.ref l) H'
theorem ZaN (F:Df K mg "moved_points" (top 61) ["matrix","view","numbers"])
  (f_is_behind:Cal P w K mg base CX0 5 "is_behind" ["matrix","point"] (Zck K))
  (f_seen_point:Cal P w K mg base CX0 5 "seen_point" ["matrix","view","point"] (Zgj K))
  (f_threes:Cal P w K mg base CX0 1 "threes" ["numbers"] (JK K))
  {tZEROS:Addr}(c_ZEROS:Cst mg "ZEROS" (.ref tZEROS)) (k_ZEROS:YN K tZEROS [.int 0,.int 0,.int 0,.int 0]):Cal P w K mg base CX0 6 "moved_points" ["matrix","view","numbers"] (Zej K):=by
 refine F.okS (N:=["matrix","view","numbers","seen","moved","point"]) fun S f cdv A outer s H vs Q E hr h=>?_
 obtain ⟨p,v,g,ms,vw,gs,n,rfl,hp,hv,hg,hlen,hn,hb,k⟩:=h
 refine ⟨_,(Zc (Zl (i:=3) S.nd rfl (Or.inl rfl) Zd) (Zc (Zl (i:=4) S.nd rfl (Or.inl rfl) (ZL Zb)) (Zc (Xr PassesOwn.never rfl (Yu (Zg f_threes (hr.mono (by decide)) rfl Zi (Za (pv 2) Zb))) (ZO (i:=5) S.nd rfl (Or.inl rfl)) (Zf (Yg (XU (Zg f_is_behind (hr.mono (by decide)) rfl Zi (Za (pv 0) (Za (pv 5) Zb)))) (Zf (ZU (Qn PySem.F.plainAttrs_list PySem.F.slot_list_extend PySem.F.type_list_extend ZkA (pv 4) (Za (Zp c_ZEROS rfl) Zb)))) (Zc (Zl (i:=3) S.nd rfl (Or.inl rfl) (Zj Yh (pv 3) Zd)) (Zf (ZU (Qn PySem.F.plainAttrs_list PySem.F.slot_list_extend PySem.F.type_list_extend Xy (pv 4) (Za (Zg f_seen_point (hr.mono (by decide)) rfl Zi (Za (pv 0) (Za (pv 1) (Za (pv 5) Zb)))) Zb)))))))) (Zf (Zm (Zj Zah (ZL (Za (pv 3) Zb)) (pv 4))))))),?_⟩
 refine ⟨Nat.zero_le _,fun mv hmv=>?_⟩
 have s0:Zq H (upd H mv (.lst [])):=Zh hmv
 refine ⟨_,rfl,g,gs,n,rfl,s0.seq hg,hlen,by lia,fun H1 tl as s1 htl htl1 hal hR=>?_⟩
 have hmv1:H1 mv=some (.lst []):=s1 _ _ Ze
 have tlm:tl≠mv:=fun z=>by rw [z,Ze] at htl;cases htl
 have sH1:Zq H H1:=s0.trans s1
 have htlH:H tl=none:=s0.free htl
 have hl3:=Ji hlen
 have asm:∀ b∈as,b≠mv:=fun b hb z=>by
  obtain ⟨i,hi,e⟩:=List.mem_iff_getElem.mp hb
  have e2:=hR i b (List.getElem?_eq_some_iff.mpr ⟨hi,e⟩)
  obtain ⟨x,y,w',_,e3,_⟩:=XD hlen (i:=i) (by lia)
  rw [e3,z,hmv1] at e2
  cases e2
 refine ⟨tl,rfl,⟨_,SqL.of htl1⟩,ZbV (K:=K) (a:=tl) (xs:=as.map V.ref) (fun i σ H'=>∃ pv:Option V,σ=[some (.ref p),some (.ref v),some (.ref g),some (.int ((((Sb20.threes gs).take i).filter (front ms)).length:Nat)),some (.ref mv),pv] ∧
   (∀ b o,H1 b=some o→b≠mv→H' b=some o)∧H' mv=some (.lst ((((Sb20.threes gs).take i).flatMap (ZeW ms vw)).map V.int))) ⟨none,rfl,fun b o e _=>e,hmv1⟩ ?_ ?_ ?_⟩
 ·rintro i σ H' _ ⟨_,_,kp,_⟩
  exact SqL.of (kp tl _ htl1 tlm)
 ·rintro i y σ H' hi ⟨pv,rfl,kp,hm'⟩
  have hia:i<as.length:=by
   have:=(List.getElem?_eq_some_iff.mp hi).1
   simpa using this
  obtain ⟨b,hb',rfl⟩:∃ b,as[i]?=some b∧y=V.ref b:=by
   rw [List.getElem?_map] at hi
   cases e:as[i]? with
   | none=>rw [e] at hi;cases hi
   | some b=>rw [e] at hi;exact ⟨b,rfl,(Option.some.inj hi).symm⟩
  obtain ⟨x,y,z,e3,e4,mx,my,mz⟩:=XD hlen (i:=i) (by lia)
  have hpt1:=hR i b hb'
  rw [e4] at hpt1
  have bmv:b≠mv:=asm b (List.mem_of_getElem? hb')
  have kH:∀ c o,H c=some o→H' c=some o:=fun c o e=>kp c o (sH1 c o e) (Zs e hmv)
  have hpt:Zef K H' b x y z:=⟨SqL.of (kp b _ hpt1 bmv),hb x mx,hb y my,hb z mz⟩
  have hflen:(((Sb20.threes gs).take i).flatMap (ZeW ms vw)).length=4*i:=by
   rw [QI (Zfq ms vw),List.length_take,hl3];lia
  refine ⟨_,rfl,_,rfl,p,b,ms,x,y,z,rfl,hp.same kH,hpt,fun H2 s2 b2 hb2=>⟨_,rfl,Ye (fun hc=>?_) fun hc=>?_⟩⟩
  ·
   have hbe:=hb2.mp hc
   have e5:ZeW ms vw (x,y,z)=[0,0,0,0]:=if_pos hbe
   have e6:front ms (x,y,z)=false:=decide_eq_false (show ¬ Sb20.ONE≤Sb20.row ms 3 x y z*1024 by lia)
   have hm2:=s2 _ _ hm'
   refine ⟨_,rfl,.inl ⟨rfl,_,SqL.of hm2⟩,mv,tZEROS,_,_,rfl,rfl,hm2,k_ZEROS,?_,?_⟩
   ·rw [List.length_map,hflen]
    exact Nat.le_trans (show 4*i+4≤16777216 by lia) (by decide)
   refine ⟨some (.ref b),?_,fun c o e hc=>by rw [Zn hc];exact s2 c o (kp c o e hc),?_⟩
   ·rw [take_snoc e3,List.filter_append,List.filter_cons,if_neg (by rw [e6];decide)];simp
   ·rw [Ze,take_snoc e3,List.flatMap_append,List.map_append]
    simp [e5]
  ·
   have hbe:¬ Sb20.row ms 3 x y z*1024<Sb20.ONE:=fun q=>hc (hb2.mpr q)
   have e5:ZeW ms vw (x,y,z)=ZgX ms vw x y z:=if_neg hbe
   have e6:front ms (x,y,z)=true:=decide_eq_true (show Sb20.ONE≤Sb20.row ms 3 x y z*1024 by lia)
   have kH2:Zq H H2:=fun c o e=>s2 c o (kH c o e)
   refine ⟨_,rfl,_,_,_,rfl,rfl,rfl,?_⟩
   have hm2:=s2 _ _ hm'
   refine ⟨_,rfl,.inl ⟨rfl,_,SqL.of hm2⟩,_,rfl,_,rfl,_,rfl,p,v,b,ms,vw,x,y,z,rfl,hp.same kH2,hv.same kH2,hpt.same s2,hbe,fun H3 l s3 hl hl3'=>?_⟩
   have hm3:=s3 _ _ hm2
   refine ⟨mv,l,_,_,rfl,rfl,hm3,hl3',?_,?_⟩
   ·rw [List.length_map,hflen,List.length_map]
    exact Nat.le_trans (show 4*i+4≤16777216 by lia) (by decide)
   refine ⟨some (.ref b),?_,fun c o e hc=>by rw [Zn hc];exact s3 c o (s2 c o (kp c o e hc)),?_⟩
   ·rw [take_snoc e3,List.filter_append,List.filter_cons,if_pos e6];simp
   ·rw [Ze,take_snoc e3,List.flatMap_append,List.map_append]
    simp [e5]
 ·rintro σ H' ⟨pv,rfl,kp,hm'⟩
  rw [List.length_map,hal,List.take_of_length_le (by lia)] at hm'
  rw [List.length_map,hal,List.take_of_length_le (by lia)]
  have kH:Zq H H':=fun c o e=>kp c o (sH1 c o e) (Zs e hmv)
  refine ⟨_,rfl,(by show 1≤sizeLine;decide),fun l1 hl1=>⟨_,rfl,?_⟩⟩
  have n1:mv≠l1:=Zs hm' hl1
  refine ⟨l1,mv,_,_,rfl,rfl,Ze,by rw [Zn n1];exact hm',?_,fun l2 hl2=>?_⟩
  ·rw [List.length_map,QI (Zfq ms vw),hl3]
   exact Nat.le_trans (show 1+4*n≤16777216 by lia) (by decide)
  have sH:Zq H (upd H' l1 (.lst [.int ((((Sb20.threes gs).filter (front ms)).length:Nat):Int)])):=Zr kH (kH.free hl1)
  refine k _ l2 (Zr sH (sH.free hl2)) (sH.free hl2) ?_
  rw [Ze];rfl
def Zfl (lt:List Int) (p:Int×Int×Int):List Int:=if nsq p.1 p.2.1 p.2.2*1048576<Sb20.ONE then [0,0,0,0] else
 [Sb20.mul p.1 (Sb20Neutral.root (nsq p.1 p.2.1 p.2.2)),Sb20.mul p.2.1 (Sb20Neutral.root (nsq p.1 p.2.1 p.2.2)),Sb20.mul p.2.2 (Sb20Neutral.root (nsq p.1 p.2.1 p.2.2)),
  Sb20.clamp 0 (Sb20.add (Sb20.add (Sb20.mul (Sb20.mul p.1 (Sb20Neutral.root (nsq p.1 p.2.1 p.2.2))) (Sb20.at_ lt 0)) (Sb20.mul (Sb20.mul p.2.1 (Sb20Neutral.root (nsq p.1 p.2.1 p.2.2))) (Sb20.at_ lt 1))) (Sb20.mul (Sb20.mul p.2.2 (Sb20Neutral.root (nsq p.1 p.2.1 p.2.2))) (Sb20.at_ lt 2))) Sb20.ONE]
theorem ZbL (lt:List Int) (p:Int×Int×Int):(Zfl lt p).length=4:=by unfold Zfl;split <;> rfl
def ZiB (K:PySem.W.Frag) (H:Hp) (a:Addr) (lt:List Int):Prop:=SqL K H a (lt.map V.int)∧lt.length=3∧∀ x∈lt,Bd 171 x
theorem ZiB.same {H H':Hp}{a:Addr}{lt:List Int}(h:ZiB K H a lt) (s:Zq H H'):ZiB K H' a lt:=⟨s.seq h.1,h.2⟩
theorem Znx {lt:List Int}(h:lt.length=3):lt=[Sb20.at_ lt 0,Sb20.at_ lt 1,Sb20.at_ lt 2]:=by
 match lt,h with
 | [a0,a1,a2],_=>rfl
theorem Zlb {n:Int}(h0:0<n) (hb:Bd 300 n):Bd 460 (Sb20Neutral.root n):=by
 obtain ⟨m,rfl⟩:=Int.eq_ofNat_of_zero_le (Int.le_of_lt h0)
 rw [Zcb m (by lia)]
 have hq:=(XX (2^447 / m)).1
 have hM2:2^447 / m<2^448:=Nat.lt_of_le_of_lt (Nat.div_le_self _ _) (Nat.pow_lt_pow_right (by decide) (by decide))
 generalize Sb20Neutral.isqrt (2^447 / m)=q at *
 have h1:q<2^448:=by
  refine Nat.lt_of_le_of_lt ?_ hM2
  rcases Nat.eq_zero_or_pos q with h0 | h0
  ·lia
  ·exact Nat.le_trans (Nat.le_mul_of_pos_right _ h0) hq
 show q / 2^(nb q-24)*2^(nb q-24)<2^460
 exact Nat.lt_of_le_of_lt (Nat.div_mul_le_self _ _) (Nat.lt_trans h1 (Nat.pow_lt_pow_right (by decide) (by decide)))
def Zkg (K:PySem.W.Frag):Sp:=fun vs H Q _=>∃ (p q:Addr) (lt:List Int) (x y z:Int),vs=[.ref p,.ref q]∧ZiB K H p lt∧Zef K H q x y z ∧
 ∀ (H':Hp) (l:Addr),Zq H H'→H l=none→H' l=some (.lst ((Zfl lt (x,y,z)).map V.int))→Q (.ref l) H'
theorem ZcD (F:Df K mg "lit_normal" (top 62) ["light","normal"])
  (f_power_of_two:Cal P w K mg base CX0 1 "power_of_two" ["exponent"] QF)
  (f_reciprocal_root:Cal P w K mg base CX0 2 "reciprocal_root" ["a"] Zeg)
  (f_three_products:Cal P w K mg base CX0 3 "three_products" ["a","b"] (XO K))
  (f_times:Cal P w K mg base CX0 2 "times" ["a","b"] Xk)
  {tZEROS:Addr}(c_ZEROS:Cst mg "ZEROS" (.ref tZEROS)) (k_ZEROS:YN K tZEROS [.int 0,.int 0,.int 0,.int 0])
  (b_list:mg "list"=none)
  (b_max:mg "max"=none)
  (b_min:mg "min"=none):Cal P w K mg base CX0 4 "lit_normal" ["light","normal"] (Zkg K):=by
 refine F.okS (N:=["light","normal","square","q","unit","brightness","number"]) fun S f cdv A outer s H vs Q E hr h=>?_
 obtain ⟨p,q,lt,x,y,z,rfl,hp,hq,k⟩:=h
 refine ⟨_,(Zc (Zl (i:=2) S.nd rfl (Or.inl rfl) (Zg f_three_products (hr.mono (by decide)) rfl Zi (Za (pv 1) (Za (pv 1) Zb)))) (Zc (Yg (ZC ltC (pv 2) (Zg f_power_of_two (hr.mono (by decide)) rfl Zi (Za (YJ Qk Zd) Zb)) (ZD _)) (Zf (Zm (QV (r:=ZgI K) Zns (by rfl) b_list Pv.boot_list (Za (Zp c_ZEROS rfl) Zb)))) ZJ) (Zc (Zl (i:=3) S.nd rfl (Or.inr rfl) (Zg f_reciprocal_root (hr.mono (by decide)) rfl Zi (Za (pv 2) Zb))) (Zc (Zce (i:=4) (own:=[("number",6)]) rfl S.nd rfl rfl (Jy rfl rfl rfl rfl) (Yu (pv 1)) (show Yj ["light","normal","square","q","unit","brightness","number"] (Zk (top 62)) _ _ from ⟨rfl,by decide +kernel,by decide +kernel,by decide +kernel,by decide +kernel⟩) (fun _ _ _ _ _=>ZO (i:=6) S.nd rfl (Or.inl rfl)) (fun _ _ _ _ _=>ZY) (fun _ _ _ _ _=>(Zg f_times (hr.mono (by decide)) rfl Zi (Za (pv 6) (Za (pv 3) Zb))))) (Zc (Zl (i:=5) S.nd rfl (Or.inl rfl) (Zg f_three_products (hr.mono (by decide)) rfl Zi (Za (pv 4) (Za (pv 0) Zb)))) (Zf (Zm (Zj Zah (pv 4) (ZL (Za (ZP (ZiT rfl) (by rfl) b_max boot_max (Za Zd (Za (ZP (ZjR rfl) (by rfl) b_min boot_min (Za (pv 5) (Za (Zg f_power_of_two (hr.mono (by decide)) rfl Zi (Za Zd Zb)) Zb))) Zb))) Zb)))))))))),?_⟩
 obtain ⟨hq0,hx,hy,hz⟩:=id hq
 have w8:∀ {x:Int},Bd 171 x→Bd 800 x:=fun h=>h.mono (by decide)
 have bn:=Zil hx hy hz
 refine ⟨_,rfl,_,rfl,q,q,x,y,z,x,y,z,nsq x y z,rfl,hq0,hq0,⟨w8 hx,w8 hy,w8 hz,w8 hx,w8 hy,w8 hz⟩,rfl,?_⟩
 unfold Zfl at k
 simp only [] at k
 refine ⟨_,rfl,_,_,rfl,rfl,_,(2^129:Int),rfl,⟨by decide,by decide⟩,by decide,_,_,rfl,rfl,fun b hb=>⟨_,rfl,Ye (fun hc=>?_) fun hc=>?_⟩⟩
 ·have h1:nsq x y z*1048576<Sb20.ONE:=by
   have:nsq x y z<2^129:=hb.mp hc
   rw [Zfw];lia
  rw [if_pos h1] at k
  refine ⟨tZEROS,_,rfl,.inr k_ZEROS.sq,fun l hl=>?_⟩
  exact k _ l (Zh hl) hl Ze
 have h1:¬ nsq x y z*1048576<Sb20.ONE:=by
  have:¬ nsq x y z<2^129:=fun z=>hc (hb.mpr z)
  rw [Zfw];lia
 rw [if_neg h1] at k
 have n0:0<nsq x y z:=by
  have:(0:Int)<Sb20.ONE:=by decide
  lia
 have br:=Zlb n0 (bn.mono (by decide))
 refine ⟨_,rfl,_,_,rfl,⟨n0,bn.mono (by decide)⟩,rfl,?_⟩
 generalize Sb20Neutral.root (nsq x y z)=r at *
 have wr:Bd 900 r:=br.mono (by decide)
 have bu:∀ {x:Int},Bd 171 x→Bd 484 (Sb20.mul x r):=fun h=>(h.smul br).mono (by decide)
 refine ⟨_,rfl,q,rfl,⟨_,hq0⟩,fun D hD=>?_⟩
 refine YM (K:=K) (a:=q) (xs:=[x,y,z].map V.int) (fun i H'=>H'=upd H D (.lst (([Sb20.mul x r,Sb20.mul y r,Sb20.mul z r].take i).map V.int))) rfl ?_ ?_ ?_
 ·rintro i H' _ rfl
  exact (Zh hD).seq hq0
 ·rintro i v H' hi rfl
  have turn:∀ (u:Int) (acc acc':List Int),Bd 171 u→acc'=acc++[Sb20.mul u r]→acc.length<10→v=.int u →
    YF 6 v (wipe [some (V.ref p),some (V.ref q),some (V.int (nsq x y z)),some (V.int r),none,none,none] [6]) (upd H D (.lst (acc.map V.int))) fun σ2 H2=>wipe σ2 [6]=wipe [some (V.ref p),some (V.ref q),some (V.int (nsq x y z)),some (V.int r),none,none,none] [6]∧ZjF σ2 H2 fun b H3 =>
     if b=true then JJ Xk [] E0 (ZV (ZH 6) (ZV (ZH 3) XW)) σ2 H3 fun y H4=>∃ acc,H4 D=some (.lst acc)∧acc.length<sizeLine∧upd H4 D (.lst (acc++[y]))=upd H D (.lst (acc'.map V.int)) else H3=upd H D (.lst (acc'.map V.int)):=by
   intro u acc acc' hu e hl ev
   subst ev
   refine ⟨rfl,YG ⟨_,rfl,_,rfl,u,r,_,rfl,⟨hu.mono (by decide),wr⟩,rfl,acc.map V.int,Ze,?_,?_⟩⟩
   ·rw [List.length_map]
    exact Nat.lt_of_lt_of_le (show acc.length<16777216 by lia) (by decide)
   ·rw [ZnK,e,List.map_append];rfl
  match i,hi with
  | 0,hi=>exact turn x [] [Sb20.mul x r] hx rfl (by decide) (Option.some.inj hi).symm
  | 1,hi=>exact turn y [Sb20.mul x r] [Sb20.mul x r,Sb20.mul y r] hy rfl (by show 1<10;decide) (Option.some.inj hi).symm
  | 2,hi=>exact turn z [Sb20.mul x r,Sb20.mul y r] [Sb20.mul x r,Sb20.mul y r,Sb20.mul z r] hz rfl (by show 2<10;decide) (Option.some.inj hi).symm
  | i+3,hi=>simp at hi
 ·rintro H' rfl
  have hD':upd H D (.lst ([Sb20.mul x r,Sb20.mul y r,Sb20.mul z r].map V.int)) D=some (.lst ([Sb20.mul x r,Sb20.mul y r,Sb20.mul z r].map V.int)):=Ze
  have sD:Zq H (upd H D (.lst ([Sb20.mul x r,Sb20.mul y r,Sb20.mul z r].map V.int))):=Zh hD
  have hlt:=(hp.same sD).1
  rw [Znx hp.2.1] at hlt
  have bl:∀ i,Bd 171 (Sb20.at_ lt i):=fun i=>Je hp.2.2
  have u8:∀ {x:Int},Bd 171 x→Bd 800 (Sb20.mul x r):=fun h=>(bu h).mono (by decide)
  show YF 4 (.ref D) _ (upd H D (.lst ([Sb20.mul x r,Sb20.mul y r,Sb20.mul z r].map V.int))) _
  refine ⟨_,rfl,_,rfl,D,p,_,_,_,_,_,_,_,rfl,SqL.of hD',hlt,⟨u8 hx,u8 hy,u8 hz,w8 (bl 0),w8 (bl 1),w8 (bl 2)⟩,rfl,?_⟩
  refine ⟨_,rfl,_,rfl,_,Sb20.ONE,rfl,⟨by decide,by decide⟩,by decide,_,_,_,rfl,rfl,_,_,_,rfl,rfl,(by show 1≤sizeLine;decide),fun l1 hl1=>?_⟩
  have n1:D≠l1:=Zs hD' hl1
  refine ⟨D,l1,_,_,rfl,rfl,by rw [Zn n1];exact hD',Ze,by show 3+1≤sizeLine;decide,fun l2 hl2=>?_⟩
  have s1:=Zr (o:=.lst [.int (max 0 (min (Sb20.add (Sb20.add (Sb20.mul (Sb20.mul x r) (Sb20.at_ lt 0)) (Sb20.mul (Sb20.mul y r) (Sb20.at_ lt 1))) (Sb20.mul (Sb20.mul z r) (Sb20.at_ lt 2))) Sb20.ONE))]) sD (sD.free hl1)
  refine k _ l2 (Zr s1 (s1.free hl2)) (s1.free hl2) ?_
  rw [Ze];rfl
def ZfF (K:PySem.W.Frag):Sp:=fun vs H Q _=>∃ (p g:Addr) (lt gs:List Int) (n:Nat),vs=[.ref p,.ref g]∧ZiB K H p lt∧SqL K H g (gs.map V.int)∧gs.length=3*n∧n≤256∧(∀ x∈gs,Bd 171 x) ∧
 ∀ (H':Hp) (l:Addr),Zq H H'→H l=none→H' l=some (.lst (((0:Int)::(Sb20.threes gs).flatMap (Zfl lt)).map V.int))→Q (.ref l) H'
theorem ZbC (F:Df K mg "lit_normals" (top 63) ["light","numbers"])
  (f_lit_normal:Cal P w K mg base CX0 4 "lit_normal" ["light","normal"] (Zkg K))
  (f_threes:Cal P w K mg base CX0 1 "threes" ["numbers"] (JK K)):Cal P w K mg base CX0 5 "lit_normals" ["light","numbers"] (ZfF K):=by
 refine F.okS (N:=["light","numbers","lit","normal"]) fun S f cdv A outer s H vs Q E hr h=>?_
 obtain ⟨p,g,lt,gs,n,rfl,hp,hg,hlen,hn,hb,k⟩:=h
 refine ⟨_,(Zc (Zl (i:=2) S.nd rfl (Or.inl rfl) (ZL Zb)) (Zc (Xr PassesOwn.never rfl (Yu (Zg f_threes (hr.mono (by decide)) rfl Zi (Za (pv 1) Zb))) (ZO (i:=3) S.nd rfl (Or.inl rfl)) (Zf (ZU (Qn PySem.F.plainAttrs_list PySem.F.slot_list_extend PySem.F.type_list_extend Xy (pv 2) (Za (Zg f_lit_normal (hr.mono (by decide)) rfl Zi (Za (pv 0) (Za (pv 3) Zb))) Zb))))) (Zf (Zm (Zj Zah (ZL (Za Zd Zb)) (pv 2)))))),?_⟩
 refine ⟨Nat.zero_le _,fun mv hmv=>?_⟩
 have s0:Zq H (upd H mv (.lst [])):=Zh hmv
 refine ⟨_,rfl,g,gs,n,rfl,s0.seq hg,hlen,by lia,fun H1 tl as s1 htl htl1 hal hR=>?_⟩
 have hmv1:H1 mv=some (.lst []):=s1 _ _ Ze
 have tlm:tl≠mv:=fun z=>by rw [z,Ze] at htl;cases htl
 have sH1:Zq H H1:=s0.trans s1
 have hl3:=Ji hlen
 have asm:∀ b∈as,b≠mv:=fun b hb z=>by
  obtain ⟨i,hi,e⟩:=List.mem_iff_getElem.mp hb
  have e2:=hR i b (List.getElem?_eq_some_iff.mpr ⟨hi,e⟩)
  obtain ⟨x,y,w',_,e3,_⟩:=XD hlen (i:=i) (by lia)
  rw [e3,z,hmv1] at e2
  cases e2
 refine ⟨tl,rfl,⟨_,SqL.of htl1⟩,ZbV (K:=K) (a:=tl) (xs:=as.map V.ref) (fun i σ H'=>∃ pv:Option V,σ=[some (.ref p),some (.ref g),some (.ref mv),pv] ∧
   (∀ b o,H1 b=some o→b≠mv→H' b=some o)∧H' mv=some (.lst ((((Sb20.threes gs).take i).flatMap (Zfl lt)).map V.int))) ⟨none,rfl,fun b o e _=>e,hmv1⟩ ?_ ?_ ?_⟩
 ·rintro i σ H' _ ⟨_,_,kp,_⟩
  exact SqL.of (kp tl _ htl1 tlm)
 ·rintro i y σ H' hi ⟨pv,rfl,kp,hm'⟩
  have hia:i<as.length:=by
   have:=(List.getElem?_eq_some_iff.mp hi).1
   simpa using this
  obtain ⟨b,hb',rfl⟩:∃ b,as[i]?=some b∧y=V.ref b:=by
   rw [List.getElem?_map] at hi
   cases e:as[i]? with
   | none=>rw [e] at hi;cases hi
   | some b=>rw [e] at hi;exact ⟨b,rfl,(Option.some.inj hi).symm⟩
  obtain ⟨x,y,z,e3,e4,mx,my,mz⟩:=XD hlen (i:=i) (by lia)
  have hpt1:=hR i b hb'
  rw [e4] at hpt1
  have bmv:b≠mv:=asm b (List.mem_of_getElem? hb')
  have kH:∀ c o,H c=some o→H' c=some o:=fun c o e=>kp c o (sH1 c o e) (Zs e hmv)
  have hpt:Zef K H' b x y z:=⟨SqL.of (kp b _ hpt1 bmv),hb x mx,hb y my,hb z mz⟩
  have hflen:(((Sb20.threes gs).take i).flatMap (Zfl lt)).length=4*i:=by
   rw [QI (ZbL lt),List.length_take,hl3];lia
  refine ⟨_,rfl,.inl ⟨rfl,_,SqL.of hm'⟩,_,rfl,_,rfl,p,b,lt,x,y,z,rfl,hp.same kH,hpt,fun H3 l s3 hl hl3'=>?_⟩
  have hm3:=s3 _ _ hm'
  refine ⟨mv,l,_,_,rfl,rfl,hm3,hl3',?_,?_⟩
  ·rw [List.length_map,hflen,List.length_map,ZbL]
   exact Nat.le_trans (show 4*i+4≤16777216 by lia) (by decide)
  refine ⟨some (.ref b),rfl,fun c o e hc=>by rw [Zn hc];exact s3 c o (kp c o e hc),?_⟩
  rw [Ze,take_snoc e3,List.flatMap_append,List.map_append]
  simp
 ·rintro σ H' ⟨pv,rfl,kp,hm'⟩
  rw [List.length_map,hal,List.take_of_length_le (by lia)] at hm'
  have kH:Zq H H':=fun c o e=>kp c o (sH1 c o e) (Zs e hmv)
  refine ⟨(by show 1≤sizeLine;decide),fun l1 hl1=>⟨_,rfl,?_⟩⟩
  have n1:mv≠l1:=Zs hm' hl1
  refine ⟨l1,mv,_,_,rfl,rfl,Ze,by rw [Zn n1];exact hm',?_,fun l2 hl2=>?_⟩
  ·rw [List.length_map,QI (ZbL lt),hl3]
   exact Nat.le_trans (show 1+4*n≤16777216 by lia) (by decide)
  have sH:Zq H (upd H' l1 (.lst [.int 0])):=Zr kH (kH.free hl1)
  refine k _ l2 (Zr sH (sH.free hl2)) (sH.free hl2) ?_
  rw [Ze];rfl
end
end Sg
namespace Sg
open PySem PySem.Spec PyProof.Rows L2 LX SbM
theorem ZcS {n:Nat}(h:n<2^32):Sb20.single n=if YW 8 23 n=255 then none else some (Yc 8 23 n):=by
 unfold Sb20.single Yc YW
 simp only []
 have e8:(2:Nat)^8=256:=rfl
 rw [e8]
 split
 ·rfl
 ·have h2:n / 2^(8+23)<2:=by
   have:(2:Nat)^(8+23)=2^31:=rfl
   lia
  have e31:(2:Nat)^(8+23)=2^31:=rfl
  rw [e31] at h2 ⊢
  congr 1
  by_cases h0:n / 2^31=0
  ·rw [if_pos h0,if_neg (by lia)]
  ·rw [if_neg h0,if_pos (by lia)]
theorem Zdb {n:Nat}(h:n<2^64):Sb20.double n=if YW 11 52 n=2047 then none else some (Yc 11 52 n):=by
 unfold Sb20.double Yc YW
 simp only []
 have e8:(2:Nat)^11=2048:=rfl
 rw [e8]
 split
 ·rfl
 ·have e31:(2:Nat)^(11+52)=2^63:=rfl
  have h2:n / 2^63<2:=by lia
  rw [e31]
  congr 1
  by_cases h0:n / 2^63=0
  ·rw [if_pos h0,if_neg (by lia)]
  ·rw [if_neg h0,if_pos (by lia)]
theorem Zbx {n:Nat}(h:n<2^32) (lo hi:Int):Sb20.ranged lo hi n=true↔(YW 8 23 n≠255∧lo≤Yc 8 23 n∧Yc 8 23 n≤hi):=by
 unfold Sb20.ranged
 rw [ZcS h]
 split
 ·rename_i q;simp [q]
 ·rename_i q;simp [q,Sb20.within]
theorem value_eq {n:Nat}(h:n<2^32) (q:YW 8 23 n≠255):Sb20.value n=Yc 8 23 n:=by
 unfold Sb20.value
 rw [ZcS h,if_neg q];rfl
theorem Qs {lo hi:Int}{n:Nat}(h:Sb20.ranged lo hi n=true){k:Nat}(h1:Bd k lo) (h2:Bd k hi):Bd k (Sb20.value n):=by
 unfold Sb20.ranged at h
 unfold Sb20.value
 cases e:Sb20.single n with
 | none=>rw [e] at h;cases h
 | some v =>
  rw [e] at h
  simp only [Option.any_some,Option.getD_some,Sb20.within,Bool.and_eq_true,decide_eq_true_eq] at h ⊢
  unfold Bd at *
  lia
theorem Zdo {lo hi:Int}{n:Nat}(h:Sb20.ranged lo hi n=true):lo≤Sb20.value n∧Sb20.value n≤hi:=by
 unfold Sb20.ranged at h
 unfold Sb20.value
 cases e:Sb20.single n with
 | none=>rw [e] at h;cases h
 | some v =>
  rw [e] at h
  simpa [Sb20.within] using h
def vn (bs:List Nat):List V:=bs.map fun (n:Nat)=>V.int (n:Int)
theorem Zlq {bs:List Nat}{i:Nat}{v:V}(h:(vn bs)[i]?=some v):∃ b,bs[i]?=some b∧v=V.int (b:Int):=by
 unfold vn at h
 rw [List.getElem?_map] at h
 cases e:bs[i]? with
 | none=>rw [e] at h;cases h
 | some b=>rw [e] at h;exact ⟨b,rfl,(Option.some.inj h).symm⟩
theorem QL (bs:List Nat):(vn bs).length=bs.length:=List.length_map _
section
variable {P:Program}{w:World}{K:PySem.W.Frag}{mg:Str→Option Value}{base:Heap}{RF NT:Addr}
def Yv (R:Addr):Sp:=fun vs H Q E=>∃ n lo hi:Int,vs=[.int n,.int lo,.int hi]∧(lo≤n∧n≤hi→Q (.int n) H)∧(¬ (lo≤n∧n≤hi)→E (.ref R) none H)
theorem ZaS (F:Df K mg "whole_within" (top 31) ["number","low","high"])
  (q_Refused:ExcAt K RF) (m_Refused:mg "Refused"=some (.ref RF)):Cal P w K mg base (CXR P w) 1 "whole_within" ["number","low","high"] (Yv RF):=by
 refine F.YT (N:=["number","low","high"]) fun S f cdv A outer s H vs Q E hr h=>?_
 obtain ⟨n,lo,hi,rfl,k1,k2⟩:=h
 refine ⟨_,(Zc (Yg (PW.pt (ZjP (ZC ltC (pv 0) (pv 1) (ZD _)) (ZfR (ZC gtC (pv 0) (pv 2) (ZD _))))) (Zf (JL rfl hpR q_Refused rfl m_Refused)) ZJ) (Zf (Zm (pv 0)))),?_⟩
 refine ⟨_,rfl,_,rfl,_,_,rfl,rfl,fun b1 h1=>⟨_,rfl,Ye (fun c1=>?_) fun c1=>?_⟩⟩
 ·refine Zjw (k2 ?_)
  have:=h1.mp c1
  lia
 ·have g1:¬ n<lo:=fun z=>c1 (h1.mpr z)
  refine ⟨_,rfl,_,rfl,_,_,rfl,rfl,fun b2 h2=>⟨_,rfl,Ye (fun c2=>?_) fun c2=>?_⟩⟩
  ·refine k2 ?_
   have:=h2.mp c2
   lia
  ·have g2:¬ hi<n:=fun z=>c2 (h2.mpr z)
   exact ⟨_,rfl,k1 ⟨by lia,by lia⟩⟩
def Zlm (R:Addr):Sp:=fun vs H Q E=>∃ (n eb fb:Nat) (lo hi:Int),vs=[.int n,.int eb,.int fb,.int lo,.int hi]∧Form eb fb∧(YW eb fb n≠2^eb-1∧lo≤Yc eb fb n∧Yc eb fb n≤hi→Q (.int (Yc eb fb n)) H) ∧
 (¬ (YW eb fb n≠2^eb-1∧lo≤Yc eb fb n∧Yc eb fb n≤hi)→E (.ref R) none H)
theorem Zaj (F:Df K mg "float_between" (top 32) ["bits","exponent_bits","fraction_bits","low","high"])
  (f_is_finite:Cal P w K mg base CX0 2 "is_finite" ["bits","exponent_bits","fraction_bits"] ZiM)
  (f_steps_from_bits:Cal P w K mg base CX0 2 "steps_from_bits" ["bits","exponent_bits","fraction_bits"] ZdT)
  (f_whole_within:Cal P w K mg base (CXR P w) 1 "whole_within" ["number","low","high"] (Yv RF))
  (q_Refused:ExcAt K RF) (m_Refused:mg "Refused"=some (.ref RF)):Cal P w K mg base (CXR P w) 3 "float_between" ["bits","exponent_bits","fraction_bits","low","high"] (Zlm RF):=by
 refine F.YT (N:=["bits","exponent_bits","fraction_bits","low","high"]) fun S f cdv A outer s H vs Q E hr h=>?_
 obtain ⟨n,eb,fb,lo,hi,rfl,hf,k1,k2⟩:=h
 refine ⟨_,(Zc (Yg (ZiH (XU (Zg f_is_finite (hr.mono (by decide)) rfl Zi (Za (pv 0) (Za (pv 1) (Za (pv 2) Zb)))))) (Zf (JL rfl hpR q_Refused rfl m_Refused)) ZJ) (Zf (Zm (Zg f_whole_within (hr.mono (by decide)) rfl ZM (Za (Zg f_steps_from_bits (hr.mono (by decide)) rfl Zi (Za (pv 0) (Za (pv 1) (Za (pv 2) Zb)))) (Za (pv 3) (Za (pv 4) Zb))))))),?_⟩
 refine ⟨_,rfl,_,rfl,_,rfl,n,eb,fb,rfl,hf,fun b1 h1=>⟨_,rfl,Ye (fun c1=>?_) fun c1=>?_⟩⟩
 ·refine k2 fun z=>?_
  have:=h1.mpr z.1
  rw [this] at c1;cases c1
 ·have g1:YW eb fb n≠2^eb-1:=by
   cases b1 with
   | false=>exact absurd rfl c1
   | true=>exact h1.mp rfl
  refine ⟨_,rfl,_,rfl,_,rfl,n,eb,fb,rfl,hf,_,rfl,_,rfl,_,lo,hi,rfl,fun q=>k1 ⟨g1,q⟩,fun q=>k2 fun z=>q z.2⟩
def ZkW (R:Addr):Sp:=fun vs H Q E=>∃ (n:Nat) (lo hi:Int),vs=[.int n,.int lo,.int hi]∧n<2^32∧(Sb20.ranged lo hi n=true→Q (.int (Sb20.value n)) H)∧(Sb20.ranged lo hi n=false→E (.ref R) none H)
theorem JZ (F:Df K mg "single_between" (top 33) ["bits","low","high"])
  (f_float_between:Cal P w K mg base (CXR P w) 3 "float_between" ["bits","exponent_bits","fraction_bits","low","high"] (Zlm RF))
  (c_SINGLE_EXPONENT_BITS:Cst mg "SINGLE_EXPONENT_BITS" (.int 8))
  (c_SINGLE_FRACTION_BITS:Cst mg "SINGLE_FRACTION_BITS" (.int 23)):Cal P w K mg base (CXR P w) 4 "single_between" ["bits","low","high"] (ZkW RF):=by
 refine F.YT (N:=["bits","low","high"]) fun S f cdv A outer s H vs Q E hr h=>?_
 obtain ⟨n,lo,hi,rfl,hn,k1,k2⟩:=h
 refine ⟨_,(Zf (Zm (Zg f_float_between (hr.mono (by decide)) rfl ZM (Za (pv 0) (Za (Zp c_SINGLE_EXPONENT_BITS rfl) (Za (Zp c_SINGLE_FRACTION_BITS rfl) (Za (pv 1) (Za (pv 2) Zb)))))))),?_⟩
 refine ⟨_,rfl,_,rfl,_,rfl,n,8,23,lo,hi,rfl,.inl ⟨rfl,rfl⟩,fun q=>?_,fun q=>?_⟩
 ·rw [← value_eq hn q.1]
  exact k1 ((Zbx hn lo hi).mpr q)
 ·refine k2 ?_
  cases e:Sb20.ranged lo hi n with
  | false=>rfl
  | true=>exact absurd ((Zbx hn lo hi).mp e) q
def ZfD (R:Addr):Sp:=fun vs H Q E=>∃ (n:Nat) (L B:Int),vs=[.int n,.int L]∧(n<2^32∧0≤L∧L≤2^20)∧L*Sb20.ONE=B∧(Sb20.ranged (-B) B n=true→Q (.int (Sb20.value n)) H)∧(Sb20.ranged (-B) B n=false→E (.ref R) none H)
theorem Zaa (F:Df K mg "single_within" (top 34) ["bits","limit"])
  (f_power_of_two:Cal P w K mg base CX0 1 "power_of_two" ["exponent"] QF)
  (f_single_between:Cal P w K mg base (CXR P w) 4 "single_between" ["bits","low","high"] (ZkW RF)):Cal P w K mg base (CXR P w) 5 "single_within" ["bits","limit"] (ZfD RF):=by
 refine F.YT (N:=["bits","limit","edge"]) fun S f cdv A outer s H vs Q E hr h=>?_
 obtain ⟨n,L,B,rfl,⟨hn,hL0,hL⟩,eB,k1,k2⟩:=h
 refine ⟨_,(Zc (Zl (i:=2) S.nd rfl (Or.inl rfl) (Zj Xu (pv 1) (Zg f_power_of_two (hr.mono (by decide)) rfl Zi (Za Zd Zb)))) (Zf (Zm (Zg f_single_between (hr.mono (by decide)) rfl ZM (Za (pv 0) (Za (YJ Qk (pv 2)) (Za (pv 2) Zb))))))),?_⟩
 have hsL:Sm L:=Qt (by have:L.natAbs<2^21:=(by lia);exact Nat.lt_trans this (by decide))
 refine ⟨_,rfl,_,Sb20.ONE,rfl,⟨by decide,by decide⟩,by decide,_,_,_,rfl,rfl,⟨hsL,by unfold Sm;decide⟩,eB,?_⟩
 exact ⟨_,rfl,_,rfl,_,_,rfl,rfl,_,rfl,n,_,_,rfl,hn,k1,k2⟩
def Zaz (K:PySem.W.Frag) (R:Addr):Sp:=fun vs H Q E=>∃ (a:Addr) (bs:List Nat) (L B:Int),vs=[.ref a,.int L]∧SqL K H a (vn bs)∧(∀ b∈bs,b<2^32)∧bs.length≤1000∧(0≤L∧L≤2^20)∧L*Sb20.ONE=B ∧
 (Sb20.ranges (-B) B bs=true→∀ (H':Hp) (l:Addr),Zq H H'→H l=none→H' l=some (.lst ((Sb20.plain bs).map V.int))→Q (.ref l) H')∧(Sb20.ranges (-B) B bs=false→∀ H',Zq H H'→E (.ref R) none H')
theorem JP (F:Df K mg "singles_within" (top 35) ["row","limit"])
  (f_single_within:Cal P w K mg base (CXR P w) 5 "single_within" ["bits","limit"] (ZfD RF)):Cal P w K mg base (CXR P w) 6 "singles_within" ["row","limit"] (Zaz K RF):=by
 refine F.YT (N:=["row","limit","bits"]) fun S f cdv A outer s H vs Q E hr h=>?_
 obtain ⟨a,bs,L,B,rfl,ha,hb,hn,hL,eB,k1,k2⟩:=h
 refine ⟨_,(Zf (Zm (ZlE (own:=[("bits",2)]) rfl S.nd (Yu (pv 0)) (show Yj ["row","limit","bits"] (Zk (top 35)) _ _ from ⟨rfl,by decide +kernel,by decide +kernel,by decide +kernel,by decide +kernel⟩) (fun _ _ _ _ _=>ZO (i:=2) S.nd rfl (Or.inl rfl)) (fun _ _ _ _ _=>ZY) rfl rfl rfl hpR (fun _ _ _ _ _=>(Zg f_single_within (hr.mono (by decide)) rfl ZM (Za (pv 2) (Za (pv 1) Zb))))))),?_⟩
 refine ⟨_,rfl,a,rfl,⟨_,ha⟩,fun D hD=>?_⟩
 refine YM (K:=K) (a:=a) (xs:=vn bs) (fun i H'=>H'=upd H D (.lst ((Sb20.plain (bs.take i)).map V.int))∧Sb20.ranges (-B) B (bs.take i)=true) ⟨rfl,rfl⟩ ?_ ?_ ?_
 ·rintro i H' _ ⟨rfl,_⟩
  exact (Zh hD).seq ha
 ·rintro i v H' hi ⟨rfl,hall⟩
  obtain ⟨b,hb',rfl⟩:=Zlq hi
  have hil:i<bs.length:=(List.getElem?_eq_some_iff.mp hb').1
  have hm:=List.mem_of_getElem? hb'
  refine ⟨rfl,YG ⟨_,rfl,_,rfl,b,L,B,rfl,⟨hb b hm,hL⟩,eB,fun hok=>?_,fun hno=>?_⟩⟩
  ·refine ⟨_,Ze,?_,?_,?_⟩
   ·unfold Sb20.plain
    rw [List.length_map,List.length_map,List.length_take]
    exact Nat.lt_of_le_of_lt (Nat.min_le_left _ _) (Nat.lt_of_lt_of_le (show i<16777216 by lia) (by decide))
   ·unfold Sb20.plain
    rw [Yt,take_snoc hb',List.map_append,List.map_append];rfl
   ·unfold Sb20.ranges at *
    rw [take_snoc hb',List.all_append,hall];simp [hok]
  ·refine k2 ?_ _ (Zh hD)
   cases e:Sb20.ranges (-B) B bs with
   | false=>rfl
   | true =>
    unfold Sb20.ranges at e
    rw [List.all_eq_true.mp e b hm] at hno;cases hno
 ·rintro H' ⟨rfl,hall⟩
  rw [QL,List.take_length] at hall ⊢
  exact k1 hall _ D (Zh hD) hD Ze
def okD (L:Int) (n:Nat):Bool:=(Sb20.double n).any fun (x:Int)=>Sb20.within (-(L*2^1074)) x (L*2^1074)
theorem Zhk {n:Nat}(h:n<2^64) (L:Int):okD L n=true↔(YW 11 52 n≠2047∧-(L*2^1074)≤Yc 11 52 n∧Yc 11 52 n≤L*2^1074):=by
 unfold okD
 rw [Zdb h]
 split
 ·rename_i q;simp [q]
 ·rename_i q;simp [q,Sb20.within]
def Zmq (R:Addr):Sp:=fun vs H Q E=>∃ (n:Nat) (L:Int),vs=[.int n,.int L]∧n<2^64∧(0≤L∧L≤2^20)∧(okD L n=true→Q (.int ((Sb20.double n).getD 0)) H)∧(okD L n=false→E (.ref R) none H)
theorem Zae (F:Df K mg "double_within" (top 36) ["bits","limit"])
  (f_double_from_whole:Cal P w K mg base CX0 1 "double_from_whole" ["number"] ZjL)
  (f_float_between:Cal P w K mg base (CXR P w) 3 "float_between" ["bits","exponent_bits","fraction_bits","low","high"] (Zlm RF))
  (c_DOUBLE_EXPONENT_BITS:Cst mg "DOUBLE_EXPONENT_BITS" (.int 11))
  (c_DOUBLE_FRACTION_BITS:Cst mg "DOUBLE_FRACTION_BITS" (.int 52)):Cal P w K mg base (CXR P w) 4 "double_within" ["bits","limit"] (Zmq RF):=by
 refine F.YT (N:=["bits","limit","edge"]) fun S f cdv A outer s H vs Q E hr h=>?_
 obtain ⟨n,L,rfl,hn,hL,k1,k2⟩:=h
 refine ⟨_,(Zc (Zl (i:=2) S.nd rfl (Or.inl rfl) (Zg f_double_from_whole (hr.mono (by decide)) rfl Zi (Za (pv 1) Zb))) (Zf (Zm (Zg f_float_between (hr.mono (by decide)) rfl ZM (Za (pv 0) (Za (Zp c_DOUBLE_EXPONENT_BITS rfl) (Za (Zp c_DOUBLE_FRACTION_BITS rfl) (Za (YJ Qk (pv 2)) (Za (pv 2) Zb))))))))),?_⟩
 have hsL:Bd 100 L:=by
  have:L.natAbs<2^21:=by lia
  exact Nat.lt_trans this (by decide)
 refine ⟨_,rfl,L,_,rfl,hsL,rfl,?_⟩
 refine ⟨_,rfl,_,rfl,_,_,rfl,rfl,_,rfl,n,11,52,_,_,rfl,.inr ⟨rfl,rfl⟩,fun q=>?_,fun q=>?_⟩
 ·have e:(Sb20.double n).getD 0=Yc 11 52 n:=by rw [Zdb hn,if_neg q.1];rfl
  rw [← e]
  exact k1 ((Zhk hn L).mpr q)
 ·refine k2 ?_
  cases e:okD L n with
  | false=>rfl
  | true=>exact absurd ((Zhk hn L).mp e) q
end
end Sg
namespace Sg
open PySem PySem.Spec PyProof.Rows L2 LX SbM
abbrev Px:=Sb20.Px
def px4 (p:Px):List V:=[.int (p.b:Nat),.int (p.g:Nat),.int (p.r:Nat),.int (p.a:Nat)]
def Xf (p:Px):Prop:=p.b<256∧p.g<256∧p.r<256∧p.a<256
def Yr (K:PySem.W.Frag) (H:Hp) (a:Addr) (p:Px):Prop:=SqT K H a (px4 p)∧Xf p
theorem Yr.same {K:PySem.W.Frag}{H H':Hp}{a:Addr}{p:Px}(h:Yr K H a p) (s:Zq H H'):Yr K H' a p:=⟨LX.Zq.seqT s h.1,h.2⟩
theorem ZiJ (p:Px):atI (px4 p) 0=some (.int (p.b:Nat)):=rfl
theorem Zjr (p:Px):atI (px4 p) 1=some (.int (p.g:Nat)):=rfl
theorem ZjM (p:Px):atI (px4 p) 2=some (.int (p.r:Nat)):=rfl
theorem Zfm (p:Px):atI (px4 p) 3=some (.int (p.a:Nat)):=rfl
theorem ZaU (n:Nat):Xf (Sb20.px n):=by
 refine ⟨?_,?_,?_,?_⟩ <;> exact Nat.mod_lt _ (by decide)
theorem smN {n:Nat}(h:n<2^64):Sm (n:Int):=Qt (by rw [Int.natAbs_natCast];exact h)
theorem YQ {k x y:Nat}(hx:x<256) (hy:y<256) (hk:k≤128):((Sb20.mixed k x y:Nat):Int)=(x:Int)+((y:Int)-(x:Int))*(k:Int) / 128∧Sb20.mixed k x y<256:=by
 unfold Sb20.mixed
 have h1:((y:Int)-(x:Int))*(k:Int) / 128≥-(x:Int):=by
  have : -(x:Int)*128≤((y:Int)-(x:Int))*(k:Int):=by
   have a1:(0:Int)≤(y:Int)*(k:Int):=Int.mul_nonneg (by lia) (by lia)
   have a2:(x:Int)*(k:Int)≤(x:Int)*128:=Int.mul_le_mul_of_nonneg_left (by lia) (by lia)
   rw [Int.sub_mul,Int.neg_mul];lia
  exact (Int.le_ediv_iff_mul_le (by decide)).mpr this
 have h2:((y:Int)-(x:Int))*(k:Int) / 128≤255-(x:Int):=by
  have a1:((y:Int)-(x:Int))*(k:Int)<(256-(x:Int))*128:=by
   rcases Int.le_total (y:Int) (x:Int) with q | q
   ·have:((y:Int)-(x:Int))*(k:Int)≤0:=Int.mul_nonpos_of_nonpos_of_nonneg (by lia) (by lia)
    lia
   ·have:((y:Int)-(x:Int))*(k:Int)≤((y:Int)-(x:Int))*128:=Int.mul_le_mul_of_nonneg_left (by lia) (by lia)
    lia
  have:=(Int.ediv_lt_iff_lt_mul (a:=((y:Int)-(x:Int))*(k:Int)) (c:=128) (b:=256-(x:Int)) (by decide)).mpr a1
  lia
 constructor
 ·rw [Int.toNat_of_nonneg (by lia)]
 ·lia
theorem ZbG {k:Nat}{p q:Px}(hp:Xf p) (hq:Xf q) (hk:k≤128):Xf (Sb20.Px.zip (Sb20.mixed k) p q) :=
 ⟨(YQ hp.1 hq.1 hk).2,(YQ hp.2.1 hq.2.1 hk).2,(YQ hp.2.2.1 hq.2.2.1 hk).2,(YQ hp.2.2.2 hq.2.2.2 hk).2⟩
section
variable {P:Program}{w:World}{K:PySem.W.Frag}{mg:Str→Option Value}{base:Heap}{RF NT:Addr}
def ZcX (H:Hp) (p:Px) (Q:VK):Prop:=∀ (H':Hp) (t:Addr),Zq H H'→H t=none→H' t=some (.tup (px4 p))→Q (.ref t) H'
def Zih:Sp:=fun vs H Q _=>∃ (n:Nat),vs=[.int n]∧n<2^32∧ZcX H (Sb20.px n) Q
theorem Qi (F:Df K mg "colour_from_number" (top 46) ["number"]):Cal P w K mg base CX0 1 "colour_from_number" ["number"] Zih:=by
 refine F.okS (N:=["number"]) fun S f cdv A outer s H vs Q E hr h=>?_
 obtain ⟨n,rfl,hn,k⟩:=h
 refine ⟨_,(Zf (Zm (Zgh (Za (Zj Zjx (pv 0) Zd) (Za (Zj Zjx (Zj Jz (pv 0) Zd) Zd) (Za (Zj Zjx (Zj Jz (pv 0) Zd) Zd) (Za (Zj Jz (pv 0) Zd) Zb))))))),?_⟩
 have a0:Builtin.bitAnd (n:Int) 255=((n % 256:Nat):Int):=YR n 8 rfl
 have a1:Builtin.bitAnd ((n / 2^8:Nat):Int) 255=((n / 256 % 256:Nat):Int):=YR _ 8 rfl
 have a2:Builtin.bitAnd ((n / 2^16:Nat):Int) 255=((n / 65536 % 256:Nat):Int):=YR _ 8 rfl
 have a3:((n / 2^24:Nat):Int)=((n / 16777216 % 256:Nat):Int):=by
  have:n / 2^24=n / 16777216 % 256:=by lia
  exact congrArg (fun (m:Nat)=>(m:Int)) this
 refine ⟨_,rfl,_,_,_,rfl,rfl,a0,_,rfl,_,_,_,rfl,rfl,(by decide),Xb n 8,_,_,_,rfl,rfl,a1,_,rfl,_,_,_,rfl,rfl,(by decide),Xb n 16,_,_,_,rfl,rfl,a2,_,rfl,_,_,_,rfl,rfl,(by decide),(Xb n 24).trans a3,(by show 4≤sizeLine;decide),fun t ht=>?_⟩
 exact k _ t (Zh ht) ht Ze
def Zim:Sp:=fun vs H Q _=>∃ x y k:Nat,vs=[.int x,.int y,.int k]∧(x<256∧y<256∧k≤128)∧Q (.int (Sb20.mixed k x y:Nat)) H
theorem Zjt (F:Df K mg "mixed" (top 49) ["x","y","k"]):Cal P w K mg base CX0 1 "mixed" ["x","y","k"] Zim:=by
 refine F.okS (N:=["x","y","k"]) fun S f cdv A outer s H vs Q E hr h=>?_
 obtain ⟨x,y,m,rfl,⟨hx,hy,hm⟩,k⟩:=h
 refine ⟨_,(Zf (Zm (Zj Yh (pv 0) (Zj Qc (Zj Xu (Zj YK (pv 1) (pv 0)) (pv 2)) Zd)))),?_⟩
 have hs:Sm ((y:Int)-(x:Int)):=Qt (by lia)
 exact ⟨_,rfl,_,rfl,_,rfl,_,_,_,rfl,rfl,rfl,_,rfl,_,_,_,rfl,rfl,⟨hs,smN (by lia)⟩,rfl,_,_,_,rfl,rfl,⟨by decide,by unfold Sm;decide⟩,rfl,_,_,_,rfl,rfl,(YQ hx hy hm).1.symm,k⟩
def ZiE (K:PySem.W.Frag):Sp:=fun vs H Q _=>∃ (a b:Addr) (p q:Px) (k:Nat),vs=[.ref a,.ref b,.int k]∧Yr K H a p∧Yr K H b q∧k≤128∧ZcX H (Sb20.Px.zip (Sb20.mixed k) p q) Q
theorem ZaK (F:Df K mg "mixed_colour" (top 50) ["x","y","k"])
  (f_mixed:Cal P w K mg base CX0 1 "mixed" ["x","y","k"] Zim):Cal P w K mg base CX0 2 "mixed_colour" ["x","y","k"] (ZiE K):=by
 refine F.okS (N:=["x","y","k"]) fun S f cdv A outer s H vs Q E hr h=>?_
 obtain ⟨a,b,p,q,m,rfl,ha,hb,hm,k⟩:=h
 refine ⟨_,(Zf (Zm (Zgh (Za (Zg f_mixed (hr.mono (by decide)) rfl Zi (Za (Zt (r:=YU K) Xg (pv 0) Zd (fun _ _=>rfl)) (Za (Zt (r:=YU K) Xg (pv 1) Zd (fun _ _=>rfl)) (Za (pv 2) Zb)))) (Za (Zg f_mixed (hr.mono (by decide)) rfl Zi (Za (Zt (r:=YU K) Xg (pv 0) Zd (fun _ _=>rfl)) (Za (Zt (r:=YU K) Xg (pv 1) Zd (fun _ _=>rfl)) (Za (pv 2) Zb)))) (Za (Zg f_mixed (hr.mono (by decide)) rfl Zi (Za (Zt (r:=YU K) Xg (pv 0) Zd (fun _ _=>rfl)) (Za (Zt (r:=YU K) Xg (pv 1) Zd (fun _ _=>rfl)) (Za (pv 2) Zb)))) (Za (Zg f_mixed (hr.mono (by decide)) rfl Zi (Za (Zt (r:=YU K) Xg (pv 0) Zd (fun _ _=>rfl)) (Za (Zt (r:=YU K) Xg (pv 1) Zd (fun _ _=>rfl)) (Za (pv 2) Zb)))) Zb))))))),?_⟩
 refine ⟨_,rfl,a,_,_,_,rfl,rfl,ha.1,ZiJ p,_,rfl,b,_,_,_,rfl,rfl,hb.1,ZiJ q,_,rfl,_,_,_,rfl,⟨ha.2.1,hb.2.1,hm⟩,?_⟩
 refine ⟨_,rfl,a,_,_,_,rfl,rfl,ha.1,Zjr p,_,rfl,b,_,_,_,rfl,rfl,hb.1,Zjr q,_,rfl,_,_,_,rfl,⟨ha.2.2.1,hb.2.2.1,hm⟩,?_⟩
 refine ⟨_,rfl,a,_,_,_,rfl,rfl,ha.1,ZjM p,_,rfl,b,_,_,_,rfl,rfl,hb.1,ZjM q,_,rfl,_,_,_,rfl,⟨ha.2.2.2.1,hb.2.2.2.1,hm⟩,?_⟩
 refine ⟨_,rfl,a,_,_,_,rfl,rfl,ha.1,Zfm p,_,rfl,b,_,_,_,rfl,rfl,hb.1,Zfm q,_,rfl,_,_,_,rfl,⟨ha.2.2.2.2,hb.2.2.2.2,hm⟩,?_⟩
 exact ⟨(by show 4≤sizeLine;decide),fun t ht=>k _ t (Zh ht) ht Ze⟩
def Zhp (f p:Px) (k:Nat):Px:=⟨Sb20.mixed k f.b p.b,Sb20.mixed k f.g p.g,Sb20.mixed k f.r p.r,p.a⟩
theorem ZnA {X:Cx}{K:PySem.W.Frag}(hk:X.K=K:=by rfl):SlR X (ZkP K):=by subst hk;exact ZlP
theorem Zng {X:Cx}{K:PySem.W.Frag}(hk:X.K=K:=by rfl):OpR X (binaryOp .Add) (Zjg K):=by subst hk;exact Zlk
def Zbo (K:PySem.W.Frag):Sp:=fun vs H Q _=>∃ (a b:Addr) (p q:Px) (k:Nat),vs=[.ref a,.ref b,.int k]∧Yr K H a p∧Yr K H b q∧k≤128∧ZcX H (Zhp p q k) Q
theorem Zau (F:Df K mg "fogged_colour" (top 51) ["fog","colour","k"])
  (f_mixed_colour:Cal P w K mg base CX0 2 "mixed_colour" ["x","y","k"] (ZiE K)):Cal P w K mg base CX0 3 "fogged_colour" ["fog","colour","k"] (Zbo K):=by
 refine F.okS (N:=["fog","colour","k"]) fun S f cdv A outer s H vs Q E hr h=>?_
 obtain ⟨a,b,p,q,m,rfl,ha,hb,hm,k⟩:=h
 refine ⟨_,(Zf (Zm (Zj (r:=Zjg K) Zng (ZT (r:=ZkP K) ZnA (Zg f_mixed_colour (hr.mono (by decide)) rfl Zi (Za (pv 0) (Za (pv 1) (Za (pv 2) Zb)))) Xp (ZG Zd)) (ZT (r:=ZkP K) ZnA (pv 1) (ZG Zd) Xp)))),?_⟩
 refine ⟨_,rfl,_,rfl,_,rfl,a,b,p,q,m,rfl,ha,hb,hm,fun H1 t1 s1 n1 e1=>?_⟩
 have c1:YV (px4 (Sb20.Px.zip (Sb20.mixed m) p q)) none (some 3)=[.int (Sb20.mixed m p.b q.b:Nat),.int (Sb20.mixed m p.g q.g:Nat),.int (Sb20.mixed m p.r q.r:Nat)]:=rfl
 have c2:YV (px4 q) (some 3) none=[.int (q.a:Nat)]:=rfl
 refine ⟨3,rfl,t1,_,rfl,SqT.of e1,(fun z=>absurd z.2 (by show ¬ (3:Nat)=4;decide)),fun t2 n2=>?_⟩
 rw [c1]
 have s2:=Zr (o:=.tup [.int (Sb20.mixed m p.b q.b:Nat),.int (Sb20.mixed m p.g q.g:Nat),.int (Sb20.mixed m p.r q.r:Nat)]) s1 (s1.free n2)
 have h2:upd H1 t2 (.tup [.int (Sb20.mixed m p.b q.b:Nat),.int (Sb20.mixed m p.g q.g:Nat),.int (Sb20.mixed m p.r q.r:Nat)]) t2=some (.tup [.int (Sb20.mixed m p.b q.b:Nat),.int (Sb20.mixed m p.g q.g:Nat),.int (Sb20.mixed m p.r q.r:Nat)]):=Ze
 generalize upd H1 t2 (.tup [.int (Sb20.mixed m p.b q.b:Nat),.int (Sb20.mixed m p.g q.g:Nat),.int (Sb20.mixed m p.r q.r:Nat)])=H2 at *
 refine ⟨_,rfl,3,rfl,b,_,rfl,(hb.same s2).1,(fun z=>absurd z.1 (by show ¬ (3:Nat)=0;decide)),fun t3 n3=>?_⟩
 rw [c2]
 have s3:=Zh (o:=.tup [.int (q.a:Nat)]) n3
 refine ⟨t2,t3,_,_,rfl,rfl,SqT.of (s3 _ _ h2),SqT.of Ze,(by simp),(by show 4≤sizeLine;decide),(fun z=>by cases z),fun _ t4 n4=>?_⟩
 have s23:=s2.trans s3
 exact k _ t4 (Zr s23 (s23.free n4)) (s23.free n4) Ze
def Zhq (p:Px) (l:Nat):Px:=⟨p.b*l / 256,p.g*l / 256,p.r*l / 256,p.a⟩
theorem Zjl {p:Px}{l:Nat}(hp:Xf p) (hl:l≤256):Xf (Zhq p l):=by
 have h:∀ x,x<256→x*l / 256<256:=fun x hx=>by
  have:x*l≤x*256:=Nat.mul_le_mul_left _ hl
  lia
 exact ⟨h _ hp.1,h _ hp.2.1,h _ hp.2.2.1,hp.2.2.2⟩
theorem ZiO {f p:Px}{k:Nat}(hf:Xf f) (hp:Xf p) (hk:k≤128):Xf (Zhp f p k) :=
 ⟨(YQ hf.1 hp.1 hk).2,(YQ hf.2.1 hp.2.1 hk).2,(YQ hf.2.2.1 hp.2.2.1 hk).2,hp.2.2.2⟩
def Zgu (K:PySem.W.Frag):Sp:=fun vs H Q _=>∃ (a:Addr) (p:Px) (l:Nat),vs=[.ref a,.int l]∧Yr K H a p∧l≤256∧ZcX H (Zhq p l) Q
theorem Zcx (F:Df K mg "lit_colour" (top 52) ["colour","brightness"]):Cal P w K mg base CX0 1 "lit_colour" ["colour","brightness"] (Zgu K):=by
 refine F.okS (N:=["colour","brightness"]) fun S f cdv A outer s H vs Q E hr h=>?_
 obtain ⟨a,p,l,rfl,ha,hl,k⟩:=h
 refine ⟨_,(Zf (Zm (Zgh (Za (Zj Jz (Zj Xu (Zt (r:=YU K) Xg (pv 0) Zd (fun _ _=>rfl)) (pv 1)) Zd) (Za (Zj Jz (Zj Xu (Zt (r:=YU K) Xg (pv 0) Zd (fun _ _=>rfl)) (pv 1)) Zd) (Za (Zj Jz (Zj Xu (Zt (r:=YU K) Xg (pv 0) Zd (fun _ _=>rfl)) (pv 1)) Zd) (Za (Zt (r:=YU K) Xg (pv 0) Zd (fun _ _=>rfl)) Zb))))))),?_⟩
 have sl:Sm (l:Int):=smN (by lia)
 have e:∀ x:Nat,(x:Int)*(l:Int) / 2^(8:Int).toNat=((x*l / 256:Nat):Int):=fun x=>by
  rw [← Int.natCast_mul];exact Xb _ 8
 refine ⟨_,rfl,a,_,_,_,rfl,rfl,ha.1,ZiJ p,_,rfl,_,_,_,rfl,rfl,⟨smN (Nat.lt_trans ha.2.1 (by decide)),sl⟩,rfl,_,_,_,rfl,rfl,(by decide),e _,?_⟩
 refine ⟨_,rfl,a,_,_,_,rfl,rfl,ha.1,Zjr p,_,rfl,_,_,_,rfl,rfl,⟨smN (Nat.lt_trans ha.2.2.1 (by decide)),sl⟩,rfl,_,_,_,rfl,rfl,(by decide),e _,?_⟩
 refine ⟨_,rfl,a,_,_,_,rfl,rfl,ha.1,ZjM p,_,rfl,_,_,_,rfl,rfl,⟨smN (Nat.lt_trans ha.2.2.2.1 (by decide)),sl⟩,rfl,_,_,_,rfl,rfl,(by decide),e _,?_⟩
 refine ⟨_,rfl,a,_,_,_,rfl,rfl,ha.1,Zfm p,?_⟩
 exact ⟨(by show 4≤sizeLine;decide),fun t ht=>k _ t (Zh ht) ht Ze⟩
theorem Zfr {f:Nat→Nat→Nat}{p q:Px}{i:Nat}{x y:V}(h1:(px4 p)[i]?=some x) (h2:(px4 q)[i]?=some y):∃ a b:Nat,x=.int (a:Nat)∧y=.int (b:Nat)∧(Xf p→a<256)∧(Xf q→b<256)∧(px4 (Sb20.Px.zip f p q))[i]?=some (.int ((f a b:Nat):Int)):=by
 match i,h1,h2 with
 | 0,h1,h2=>exact ⟨p.b,q.b,(Option.some.inj h1).symm,(Option.some.inj h2).symm,fun h=>h.1,fun h=>h.1,rfl⟩
 | 1,h1,h2=>exact ⟨p.g,q.g,(Option.some.inj h1).symm,(Option.some.inj h2).symm,fun h=>h.2.1,fun h=>h.2.1,rfl⟩
 | 2,h1,h2=>exact ⟨p.r,q.r,(Option.some.inj h1).symm,(Option.some.inj h2).symm,fun h=>h.2.2.1,fun h=>h.2.2.1,rfl⟩
 | 3,h1,h2=>exact ⟨p.a,q.a,(Option.some.inj h1).symm,(Option.some.inj h2).symm,fun h=>h.2.2.2,fun h=>h.2.2.2,rfl⟩
 | i+4,h1,h2=>simp [px4] at h1
def Zkb (K:PySem.W.Frag):Sp:=fun vs H Q _=>∃ (a b:Addr) (p q:Px),vs=[.ref a,.ref b]∧Yr K H a p∧Yr K H b q∧ZcX H (Sb20.Px.zip (fun x y=>min 255 (x+y)) p q) Q
theorem ZaH (F:Df K mg "added_colour" (top 53) ["x","y"])
  (b_min:mg "min"=none)
  (b_tuple:mg "tuple"=none)
  (b_zip:mg "zip"=none):Cal P w K mg base CX0 1 "added_colour" ["x","y"] (Zkb K):=by
 refine F.okS (N:=["x","y","a","b"]) fun S f cdv A outer s H vs Q E hr h=>?_
 obtain ⟨a,b,p,q,rfl,ha,hb,k⟩:=h
 refine ⟨_,(Zf (Zm (QV (r:=Zdu K) tupK (by rfl) b_tuple Pv.boot_tuple (Za (Qg (own:=[("a",2),("b",3)]) rfl S.nd (Zhh rfl b_zip (Za (pv 0) (Za (pv 1) Zb))) (show Yj ["x","y","a","b"] (Zk (top 53)) _ _ from ⟨rfl,by decide +kernel,by decide +kernel,by decide +kernel,by decide +kernel⟩) (fun _ _ _ _ _=>Jh (i:=2) (j:=3) rfl S.nd rfl rfl (Or.inl rfl) (Or.inl rfl) (Or.inr rfl) (Or.inr rfl) rfl) (fun _ _ _ _ _=>ZY) (fun _ _ _ _ _=>(ZP (ZjR rfl) (by rfl) b_min boot_min (Za (Zj Yh (pv 2) (pv 3)) (Za Zd Zb))))) Zb)))),?_⟩
 refine ⟨_,rfl,_,rfl,a,b,_,_,rfl,ha.1,hb.1,fun D hD=>?_⟩
 refine ZgK (K:=K) (xs:=px4 p) (ys:=px4 q) (n:=4) (p:=2) (q:=3) (fun i H'=>Zq H H'∧H' D=some (.lst ((px4 (Sb20.Px.zip (fun x y=>min 255 (x+y)) p q)).take i))) rfl rfl ⟨Zh hD,Ze⟩ ?_ ?_ ?_
 ·rintro i H' _ ⟨s1,_⟩
  exact ⟨(ha.same s1).1,(hb.same s1).1⟩
 ·rintro i H' T x y hi hx hy ⟨s1,e1⟩ hT
  obtain ⟨u,v,rfl,rfl,hu,hv,hz⟩:=Zfr (f:=fun x y=>min 255 (x+y)) hx hy
  have hm:min ((u:Int)+(v:Int)) 255=((min 255 (u+v):Nat):Int):=by lia
  have nT:D≠T:=Zs e1 hT
  refine ⟨rfl,_,rfl,_,rfl,_,_,_,rfl,rfl,rfl,_,_,_,rfl,hm,_,(by rw [Zn nT];exact e1),?_,?_,?_⟩
  ·rw [List.length_take];exact Nat.lt_of_le_of_lt (Nat.min_le_right _ _) (by show 4<sizeLine;decide)
  ·exact Zr (Zr s1 (s1.free hT)) hD
  ·rw [Ze,take_snoc hz]
 ·rintro H' ⟨s1,e1⟩
  refine ⟨D,_,rfl,SqL.of e1,fun l hl=>?_⟩
  exact k _ l (Zr s1 (s1.free hl)) (s1.free hl) Ze
def ZjY (K:PySem.W.Frag):Sp:=fun vs H Q _=>∃ (a b:Addr) (p q:Px),vs=[.ref a,.ref b]∧Yr K H a p∧Yr K H b q∧ZcX H (Sb20.Px.zip Sb20.mean p q) Q
theorem Zbk (F:Df K mg "mean_colour" (top 54) ["x","y"])
  (b_tuple:mg "tuple"=none)
  (b_zip:mg "zip"=none):Cal P w K mg base CX0 1 "mean_colour" ["x","y"] (ZjY K):=by
 refine F.okS (N:=["x","y","a","b"]) fun S f cdv A outer s H vs Q E hr h=>?_
 obtain ⟨a,b,p,q,rfl,ha,hb,k⟩:=h
 refine ⟨_,(Zf (Zm (QV (r:=Zdu K) tupK (by rfl) b_tuple Pv.boot_tuple (Za (Qg (own:=[("a",2),("b",3)]) rfl S.nd (Zhh rfl b_zip (Za (pv 0) (Za (pv 1) Zb))) (show Yj ["x","y","a","b"] (Zk (top 54)) _ _ from ⟨rfl,by decide +kernel,by decide +kernel,by decide +kernel,by decide +kernel⟩) (fun _ _ _ _ _=>Jh (i:=2) (j:=3) rfl S.nd rfl rfl (Or.inl rfl) (Or.inl rfl) (Or.inr rfl) (Or.inr rfl) rfl) (fun _ _ _ _ _=>ZY) (fun _ _ _ _ _=>(Zj Qc (Zj Yh (Zj Yh (pv 2) (pv 3)) Zd) Zd))) Zb)))),?_⟩
 refine ⟨_,rfl,_,rfl,a,b,_,_,rfl,ha.1,hb.1,fun D hD=>?_⟩
 refine ZgK (K:=K) (xs:=px4 p) (ys:=px4 q) (n:=4) (p:=2) (q:=3) (fun i H'=>Zq H H'∧H' D=some (.lst ((px4 (Sb20.Px.zip Sb20.mean p q)).take i))) rfl rfl ⟨Zh hD,Ze⟩ ?_ ?_ ?_
 ·rintro i H' _ ⟨s1,_⟩
  exact ⟨(ha.same s1).1,(hb.same s1).1⟩
 ·rintro i H' T x y hi hx hy ⟨s1,e1⟩ hT
  obtain ⟨u,v,rfl,rfl,hu,hv,hz⟩:=Zfr (f:=Sb20.mean) hx hy
  have hm:((u:Int)+(v:Int)+1) / 2=((Sb20.mean u v:Nat):Int):=by unfold Sb20.mean;lia
  have nT:D≠T:=Zs e1 hT
  refine ⟨rfl,_,rfl,_,rfl,_,_,_,rfl,rfl,rfl,_,_,_,rfl,rfl,rfl,_,_,_,rfl,rfl,⟨by decide,by unfold Sm;decide⟩,hm,_,(by rw [Zn nT];exact e1),?_,?_,?_⟩
  ·rw [List.length_take];exact Nat.lt_of_le_of_lt (Nat.min_le_right _ _) (by show 4<sizeLine;decide)
  ·exact Zr (Zr s1 (s1.free hT)) hD
  ·rw [Ze,take_snoc hz]
 ·rintro H' ⟨s1,e1⟩
  refine ⟨D,_,rfl,SqL.of e1,fun l hl=>?_⟩
  exact k _ l (Zr s1 (s1.free hl)) (s1.free hl) Ze
theorem ZhW {p q:Px}(hp:Xf p) (hq:Xf q):Xf (Sb20.Px.zip Sb20.mean p q):=by
 obtain ⟨a1,a2,a3,a4⟩:=hp
 obtain ⟨b1,b2,b3,b4⟩:=hq
 unfold Xf Sb20.Px.zip Sb20.mean
 refine ⟨?_,?_,?_,?_⟩ <;> simp only <;> lia
theorem Zkl {p q:Px}:Xf (Sb20.Px.zip (fun x y=>min 255 (x+y)) p q):=by
 unfold Xf Sb20.Px.zip
 refine ⟨?_,?_,?_,?_⟩ <;> simp only <;> lia
def Zw (K:PySem.W.Frag) (H:Hp) (as:List Addr) (ps:List Px):Prop:=as.length=ps.length∧∀ (i:Nat) (a:Addr) (p:Px),as[i]?=some a→ps[i]?=some p→Yr K H a p
theorem Zw.same {H H':Hp}{as:List Addr}{ps:List Px}(h:Zw K H as ps) (s:Zq H H'):Zw K H' as ps:=⟨h.1,fun i a p h1 h2=>(h.2 i a p h1 h2).same s⟩
theorem Zw.snoc {H:Hp}{as:List Addr}{ps:List Px}{a:Addr}{p:Px}(h:Zw K H as ps) (hp:Yr K H a p):Zw K H (as++[a]) (ps++[p]):=by
 refine ⟨by rw [List.length_append,List.length_append,h.1];rfl,fun i b q h1 h2=>?_⟩
 by_cases hi:i<as.length
 ·rw [List.getElem?_append_left hi] at h1
  rw [List.getElem?_append_left (by rw [← h.1];exact hi)] at h2
  exact h.2 i b q h1 h2
 ·rw [List.getElem?_append_right (by lia)] at h1
  rw [List.getElem?_append_right (by rw [← h.1];lia),← h.1] at h2
  cases e:i-as.length with
  | zero =>
   rw [e] at h1 h2
   cases h1;cases h2;exact hp
  | succ m=>rw [e] at h1;simp at h1
theorem Zw.nil {H:Hp}:Zw K H [] []:=⟨rfl,fun i a p h=>by simp at h⟩
theorem ZcV:∀ {n i:Nat}{bs:List Nat},bs.length=4*n→i<n→∃ b g r a,(Sb20.texels bs)[i]?=some ⟨b,g,r,a⟩∧(bs.drop (4*i)).take 4=[b,g,r,a]∧b∈bs∧g∈bs∧r∈bs∧a∈bs
 | 0,i,bs,_,h=>by lia
 | n+1,0,b::g::r::a::l,h,_=>⟨b,g,r,a,rfl,rfl,by simp,by simp,by simp,by simp⟩
 | n+1,i+1,b::g::r::a::l,h,hi=>by
  obtain ⟨b',g',r',a',h1,h2,m1,m2,m3,m4⟩:=ZcV (n:=n) (i:=i) (bs:=l) (by simp at h;lia) (by lia)
  refine ⟨b',g',r',a',h1,?_,by simp [m1],by simp [m2],by simp [m3],by simp [m4]⟩
  rw [show 4*(i+1)=4*i+4 by lia]
  exact h2
 | n+1,_,[],h,_=>by simp at h
 | n+1,_,[_],h,_=>by simp at h;lia
 | n+1,_,[_,_],h,_=>by simp at h;lia
 | n+1,_,[_,_,_],h,_=>by simp at h;lia
theorem Jl:∀ {n:Nat}{bs:List Nat},bs.length=4*n→(Sb20.texels bs).length=n
 | 0,[],_=>rfl
 | n+1,b::g::r::a::l,h=>by
  show (Sb20.texels l).length+1=n+1
  rw [Jl (n:=n) (by simp at h;lia)]
 | n+1,[],h=>by simp at h
 | n+1,[_],h=>by simp at h;lia
 | n+1,[_,_],h=>by simp at h;lia
 | n+1,[_,_,_],h=>by simp at h;lia
 | 0,_::_,h=>by simp at h
def ZmO (K:PySem.W.Frag):Sp:=fun vs H Q _=>∃ (a:Addr) (bs:List Nat) (n:Nat),vs=[.ref a]∧SqL K H a (vn bs)∧bs.length=4*n∧n≤5000∧(∀ b∈bs,b<256) ∧
 ∀ (H':Hp) (l:Addr) (as:List Addr),Zq H H'→H l=none→H' l=some (.lst (as.map V.ref))→Zw K H' as (Sb20.texels bs)→Q (.ref l) H'
theorem Zjo {bs:List Nat}{i j:Nat}:((vn bs).drop i).take j=vn ((bs.drop i).take j):=by unfold vn;rw [List.map_take,List.map_drop]
theorem Ql (F:Df K mg "colours_from_bytes" (top 47) ["row"])
  (b_len:mg "len"=none)
  (b_range:mg "range"=none)
  (b_tuple:mg "tuple"=none):Cal P w K mg base CX0 1 "colours_from_bytes" ["row"] (ZmO K):=by
 refine F.okS (N:=["row","start"]) fun S f cdv A outer s H vs Q E hr h=>?_
 obtain ⟨a,bs,n,rfl,ha,hlen,hn,hb,k⟩:=h
 refine ⟨_,(Zf (Zm (Qg (own:=[("start",1)]) rfl S.nd (Xs rfl b_range (Za Zd (Za (ZP (r:=Zfj K) Zgt (by rfl) b_len PySem.boot_len (Za (pv 0) Zb)) (Za Zd Zb)))) (show Yj ["row","start"] (Zk (top 47)) _ _ from ⟨rfl,by decide +kernel,by decide +kernel,by decide +kernel,by decide +kernel⟩) (fun _ _ _ _ _=>ZO (i:=1) S.nd rfl (Or.inl rfl)) (fun _ _ _ _ _=>ZY) (fun _ _ _ _ _=>(QV (r:=Zdu K) tupK (by rfl) b_tuple Pv.boot_tuple (Za (ZT (r:=Qj K) slK (pv 0) (ZG (pv 1)) (ZG (Zj Yh (pv 1) Zd))) Zb)))))),?_⟩
 refine ⟨_,rfl,a,_,((4*n:Nat):Int),rfl,.inl ha,by rw [QL,hlen],_,_,_,n,rfl,?_,?_⟩
 ·exact JN 4 n (by decide) (by decide) (by lia)
 intro D hD
 refine Zaf (lo:=0) (c:=4) (n:=n) (fun i H'=>∃ as:List Addr,Zq H H'∧H' D=some (.lst (as.map V.ref))∧as.length=i∧Zw K H' as ((Sb20.texels bs).take i)) ⟨[],Zh hD,Ze,rfl,Zw.nil⟩ ?_ ?_
 ·rintro i H' hi ⟨as,s1,e1,hl,hP⟩
  refine ⟨rfl,YG ?_⟩
  have e4:(0:Int)+((i:Nat):Int)*4=((4*i:Nat):Int):=by lia
  obtain ⟨tb,tg,tr,ta,ht,hc,mb,mg',mr,ma⟩:=ZcV hlen hi
  refine ⟨_,rfl,_,rfl,_,rfl,_,rfl,_,_,((4*i+4:Nat):Int),rfl,rfl,by lia,_,rfl,a,_,rfl,s1.seq ha,fun q hq=>?_⟩
  rw [e4,Xh (by lia) (by rw [QL];lia),show 4*i+4-4*i=4 by lia,Zjo,hc]
  have s2:=Zr (o:=.lst (vn [tb,tg,tr,ta])) s1 (s1.free hq)
  have nq:D≠q:=Zs e1 hq
  refine ⟨q,_,rfl,SqL.of Ze,fun t ht'=>?_⟩
  have nt:D≠t:=Zs (show upd H' q _ D=_ from (Zn nq).trans e1) ht'
  have s3:=Zr (o:=.tup (vn [tb,tg,tr,ta])) s2 (s2.free ht')
  have hs13:Zq H' (upd (upd H' q (.lst (vn [tb,tg,tr,ta]))) t (.tup (vn [tb,tg,tr,ta]))):=Zr (Zh hq) ((Zh hq).free ht')
  refine ⟨as.map V.ref,(by rw [Zn nt,Zn nq];exact e1),by rw [List.length_map];exact Nat.lt_of_lt_of_le (show as.length<16777216 by lia) (by decide),as++[t],Zr s3 hD,?_,?_,?_⟩
  ·rw [Ze,List.map_append];rfl
  ·rw [List.length_append,hl];rfl
  ·rw [take_snoc ht]
   have hk:∀ b (zs:List V),SqT K (upd (upd H' q (.lst (vn [tb,tg,tr,ta]))) t (.tup (vn [tb,tg,tr,ta]))) b zs→SqT K (upd (upd (upd H' q (.lst (vn [tb,tg,tr,ta]))) t (.tup (vn [tb,tg,tr,ta]))) D (.lst (as.map V.ref++[V.ref t]))) b zs:=by
    rintro b zs ((h | ⟨o,h⟩) | h)
    ·refine .inl (.inl ?_)
     rw [Zn];exact h
     intro z;subst z
     rw [Zn nt,Zn nq,e1] at h;cases h
    ·refine .inl (.inr ⟨o,?_⟩)
     rw [Zn];exact h
     intro z;subst z
     rw [Zn nt,Zn nq,e1] at h;cases h
    ·exact .inr h
   have hP2:=hP.same hs13
   refine Zw.snoc ⟨hP2.1,fun j b p h1 h2=>⟨hk b _ (hP2.2 j b p h1 h2).1,(hP2.2 j b p h1 h2).2⟩⟩ ⟨hk t _ (SqT.of Ze),hb _ mb,hb _ mg',hb _ mr,hb _ ma⟩
 ·rintro H' ⟨as,s1,e1,hl,hP⟩
  rw [List.take_of_length_le (by rw [Jl hlen];exact Nat.le_refl _)] at hP
  exact k H' D as s1 hD e1 hP
def Zmb (K:PySem.W.Frag):Sp:=fun vs H Q _=>∃ (a:Addr) (as:List Addr) (ps:List Px),vs=[.ref a]∧SqL K H a (as.map V.ref)∧Zw K H as ps∧ps.length≤300 ∧
 ∀ (H':Hp) (l:Addr),Zq H H'→H l=none→H' l=some (.lst (vn ((ps.map Sb20.Px.bytes).flatten)))→Q (.ref l) H'
theorem Zdf (ps:List Px):((ps.map Sb20.Px.bytes).flatten).length=4*ps.length:=by
 induction ps with
 | nil=>rfl
 | cons p ps ih=>rw [List.map_cons,List.flatten_cons,List.length_append,ih,List.length_cons];show 4+_=_;lia
theorem Qh (F:Df K mg "bytes_from_colours" (top 48) ["colours"]):Cal P w K mg base CX0 1 "bytes_from_colours" ["colours"] (Zmb K):=by
 refine F.okS (N:=["colours","row","colour"]) fun S f cdv A outer s H vs Q E hr h=>?_
 obtain ⟨a,as,ps,rfl,ha,hP,hn,k⟩:=h
 refine ⟨_,(Zc (Zl (i:=1) S.nd rfl (Or.inl rfl) (ZL Zb)) (Zc (Xr PassesOwn.never rfl (Yu (pv 0)) (ZO (i:=2) S.nd rfl (Or.inl rfl)) (Zf (ZU (Qn PySem.F.plainAttrs_list PySem.F.slot_list_extend PySem.F.type_list_extend (ZkL (K:=K)) (pv 1) (Za (pv 2) Zb))))) (Zf (Zm (pv 1))))),?_⟩
 refine ⟨(by show 0≤sizeLine;decide),fun l hl=>?_⟩
 refine ⟨_,rfl,a,rfl,⟨_,(Zh hl).seq ha⟩,ZbV (K:=K) (a:=a) (xs:=as.map V.ref) (fun i σ H'=>∃ v:Option V,σ=[some (.ref a),some (.ref l),v]∧Zq H H'∧H' l=some (.lst (vn (((ps.take i).map Sb20.Px.bytes).flatten))))
   ⟨none,rfl,Zh hl,Ze⟩ (fun i σ H' _ ⟨_,_,s1,_⟩=>s1.seq ha) ?_ ?_⟩
 ·rintro i v σ H' hi ⟨v0,rfl,s1,e1⟩
  rw [List.getElem?_map] at hi
  obtain ⟨b,hb,rfl⟩:∃ b,as[i]?=some b∧v=V.ref b:=by
   cases e:as[i]? with
   | none=>rw [e] at hi;cases hi
   | some b=>rw [e] at hi;exact ⟨b,rfl,(Option.some.inj hi).symm⟩
  have hil:i<ps.length:=by rw [← hP.1];exact (List.getElem?_eq_some_iff.mp hb).1
  have hp:ps[i]?=some ps[i]:=List.getElem?_eq_getElem hil
  have hb2:=(hP.2 i b _ hb hp).same s1
  refine ⟨_,rfl,.inl ⟨rfl,_,SqL.of e1⟩,_,rfl,l,b,_,_,rfl,rfl,e1,hb2.1,?_,?_⟩
  ·rw [QL,Zdf,List.length_take]
   exact Nat.le_trans (show 4*min i ps.length+4≤16777216 by lia) (by decide)
  ·refine ⟨some (.ref b),rfl,Zr s1 hl,?_⟩
   rw [Ze,take_snoc hp,List.map_append,List.flatten_append]
   unfold vn
   rw [List.map_append];rfl
 ·rintro σ H' ⟨v0,rfl,s1,e1⟩
  rw [List.length_map,hP.1,List.take_length] at e1
  exact ⟨_,rfl,k H' l s1 hl e1⟩
end
end Sg
namespace Sg
open PySem PySem.Spec PyProof.Rows L2 LX SbM
structure Xa (K:PySem.W.Frag) (C:Addr):Prop where
 cl:Cls K C
 n_width:Zz K C "width"
 n_height:Zz K C "height"
 n_colours:Zz K C "colours"
 n_depths:Zz K C "depths"
 n_textures:Zz K C "textures"
 n_matrix:Zz K C "matrix"
 n_view:Zz K C "view"
 n_light:Zz K C "light"
 n_fog:Zz K C "fog"
def YY (v_width v_height v_colours v_depths v_textures v_matrix v_view v_light v_fog:V):List (Str×V):=[("width",v_width),("height",v_height),("colours",v_colours),("depths",v_depths),("textures",v_textures),("matrix",v_matrix),("view",v_view),("light",v_light),("fog",v_fog)]
structure JG (K:PySem.W.Frag) (C:Addr):Prop where
 cl:Cls K C
 n_log:Zz K C "log"
 n_side:Zz K C "side"
 n_colours:Zz K C "colours"
def Zfa (v_log v_side v_colours:V):List (Str×V):=[("log",v_log),("side",v_side),("colours",v_colours)]
structure ZkB (K:PySem.W.Frag) (C:Addr):Prop where
 cl:Cls K C
 n_colour:Zz K C "colour"
 n_far:Zz K C "far"
 n_scale:Zz K C "scale"
def Zml (v_colour v_far v_scale:V):List (Str×V):=[("colour",v_colour),("far",v_far),("scale",v_scale)]
structure ZeL (K:PySem.W.Frag) (C:Addr):Prop where
 cl:Cls K C
 n_a:Zz K C "a"
 n_b:Zz K C "b"
 n_fall:Zz K C "fall"
 n_least:Zz K C "least"
def ZlB (v_a v_b v_fall v_least:V):List (Str×V):=[("a",v_a),("b",v_b),("fall",v_fall),("least",v_least)]
structure Zbb (K:PySem.W.Frag) (C:Addr):Prop where
 cl:Cls K C
 n_x:Zz K C "x"
 n_y:Zz K C "y"
 n_depth:Zz K C "depth"
 n_r:Zz K C "r"
 n_ur:Zz K C "ur"
 n_vr:Zz K C "vr"
 n_light:Zz K C "light"
def Zhr (v_x v_y v_depth v_r v_ur v_vr v_light:V):List (Str×V):=[("x",v_x),("y",v_y),("depth",v_depth),("r",v_r),("ur",v_ur),("vr",v_vr),("light",v_light)]
structure QQ (K:PySem.W.Frag) (C:Addr):Prop where
 cl:Cls K C
 n_area:Zz K C "area"
 n_edges:Zz K C "edges"
 n_depths:Zz K C "depths"
 n_rs:Zz K C "rs"
 n_urs:Zz K C "urs"
 n_vrs:Zz K C "vrs"
 n_lights:Zz K C "lights"
 n_texture:Zz K C "texture"
 n_way:Zz K C "way"
def Zia (v_area v_edges v_depths v_rs v_urs v_vrs v_lights v_texture v_way:V):List (Str×V):=[("area",v_area),("edges",v_edges),("depths",v_depths),("rs",v_rs),("urs",v_urs),("vrs",v_vrs),("lights",v_lights),("texture",v_texture),("way",v_way)]
structure Zu (K:PySem.W.Frag) (cCv cTx cFg cEg cCo cTr:Addr):Prop where
 Canvas:Xa K cCv
 Texture:JG K cTx
 Fog:ZkB K cFg
 Edge:ZeL K cEg
 Corner:Zbb K cCo
 Triangle:QQ K cTr
def Kp (A:List Addr) (H H':Hp):Prop:=(∀ b∈A,∃ xs,H b=some (.lst xs))∧∀ b o,H b=some o→b∉A→H' b=some o
theorem Kp.trans {A:List Addr}{H H1 H2:Hp}(a:Kp A H H1) (b:Kp A H1 H2):Kp A H H2:=⟨a.1,fun c o h n=>b.2 c o (a.2 c o h n) n⟩
theorem Kp.of_same {A:List Addr}{H H1:Hp}(hA:∀ b∈A,∃ xs,H b=some (.lst xs)) (s:Zq H H1):Kp A H H1:=⟨hA,fun c o h _=>s c o h⟩
theorem Kp.other {A:List Addr}{H H1:Hp}(k:Kp A H H1){b:Addr}{o:HO}(h:H b=some o) (n:∀ xs,o≠.lst xs):H1 b=some o :=
 k.2 b o h fun z=>by obtain ⟨xs,e⟩:=k.1 b z;rw [e] at h;cases h;exact n xs rfl
theorem Kp.seqT {K:PySem.W.Frag}{A:List Addr}{H H1:Hp}(k:Kp A H H1){b:Addr}{xs:List V}(h:SqT K H b xs):SqT K H1 b xs:=by
 rcases h with (h | ⟨o,h⟩) | h
 ·exact .inl (.inl (k.other h fun _ z=>by cases z))
 ·exact .inl (.inr ⟨o,k.other h fun _ z=>by cases z⟩)
 ·exact .inr h
theorem Kp.px {K:PySem.W.Frag}{A:List Addr}{H H1:Hp}(k:Kp A H H1){b:Addr}{p:Px}(h:Yr K H b p):Yr K H1 b p:=⟨k.seqT h.1,h.2⟩
theorem Kp.pxs {K:PySem.W.Frag}{A:List Addr}{H H1:Hp}(k:Kp A H H1){as:List Addr}{ps:List Px}(h:Zw K H as ps):Zw K H1 as ps:=⟨h.1,fun i a p h1 h2=>k.px (h.2 i a p h1 h2)⟩
theorem Kp.none {A:List Addr}{H H1:Hp}(k:Kp A H H1){b:Addr}(h:H1 b=Option.none) (n:b∉A):H b=Option.none:=by
 cases e:H b with
 | none=>rfl
 | some o=>rw [k.2 b o e n] at h;cases h
def QW (K:PySem.W.Frag) (C:Addr) (H:Hp) (A:List Addr) (ta:Addr) (t:Sb20.Texture):Prop :=
 ∃ (dx tl:Addr) (as:List Addr),H ta=some (.ins C dx (Zfa (.int (t.log:Nat)) (.int ((2^t.log:Nat):Int)) (.ref tl)))∧H tl=some (.lst (as.map V.ref))∧tl∉A∧Zw K H as t.pixels∧t.log≤6∧t.pixels.length=2^t.log*2^t.log
theorem QW.kp {K:PySem.W.Frag}{C:Addr}{H H1:Hp}{A:List Addr}{ta:Addr}{t:Sb20.Texture}(h:QW K C H A ta t) (k:Kp A H H1):QW K C H1 A ta t:=by
 obtain ⟨dx,tl,as,h1,h2,h3,h4,h5,h6⟩:=h
 exact ⟨dx,tl,as,k.other h1 (fun _ z=>by cases z),k.2 _ _ h2 h3,h3,k.pxs h4,h5,h6⟩
def Xi (K:PySem.W.Frag) (C:Addr) (H:Hp) (v:V) (f:Option Sb20.Fog):Prop:=match f with
 | none=>v=.non
 | some f=>∃ fa dx ct,v=.ref fa∧H fa=some (.ins C dx (Zml (.ref ct) (.int f.far) (.int f.scale)))∧Yr K H ct f.colour∧Bd 171 f.far∧Bd 400 f.scale
theorem Xi.kp {K:PySem.W.Frag}{C:Addr}{H H1:Hp}{A:List Addr}{v:V}{f:Option Sb20.Fog}(h:Xi K C H v f) (k:Kp A H H1):Xi K C H1 v f:=by
 cases f with
 | none=>exact h
 | some f =>
  obtain ⟨fa,dx,ct,h1,h2,h3,h4⟩:=h
  exact ⟨fa,dx,ct,h1,k.other h2 (fun _ z=>by cases z),k.px h3,h4⟩
def LstAt (H:Hp) (A:List Addr) (m:Addr) (ms:List Int) (n:Nat):Prop:=H m=some (.lst (ms.map V.int))∧m∉A∧ms.length=n∧∀ x∈ms,Bd 171 x
theorem LstAt.kp {H H1:Hp}{A:List Addr}{m:Addr}{ms:List Int}{n:Nat}(h:LstAt H A m ms n) (k:Kp A H H1):LstAt H1 A m ms n:=⟨k.2 _ _ h.1 h.2.1,h.2⟩
structure CvD where
 dx:Addr
 tx:Addr
 mx:Addr
 vw:Addr
 lt:Addr
 fg:V
 as:List Addr
 kvs:List (Key×V)
structure WF (s:Sb20.St):Prop where
 w:s.w≤256
 h:s.h≤256
 cl:s.colours.length=s.w*s.h
 dl:s.depths.length=s.w*s.h
 tl:s.textures.length=8
structure YZ (K:PySem.W.Frag) (cCv cTx cFg:Addr) (H:Hp) (c:Addr) (N:Nat) (s:Sb20.St) (cl dl:Addr) (d:CvD):Prop where
 ins:H c=some (.ins cCv d.dx (YY (.int (s.w:Nat)) (.int (s.h:Nat)) (.ref cl) (.ref dl) (.ref d.tx) (.ref d.mx) (.ref d.vw) (.ref d.lt) d.fg))
 cs:H cl=some (.lst (d.as.map V.ref))
 px:Zw K H d.as s.colours
 ds:H dl=some (.lst (s.depths.map V.int))
 ne:cl≠dl
 tx:H d.tx=some (.dK d.kvs)
 tn:d.kvs.length≤N
 ta:∀ k:Nat,k<8→match s.texture k with
  | none=>YO d.kvs (Sum.inl (k:Int))=none
  | some t=>∃ a,YO d.kvs (Sum.inl (k:Int))=some (.ref a)∧QW K cTx H [cl,dl] a t
 mx:LstAt H [cl,dl] d.mx s.matrix 16
 vw:LstAt H [cl,dl] d.vw s.view 4
 lt:LstAt H [cl,dl] d.lt s.light 3
 fg:Xi K cFg H d.fg s.fog
 wf:WF s
def Cv (K:PySem.W.Frag) (cCv cTx cFg:Addr) (H:Hp) (c:Addr) (N:Nat) (s:Sb20.St) (cl dl:Addr):Prop:=∃ d,YZ K cCv cTx cFg H c N s cl dl d
section
variable {K:PySem.W.Frag}{cCv cTx cFg:Addr}{H H1:Hp}{c:Addr}{N:Nat}{s s':Sb20.St}{cl dl:Addr}{d:CvD}
theorem YZ.lists (h:YZ K cCv cTx cFg H c N s cl dl d):∀ b∈[cl,dl],∃ xs,H b=some (.lst xs):=by
 intro b hb
 simp at hb
 rcases hb with rfl | rfl
 ·exact ⟨_,h.cs⟩
 ·exact ⟨_,h.ds⟩
theorem YZ.draw (h:YZ K cCv cTx cFg H c N s cl dl d) (k:Kp [cl,dl] H H1){as:List Addr}{cs:List Px}{ds:List Int}(e1:H1 cl=some (.lst (as.map V.ref))) (e2:Zw K H1 as cs) (e3:H1 dl=some (.lst (ds.map V.int)))
  (l1:cs.length=s.colours.length) (l2:ds.length=s.depths.length):YZ K cCv cTx cFg H1 c N { s with colours:=cs,depths:=ds } cl dl { d with as:=as } where
 ins:=k.other h.ins (fun _ z=>by cases z)
 cs:=e1
 px:=e2
 ds:=e3
 ne:=h.ne
 tx:=k.other h.tx (fun _ z=>by cases z)
 tn:=h.tn
 ta:=fun j hj=>by
  have:=h.ta j hj
  show match s.texture j with | none=>_ | some t=>_
  revert this
  cases s.texture j with
  | none=>exact id
  | some t=>rintro ⟨a,h1,h2⟩;exact ⟨a,h1,h2.kp k⟩
 mx:=h.mx.kp k
 vw:=h.vw.kp k
 lt:=h.lt.kp k
 fg:=h.fg.kp k
 wf:=⟨h.wf.w,h.wf.h,l1.trans h.wf.cl,l2.trans h.wf.dl,h.wf.tl⟩
theorem YZ.same (h:YZ K cCv cTx cFg H c N s cl dl d) (q:Zq H H1):YZ K cCv cTx cFg H1 c N s cl dl d:=by
 have k:=Kp.of_same h.lists q
 have:=h.draw k (q _ _ h.cs) (h.px.same q) (q _ _ h.ds) rfl rfl
 exact this
theorem Cv.same (h:Cv K cCv cTx cFg H c N s cl dl) (q:Zq H H1):Cv K cCv cTx cFg H1 c N s cl dl:=let ⟨d,h⟩:=h;⟨d,h.same q⟩
theorem YZ.mono (h:YZ K cCv cTx cFg H c N s cl dl d){M:Nat}(l:N≤M):YZ K cCv cTx cFg H c M s cl dl d:={ h with tn:=Nat.le_trans h.tn l }
theorem Cv.mono (h:Cv K cCv cTx cFg H c N s cl dl){M:Nat}(l:N≤M):Cv K cCv cTx cFg H c M s cl dl:=let ⟨d,h⟩:=h;⟨d,h.mono l⟩
end
end Sg
namespace Sg
open PySem PySem.Spec PyProof.Rows L2 LX SbM
theorem Yx {n:Nat}(h:n<1000:=by first | (show 0<1000;decide) | (show 1<1000;decide) | (show 2<1000;decide) | (show 3<1000;decide) | (show 4<1000;decide) | (show 5<1000;decide) | (show 6<1000;decide) | (show 7<1000;decide) | (show 8<1000;decide) | (show 9<1000;decide)):n<1000:=h
theorem Zx {H:Hp}{c:Addr}{o:HO}{P:Hp→Prop}(h:∀ H',H' c=some o→(∀ b u,H b=some u→b≠c→H' b=some u)→P H'):P (upd H c o):=h _ Ze (fun b u e n=>by rw [Zn n];exact e)
theorem rep1 (k:Nat) (x:V):(List.replicate k [x]).flatten=List.replicate k x:=by
 induction k with
 | zero=>rfl
 | succ k ih=>rw [List.replicate_succ,List.flatten_cons,ih,List.replicate_succ];rfl
section
variable {P:Program}{w:World}{K:PySem.W.Frag}{mg:Str→Option Value}{base:Heap}{RF NT cCv cTx cFg cEg cCo cTr:Addr}
def Zdt (K:PySem.W.Frag):Sp:=fun vs H Q _=>∃ (b:Addr) (zs:List Int),vs=[.ref b]∧YN K b (zs.map V.int)∧zs.length≤100∧(∀ z∈zs,Bd 10 z) ∧
 ∀ (H':Hp) (l:Addr),Zq H H'→H l=none→H' l=some (.lst ((zs.map (· * Sb20.ONE)).map V.int))→Q (.ref l) H'
theorem Zag (F:Df K mg "small_singles" (top 42) ["numbers"])
  (f_power_of_two:Cal P w K mg base CX0 1 "power_of_two" ["exponent"] QF):Cal P w K mg base CX0 2 "small_singles" ["numbers"] (Zdt K):=by
 refine F.okS (N:=["numbers","number"]) fun S f cdv A outer s H vs Q E hr h=>?_
 obtain ⟨b,zs,rfl,hb,hn,hz,k⟩:=h
 refine ⟨_,(Zf (Zm (Qg (own:=[("number",1)]) rfl S.nd (ZlC (pv 0)) (show Yj ["numbers","number"] (Zk (top 42)) _ _ from ⟨rfl,by decide +kernel,by decide +kernel,by decide +kernel,by decide +kernel⟩) (fun _ _ _ _ _=>ZO (i:=1) S.nd rfl (Or.inl rfl)) (fun _ _ _ _ _=>ZY) (fun _ _ _ _ _=>(Zj Xu (pv 1) (Zg f_power_of_two (hr.mono (by decide)) rfl Zi (Za Zd Zb))))))),?_⟩
 refine ⟨_,rfl,b,rfl,⟨_,hb.sq⟩,fun D hD=>?_⟩
 refine ZlV (K:=K) (a:=b) (xs:=zs.map V.int) (fun i H'=>H'=upd H D (.lst (((zs.take i).map (· * Sb20.ONE)).map V.int))) rfl ?_ ?_ ?_
 ·rintro i H' _ rfl
  exact hb.sq
 ·rintro i v H' hi rfl
  rw [List.getElem?_map] at hi
  obtain ⟨z,hz',rfl⟩:∃ z,zs[i]?=some z∧v=V.int z:=by
   cases e:zs[i]? with
   | none=>rw [e] at hi;cases hi
   | some b=>rw [e] at hi;exact ⟨b,rfl,(Option.some.inj hi).symm⟩
  have hil:i<zs.length:=(List.getElem?_eq_some_iff.mp hz').1
  refine ⟨rfl,YG ⟨_,rfl,_,Sb20.ONE,rfl,⟨by decide,by decide⟩,by decide,_,_,_,rfl,rfl,⟨sm (hz z (List.mem_of_getElem? hz')),by unfold Sm;decide⟩,rfl,?_⟩⟩
  refine ⟨_,Ze,?_,?_⟩
  ·rw [List.length_map,List.length_map,List.length_take]
   exact Nat.lt_of_le_of_lt (Nat.min_le_left _ _) (Nat.lt_of_lt_of_le (show i<16777216 by lia) (by decide))
  ·rw [Yt,take_snoc hz',List.map_append,List.map_append];rfl
 ·rintro H' rfl
  rw [List.length_map,List.take_length]
  exact k _ D (Zh hD) hD Ze
def ZdI (cCv:Addr):Sp:=fun vs H Q _=>∃ (c t dx:Addr) (fs:List (Str×V)) (w h:Nat) (z:Int),vs=[.ref c,.ref t,.int z]∧H c=some (.ins cCv dx fs)∧fs.lookup ("width":Str)=some (V.int (w:Nat))∧fs.lookup ("height":Str)=some (V.int (h:Nat))∧(fs.length<900∧w≤256∧h≤256) ∧
 ∀ (H':Hp) (cl dl:Addr),H' c=some (.ins cCv dx (Ym "depths" (.ref dl) (Ym "colours" (.ref cl) fs)))→H cl=none→H dl=none→cl≠dl→H' cl=some (.lst (List.replicate (w*h) (.ref t)))→H' dl=some (.lst (List.replicate (w*h) (.int z))) →
  (∀ b o,H b=some o→b≠c→H' b=some o)→Q .non H'
theorem YD (f:Str) (v:V):∀ fs:List (Str×V),(Ym f v fs).length≤fs.length+1
 | []=>Nat.le_refl _
 | (g,x)::r=>by
  show (if g=f then (g,v)::r else (g,x)::Ym f v r).length≤_
  split
  ·exact Nat.le_succ _
  ·exact Nat.succ_le_succ (YD f v r)
theorem ZbF (F:Dm K cCv "fill" "Canvas.fill" (inClass (top 44) 2) ["self","colour","depth"]) (T:Zu K cCv cTx cFg cEg cCo cTr):Mth P w K mg base CX0 1 cCv "fill" ["self","colour","depth"] (ZdI cCv):=by
 refine F.okS (N:=["self","colour","depth","count"]) fun S f cdv A outer s H vs Q E hr h=>?_
 obtain ⟨c,t,dx,fs,wd,ht,z,rfl,hc,hw,hh,⟨hl,lw,lh⟩,k⟩:=h
 refine ⟨_,(Zc (Zl (i:=3) S.nd rfl (Or.inl rfl) (Zj Xu (Zo (pv 0) rfl) (Zo (pv 0) rfl))) (Zc (Zy (pv 0) (Zj Zji (ZL (Za (pv 1) Zb)) (pv 3)) rfl) (Zf (Zy (pv 0) (Zj Zji (ZL (Za (pv 2) Zb)) (pv 3)) rfl)))),?_⟩
 have cl:=T.Canvas.cl
 have hmul:wd*ht≤65536:=Nat.le_trans (Nat.mul_le_mul lw lh) (by decide)
 have hcount:((wd:Nat):Int)*((ht:Nat):Int)=((wd*ht:Nat):Int):=(Int.natCast_mul _ _).symm
 refine ⟨_,rfl,c,cCv,dx,fs,_,rfl,hc,cl,T.Canvas.n_width,hw,_,rfl,c,cCv,dx,fs,_,rfl,hc,cl,T.Canvas.n_height,hh,_,_,_,rfl,rfl,⟨smN (by lia),smN (by lia)⟩,hcount,?_⟩
 refine ⟨_,rfl,(by show 1≤sizeLine;decide),fun l1 n1=>⟨_,rfl,l1,_,_,rfl,rfl,Ze,by lia,by lia,?_,fun cl' n2=>?_⟩⟩
 ·show 1*((wd*ht:Nat):Int).toNat≤sizeLine
  rw [Int.toNat_natCast,Nat.one_mul];exact Nat.le_trans hmul (by decide)
 rw [Int.toNat_natCast,rep1]
 have s1:=Zh (o:=.lst [.ref t]) n1
 have f2:=s1.free n2
 have s2:=Zr (o:=.lst (List.replicate (wd*ht) (.ref t))) s1 f2
 have hcl:upd (upd H l1 (.lst [.ref t])) cl' (.lst (List.replicate (wd*ht) (.ref t))) cl'=some (.lst (List.replicate (wd*ht) (.ref t))):=Ze
 generalize upd (upd H l1 (.lst [.ref t])) cl' (.lst (List.replicate (wd*ht) (.ref t)))=H2 at *
 refine ⟨_,rfl,c,cCv,dx,fs,rfl,s2 _ _ hc,cl,T.Canvas.n_colours,by lia,Zx fun H3 hc3 k3=>?_⟩
 have ncl:cl'≠c:=fun e=>by rw [e,hc] at f2;cases f2
 refine ⟨_,rfl,(by show 1≤sizeLine;decide),fun l3 n3=>⟨_,rfl,l3,_,_,rfl,rfl,Ze,by lia,by lia,?_,fun dl' n4=>?_⟩⟩
 ·show 1*((wd*ht:Nat):Int).toNat≤sizeLine
  rw [Int.toNat_natCast,Nat.one_mul];exact Nat.le_trans hmul (by decide)
 rw [Int.toNat_natCast,rep1]
 have s3:=Zh (o:=.lst [.int z]) n3
 have f4:=s3.free n4
 have s4:=Zr (o:=.lst (List.replicate (wd*ht) (.int z))) s3 f4
 have hdl:upd (upd H3 l3 (.lst [.int z])) dl' (.lst (List.replicate (wd*ht) (.int z))) dl'=some (.lst (List.replicate (wd*ht) (.int z))):=Ze
 generalize upd (upd H3 l3 (.lst [.int z])) dl' (.lst (List.replicate (wd*ht) (.int z)))=H4 at *
 have ndl:dl'≠c:=fun e=>by rw [e,hc3] at f4;cases f4
 have hlen:=YD "colours" (.ref cl') fs
 have cl3:=k3 _ _ hcl ncl
 have ncd:cl'≠dl':=fun e=>by rw [e,f4] at cl3;cases cl3
 refine ⟨_,rfl,c,cCv,dx,_,rfl,s4 _ _ hc3,cl,T.Canvas.n_depths,by lia,Zx fun H5 hc5 k5=>?_⟩
 have fd:H dl'=none:=by
  cases e:H dl' with
  | none=>rfl
  | some o =>
   have q:=k3 _ _ (s2 _ _ e) ndl
   rw [f4] at q;cases q
 exact k H5 cl' dl' hc5 f2 fd ncd (k5 _ _ (s4 _ _ cl3) ncl) (k5 _ _ hdl ndl) fun b o e n=>k5 _ _ (s4 _ _ (k3 _ _ (s2 _ _ e) n)) n
def ZgH (cCv:Addr):Sp:=fun vs H Q _=>∃ (c dx:Addr) (fs:List (Str×V)) (w h:Nat) (x y:Int),vs=[.ref c,.int x,.int y]∧H c=some (.ins cCv dx fs)∧fs.lookup ("width":Str)=some (V.int (w:Nat))∧fs.lookup ("height":Str)=some (V.int (h:Nat)) ∧
 ∀ b:Bool,(b=true↔(0≤x∧x<(w:Int))∧(0≤y∧y<(h:Int)))→Q (.bl b) H
theorem QZ (F:Dm K cCv "has_pixel" "Canvas.has_pixel" (inClass (top 44) 3) ["self","x","y"]) (T:Zu K cCv cTx cFg cEg cCo cTr):Mth P w K mg base CX0 1 cCv "has_pixel" ["self","x","y"] (ZgH cCv):=by
 refine F.okS (N:=["self","x","y"]) fun S f cdv A outer s H vs Q E hr h=>?_
 obtain ⟨c,dx,fs,wd,ht,x,y,rfl,hc,hw,hh,k⟩:=h
 refine ⟨_,(Zf (Zm (ZjW (LX.ZeP leC ltC Zd (pv 1) (Zo (pv 0) rfl)) (Zgr (LX.ZeP leC ltC Zd (pv 2) (Zo (pv 0) rfl)))))),?_⟩
 have cl:=T.Canvas.cl
 refine ⟨_,rfl,_,_,rfl,rfl,fun b1 h1=>⟨b1,rfl,fun q1=>⟨_,rfl,c,cCv,dx,fs,_,rfl,hc,cl,T.Canvas.n_width,hw,_,_,rfl,rfl,fun b2 h2=>?_⟩,fun q1=>?_⟩⟩
 ·refine ⟨b2,rfl,Ye (fun q2=>?_) fun q2=>?_⟩
  ·refine ⟨_,rfl,_,_,rfl,rfl,fun b3 h3=>⟨b3,rfl,fun q3=>⟨_,rfl,c,cCv,dx,fs,_,rfl,hc,cl,T.Canvas.n_height,hh,_,_,rfl,rfl,fun b4 h4=>?_⟩,fun q3=>?_⟩⟩
   ·refine k b4 ?_
    have a1:=h1.mp q1
    have a2:=h2.mp q2
    have a3:=h3.mp q3
    rw [h4]
    constructor
    ·intro q;exact ⟨⟨a1,a2⟩,a3,q⟩
    ·intro q;exact q.2.2
   ·refine k false ⟨(fun z=>by cases z),fun z=>?_⟩
    have:=h3.mpr z.2.1
    rw [this] at q3;cases q3
  ·exact k false ⟨(fun z=>by cases z),fun z=>absurd (h2.mpr z.1.2) q2⟩
 ·refine ⟨false,rfl,ZfI ?_⟩
  refine k false ⟨(fun z=>by cases z),fun z=>?_⟩
  have:=h1.mpr z.1.1
  rw [this] at q1;cases q1
def XR (cCv:Addr):Sp:=fun vs H Q _=>∃ (c dx:Addr) (fs:List (Str×V)) (w:Nat) (x y z:Int),vs=[.ref c,.int x,.int y]∧H c=some (.ins cCv dx fs)∧fs.lookup ("width":Str)=some (V.int (w:Nat))∧(w≤256∧Sm y)∧y*(w:Int)+x=z∧Q (.int z) H
theorem Jx (F:Dm K cCv "place_of" "Canvas.place_of" (inClass (top 44) 4) ["self","x","y"]) (T:Zu K cCv cTx cFg cEg cCo cTr):Mth P w K mg base CX0 1 cCv "place_of" ["self","x","y"] (XR cCv):=by
 refine F.okS (N:=["self","x","y"]) fun S f cdv A outer s H vs Q E hr h=>?_
 obtain ⟨c,dx,fs,wd,x,y,z,rfl,hc,hw,⟨lw,sy⟩,e,k⟩:=h
 refine ⟨_,(Zf (Zm (Zj Yh (Zj Xu (pv 2) (Zo (pv 0) rfl)) (pv 1)))),?_⟩
 exact ⟨_,rfl,_,rfl,c,cCv,dx,fs,_,rfl,hc,T.Canvas.cl,T.Canvas.n_width,hw,_,_,_,rfl,rfl,⟨sy,smN (by lia)⟩,rfl,_,rfl,_,_,_,rfl,rfl,e,k⟩
def ZaX (cCv NT:Addr):Sp:=fun vs H Q E=>∃ (c dx tx:Addr) (fs:List (Str×V)) (kvs:List (Key×V)) (k:Int),vs=[.ref c,.int k]∧H c=some (.ins cCv dx fs)∧fs.lookup ("textures":Str)=some (V.ref tx)∧H tx=some (.dK kvs) ∧
 (∀ v,YO kvs (Sum.inl k)=some v→Q v H)∧(YO kvs (Sum.inl k)=none→E (.ref NT) none H)
theorem Qy (F:Dm K cCv "texture_at" "Canvas.texture_at" (inClass (top 44) 5) ["self","k"])
  (q_NoTexture:ExcAt K NT) (m_NoTexture:mg "NoTexture"=some (.ref NT)) (T:Zu K cCv cTx cFg cEg cCo cTr):Mth P w K mg base (CXR P w) 1 cCv "texture_at" ["self","k"] (ZaX cCv NT):=by
 refine F.YT (N:=["self","k"]) fun S f cdv A outer s H vs Q E hr h=>?_
 obtain ⟨c,dx,tx,fs,kvs,j,rfl,hc,ht,hd,k1,k2⟩:=h
 refine ⟨_,(Zc (Yg (Zjj (ZhT (Ziz hr) (pv 1) (Zo (pv 0) rfl))) (Zf (JL rfl hpR q_NoTexture rfl m_NoTexture)) ZJ) (Zf (Zm (Zkq (Ziz hr) (Zo (pv 0) rfl) (pv 1) (fun _ _=>rfl))))),?_⟩
 have cl:=T.Canvas.cl
 refine ⟨_,rfl,_,rfl,c,cCv,dx,fs,_,rfl,hc,cl,T.Canvas.n_textures,ht,tx,_,rfl,Zeo.k (k:=Sum.inl j) hd,_,rfl,?_⟩
 cases e:YO kvs (Sum.inl j) with
 | none=>exact Zjw (k2 e)
 | some v =>
  refine ZfI ⟨_,rfl,c,cCv,dx,fs,_,rfl,hc,cl,T.Canvas.n_textures,ht,_,rfl,tx,v,rfl,?_,k1 v e⟩
  rw [← e];exact Zeo.k (k:=Sum.inl j) hd
def Zfz (cTx:Addr):Sp:=fun vs H Q _=>∃ (c dx tl:Addr) (log:Nat),vs=[.ref c,.int (log:Nat),.ref tl]∧H c=some (.ins cTx dx [])∧log≤6 ∧
 ∀ H':Hp,H' c=some (.ins cTx dx (Zfa (.int (log:Nat)) (.int ((2^log:Nat):Int)) (.ref tl)))→(∀ b o,H b=some o→b≠c→H' b=some o)→Q .non H'
theorem ZaI (F:Di K mg "Texture" cTx "Texture.__init__" (inClass (top 43) 0) ["self","log","colours"]) (T:Zu K cCv cTx cFg cEg cCo cTr):Mak P w K mg base CX0 1 "Texture" cTx ["self","log","colours"] (Zfz cTx):=by
 refine F.okS (N:=["self","log","colours"]) fun S f cdv A outer s H vs Q E hr h=>?_
 obtain ⟨c,dx,tl,log,rfl,hc,hl,k⟩:=h
 refine ⟨_,(Zc (Zy (pv 0) (pv 1) rfl) (Zc (Zy (pv 0) (Zj QG Zd (pv 1)) rfl) (Zf (Zy (pv 0) (pv 2) rfl)))),?_⟩
 have cl:=T.Texture.cl
 refine ⟨_,rfl,_,rfl,c,cTx,dx,[],rfl,hc,cl,T.Texture.n_log,Yx,Zx fun H1 c1 k1=>?_⟩
 have e:(1:Int)*2^((log:Nat):Int).toNat=((2^log:Nat):Int):=by rw [Int.toNat_natCast,Int.one_mul];simp
 refine ⟨_,rfl,_,_,_,rfl,rfl,⟨by lia,by lia,by unfold Sm;decide⟩,e,_,rfl,c,cTx,dx,_,rfl,c1,cl,T.Texture.n_side,Yx,Zx fun H2 c2 k2=>?_⟩
 refine ⟨_,rfl,_,rfl,c,cTx,dx,_,rfl,c2,cl,T.Texture.n_colours,Yx,Zx fun H3 c3 k3=>?_⟩
 exact k H3 c3 fun b o e n=>k3 _ _ (k2 _ _ (k1 _ _ e n) n) n
end
end Sg
namespace Sg
open PySem PySem.Spec PyProof.Rows L2 LX SbM
theorem ZmC {zs:List Int}(h:(zs.all fun z=>z==0 || z==1)=true):∀ z∈zs,Bd 10 z:=fun z hz=>by
 have:=List.all_eq_true.mp h z hz
 simp at this
 rcases this with rfl | rfl <;> (unfold Bd;decide)
theorem Zw.rep {K:PySem.W.Frag}{H:Hp}{t:Addr}{p:Px}(n:Nat) (h:Yr K H t p):Zw K H (List.replicate n t) (List.replicate n p):=by
 refine ⟨by simp,fun i a q h1 h2=>?_⟩
 rw [List.getElem?_replicate] at h1 h2
 split at h1
 ·rename_i hi
  rw [if_pos hi] at h2
  cases h1;cases h2;exact h
 ·cases h1
def Zok (fs:List (Str×V)):Prop:=fs=[]∨∃ a1 a2 a3 a4 a5 a6 a7 a8 a9,fs=YY a1 a2 a3 a4 a5 a6 a7 a8 a9
theorem ZhU (w h k:Nat):(Sb20.fresh w h).texture k=none:=by
 unfold Sb20.St.texture Sb20.fresh
 simp only [List.getElem?_replicate]
 split <;> rfl
section
variable {P:Program}{w:World}{K:PySem.W.Frag}{mg:Str→Option Value}{base:Heap}{RF NT cCv cTx cFg cEg cCo cTr:Addr}
def ZaV (K:PySem.W.Frag) (cCv cTx cFg:Addr):Sp:=fun vs H Q _=>∃ (c dx:Addr) (fs:List (Str×V)) (w h:Nat),vs=[.ref c,.int (w:Nat),.int (h:Nat)]∧H c=some (.ins cCv dx fs)∧Zok fs∧(w≤256∧h≤256) ∧
 ∀ (H':Hp) (cl dl:Addr),Cv K cCv cTx cFg H' c 0 (Sb20.fresh w h) cl dl→H cl=none→H dl=none→(∀ b o,H b=some o→b≠c→H' b=some o)→Q .non H'
theorem ZaR (F:Dm K cCv "renew" "Canvas.renew" (inClass (top 44) 1) ["self","width","height"])
  (f_fill:Mth P w K mg base CX0 1 cCv "fill" ["self","colour","depth"] (ZdI cCv))
  (f_power_of_two:Cal P w K mg base CX0 1 "power_of_two" ["exponent"] QF)
  (f_small_singles:Cal P w K mg base CX0 2 "small_singles" ["numbers"] (Zdt K))
  {tFIRST_COLOUR:Addr}(c_FIRST_COLOUR:Cst mg "FIRST_COLOUR" (.ref tFIRST_COLOUR)) (k_FIRST_COLOUR:YN K tFIRST_COLOUR [.int 0,.int 0,.int 0,.int 0])
  {tFIRST_LIGHT:Addr}(c_FIRST_LIGHT:Cst mg "FIRST_LIGHT" (.ref tFIRST_LIGHT)) (k_FIRST_LIGHT:YN K tFIRST_LIGHT [.int 0,.int 0,.int 0])
  {tFIRST_VIEW:Addr}(c_FIRST_VIEW:Cst mg "FIRST_VIEW" (.ref tFIRST_VIEW)) (k_FIRST_VIEW:YN K tFIRST_VIEW [.int 0,.int 0,.int 1,.int 1])
  {tIDENTITY:Addr}(c_IDENTITY:Cst mg "IDENTITY" (.ref tIDENTITY)) (k_IDENTITY:YN K tIDENTITY [.int 1,.int 0,.int 0,.int 0,.int 0,.int 1,.int 0,.int 0,.int 0,.int 0,.int 1,.int 0,.int 0,.int 0,.int 0,.int 1]) (T:Zu K cCv cTx cFg cEg cCo cTr):Mth P w K mg base CX0 3 cCv "renew" ["self","width","height"] (ZaV K cCv cTx cFg):=by
 refine F.okS (N:=["self","width","height"]) fun S f cdv A outer s H vs Q E hr h=>?_
 obtain ⟨c,dx,fs,wd,ht,rfl,hc,hfs,⟨lw,lh⟩,k⟩:=h
 refine ⟨_,(Zc (Zy (pv 0) (pv 1) rfl) (Zc (Zy (pv 0) (pv 2) rfl) (Zc (ZU (YE f_fill (hr.mono (by decide)) Zi (pv 0) (Za (Zp c_FIRST_COLOUR rfl) (Za (Zg f_power_of_two (hr.mono (by decide)) rfl Zi (Za Zd Zb)) Zb)))) (Zc (Zy (pv 0) Ziq rfl) (Zc (Zy (pv 0) (Zg f_small_singles (hr.mono (by decide)) rfl Zi (Za (Zp c_IDENTITY rfl) Zb)) rfl) (Zc (Zy (pv 0) (Zg f_small_singles (hr.mono (by decide)) rfl Zi (Za (Zp c_FIRST_VIEW rfl) Zb)) rfl) (Zc (Zy (pv 0) (Zg f_small_singles (hr.mono (by decide)) rfl Zi (Za (Zp c_FIRST_LIGHT rfl) Zb)) rfl) (Zf (Zy (pv 0) ZlQ rfl))))))))),?_⟩
 have cl:=T.Canvas.cl
 have go:∀ (fs2:List (Str×V)),(fs2=Ym "height" (.int (ht:Nat)) (Ym "width" (.int (wd:Nat)) fs))→fs2.lookup ("fill":Str)=none∧fs2.lookup ("width":Str)=some (V.int (wd:Nat))∧fs2.lookup ("height":Str)=some (V.int (ht:Nat))∧fs2.length<900 ∧
   ∀ u1 u2 u3 u4 u5 u6 u7:V,Ym "fog" u7 (Ym "light" u6 (Ym "view" u5 (Ym "matrix" u4 (Ym "textures" u3 (Ym "depths" u2 (Ym "colours" u1 fs2))))))=YY (.int (wd:Nat)) (.int (ht:Nat)) u1 u2 u3 u4 u5 u6 u7:=by
  rintro fs2 rfl
  rcases hfs with rfl | ⟨a1,a2,a3,a4,a5,a6,a7,a8,a9,rfl⟩
  ·exact ⟨rfl,rfl,rfl,(by show 2<900;decide),fun _ _ _ _ _ _ _=>rfl⟩
  ·exact ⟨rfl,rfl,rfl,(by show 9<900;decide),fun _ _ _ _ _ _ _=>rfl⟩
 have hl0:fs.length<10:=by rcases hfs with rfl | ⟨a1,a2,a3,a4,a5,a6,a7,a8,a9,rfl⟩ <;> (first | (show 0<10;decide) | (show 9<10;decide))
 obtain ⟨g1,g2,g3,g4,g5⟩:=go _ rfl
 have lw1:=YD "width" (.int (wd:Nat)) fs
 refine ⟨_,rfl,_,rfl,c,cCv,dx,_,rfl,hc,cl,T.Canvas.n_width,by lia,Zx fun H1 c1 k1=>?_⟩
 refine ⟨_,rfl,_,rfl,c,cCv,dx,_,rfl,c1,cl,T.Canvas.n_height,by lia,Zx fun H2 c2 k2=>?_⟩
 generalize Ym "height" (.int (ht:Nat)) (Ym "width" (.int (wd:Nat)) fs)=fs2 at *
 refine ⟨_,rfl,c,dx,_,rfl,c2,g1,_,Sb20.ONE,rfl,⟨by decide,by decide⟩,by decide,c,tFIRST_COLOUR,dx,_,wd,ht,_,rfl,c2,g2,g3,⟨g4,lw,lh⟩,fun H3 al dl c3 n1 n2 ncd e1 e2 k3=>?_⟩
 have nac:al≠c:=fun e=>by rw [e,c2] at n1;cases n1
 have ndc:dl≠c:=fun e=>by rw [e,c2] at n2;cases n2
 have l1:=YD "colours" (.ref al) fs2
 generalize q1:Ym "colours" (.ref al) fs2=fs3 at *
 have l2:=YD "depths" (.ref dl) fs3
 generalize q2:Ym "depths" (.ref dl) fs3=fs4 at *
 refine fun p np=>⟨_,rfl,c,cCv,dx,_,rfl,Zh np _ _ c3,cl,T.Canvas.n_textures,by lia,Zx fun H4 c4 k4=>?_⟩
 have npc:p≠c:=fun e=>by rw [e,c3] at np;cases np
 have t4:=k4 _ _ (show upd H3 p (.dK []) p=_ from Ze) npc
 have al4:=k4 _ _ (Zh np _ _ e1) nac
 have dl4:=k4 _ _ (Zh np _ _ e2) ndc
 have l3:=YD "textures" (.ref p) fs4
 generalize q3:Ym "textures" (.ref p) fs4=fs5 at *
 refine ⟨tIDENTITY,[1,0,0,0,0,1,0,0,0,0,1,0,0,0,0,1],rfl,k_IDENTITY,by decide,ZmC (by decide),fun H5 m s5 n5 e5=>?_⟩
 have nmc:m≠c:=fun e=>by rw [e,c4] at n5;cases n5
 have nma:m≠al:=fun e=>by rw [e,al4] at n5;cases n5
 have nmd:m≠dl:=fun e=>by rw [e,dl4] at n5;cases n5
 refine ⟨_,rfl,c,cCv,dx,_,rfl,s5 _ _ c4,cl,T.Canvas.n_matrix,by lia,Zx fun H6 c6 k6=>?_⟩
 have t6:=k6 _ _ (s5 _ _ t4) npc
 have al6:=k6 _ _ (s5 _ _ al4) nac
 have dl6:=k6 _ _ (s5 _ _ dl4) ndc
 have m6:=k6 _ _ e5 nmc
 have l4:=YD "matrix" (.ref m) fs5
 generalize q4:Ym "matrix" (.ref m) fs5=fs6 at *
 refine ⟨tFIRST_VIEW,[0,0,1,1],rfl,k_FIRST_VIEW,by decide,ZmC (by decide),fun H7 vw s7 n7 e7=>?_⟩
 have nvc:vw≠c:=fun e=>by rw [e,c6] at n7;cases n7
 have nva:vw≠al:=fun e=>by rw [e,al6] at n7;cases n7
 have nvd:vw≠dl:=fun e=>by rw [e,dl6] at n7;cases n7
 refine ⟨_,rfl,c,cCv,dx,_,rfl,s7 _ _ c6,cl,T.Canvas.n_view,by lia,Zx fun H8 c8 k8=>?_⟩
 have t8:=k8 _ _ (s7 _ _ t6) npc
 have al8:=k8 _ _ (s7 _ _ al6) nac
 have dl8:=k8 _ _ (s7 _ _ dl6) ndc
 have m8:=k8 _ _ (s7 _ _ m6) nmc
 have v8:=k8 _ _ e7 nvc
 have l5:=YD "view" (.ref vw) fs6
 generalize q5:Ym "view" (.ref vw) fs6=fs7 at *
 refine ⟨tFIRST_LIGHT,[0,0,0],rfl,k_FIRST_LIGHT,by decide,ZmC (by decide),fun H9 lt s9 n9 e9=>?_⟩
 have nlc:lt≠c:=fun e=>by rw [e,c8] at n9;cases n9
 have nla:lt≠al:=fun e=>by rw [e,al8] at n9;cases n9
 have nld:lt≠dl:=fun e=>by rw [e,dl8] at n9;cases n9
 refine ⟨_,rfl,c,cCv,dx,_,rfl,s9 _ _ c8,cl,T.Canvas.n_light,by lia,Zx fun HA cA kA=>?_⟩
 have l6:=YD "light" (.ref lt) fs7
 generalize q6:Ym "light" (.ref lt) fs7=fs8 at *
 refine ⟨_,rfl,c,cCv,dx,_,rfl,cA,cl,T.Canvas.n_fog,by lia,Zx fun HB cB kB=>?_⟩
 have g:=g5 (.ref al) (.ref dl) (.ref p) (.ref m) (.ref vw) (.ref lt) .non
 rw [q1,q2,q3,q4,q5,q6] at g
 rw [g] at cB
 have tB:=kB _ _ (kA _ _ (s9 _ _ t8) npc) npc
 have alB:=kB _ _ (kA _ _ (s9 _ _ al8) nac) nac
 have dlB:=kB _ _ (kA _ _ (s9 _ _ dl8) ndc) ndc
 have mB:=kB _ _ (kA _ _ (s9 _ _ m8) nmc) nmc
 have vB:=kB _ _ (kA _ _ (s9 _ _ v8) nvc) nvc
 have lB:=kB _ _ (kA _ _ e9 nlc) nlc
 have bONE:Bd 171 Sb20.ONE:=by unfold Bd;decide
 have fr0:∀ x,H2 x=none→x≠c→H x=none:=fun x e n=>by
  cases q:H x with
  | none=>rfl
  | some o=>rw [k2 _ _ (k1 _ _ q n) n] at e;cases e
 refine k HB al dl ⟨⟨dx,p,m,vw,lt,.non,List.replicate (wd*ht) tFIRST_COLOUR,[]⟩,?_⟩ (fr0 _ n1 nac) (fr0 _ n2 ndc) ?_
 ·refine ⟨cB,?_,?_,?_,ncd,tB,Nat.le_refl _,?_,⟨mB,by simp [nma,nmd],rfl,?_⟩,⟨vB,by simp [nva,nvd],rfl,?_⟩,⟨lB,by simp [nla,nld],rfl,?_⟩,rfl,?_⟩
  ·rw [alB,List.map_replicate]
  ·exact Zw.rep _ ⟨k_FIRST_COLOUR.sq,by unfold Xf;decide⟩
  ·rw [dlB]
   show _=some (HO.lst ((List.replicate (wd*ht) Sb20.ONE).map V.int))
   rw [List.map_replicate]
  ·intro j hj
   rw [ZhU]
   exact ZjB
  ·intro x hx
   simp [Sb20.fresh] at hx
   have hx:x=Sb20.ONE∨x=0:=by lia
   rcases hx with rfl | rfl
   ·exact bONE
   ·exact Bd.zero
  ·intro x hx
   simp [Sb20.fresh] at hx
   have hx:x=0∨x=Sb20.ONE:=by lia
   rcases hx with rfl | rfl
   ·exact Bd.zero
   ·exact bONE
  ·intro x hx
   simp [Sb20.fresh] at hx
   subst hx;exact Bd.zero
  ·exact ⟨lw,lh,List.length_replicate,List.length_replicate,List.length_replicate⟩
 ·intro b o e n
  exact kB _ _ (kA _ _ (s9 _ _ (k8 _ _ (s7 _ _ (k6 _ _ (s5 _ _ (k4 _ _ (Zh np _ _ (k3 _ _ (k2 _ _ (k1 _ _ e n) n) n)) n)) n)) n)) n) n
def ZfQ (K:PySem.W.Frag) (cCv cTx cFg:Addr):Sp:=fun vs H Q _=>∃ (c dx:Addr),vs=[.ref c]∧H c=some (.ins cCv dx []) ∧
 ∀ (H':Hp) (cl dl:Addr),Cv K cCv cTx cFg H' c 0 (Sb20.fresh 0 0) cl dl→H cl=none→H dl=none→(∀ b o,H b=some o→b≠c→H' b=some o)→Q .non H'
theorem Zbw (F:Di K mg "Canvas" cCv "Canvas.__init__" (inClass (top 44) 0) ["self"])
  (f_renew:Mth P w K mg base CX0 3 cCv "renew" ["self","width","height"] (ZaV K cCv cTx cFg)):Mak P w K mg base CX0 4 "Canvas" cCv ["self"] (ZfQ K cCv cTx cFg):=by
 refine F.okS (N:=["self"]) fun S f cdv A outer s H vs Q E hr h=>?_
 obtain ⟨c,dx,rfl,hc,k⟩:=h
 refine ⟨_,(Zf (ZU (YE f_renew (hr.mono (by decide)) Zi (pv 0) (Za Zd (Za Zd Zb))))),?_⟩
 exact ⟨_,rfl,c,dx,_,rfl,hc,rfl,c,dx,_,0,0,rfl,hc,.inl rfl,⟨by decide,by decide⟩,k⟩
end
end Sg
namespace Sg
open PySem PySem.Spec PyProof.Rows L2 LX SbM
theorem Zdw {n j:Nat}(h:j<n):ixN n (j:Int)=some j:=by
 unfold ixN
 rw [if_pos (by lia),if_pos (by lia),Int.toNat_natCast]
theorem getD_at {α:Type}{l:List α}{i:Nat}{x:α}(d:α) (h:l[i]?=some x):l.getD i d=x:=by rw [List.getD_eq_getElem?_getD,h];rfl
theorem at_getD {α:Type}{l:List α}{i:Nat}(d:α) (h:i<l.length):l[i]?=some (l.getD i d):=by rw [List.getD_eq_getElem?_getD,List.getElem?_eq_getElem h];rfl
abbrev px0:Px:=⟨0,0,0,0⟩
def put1 (how:Nat) (s:Sb20.St) (k:Nat) (z:Int) (p:Px):Sb20.St×Nat:=match Sb20.laid how p (s.colours.getD k px0) with
 | none=>(s,0)
 | some q=>({ s with colours:=s.colours.set k q,depths:=if how<2 then s.depths.set k z else s.depths },1)
def YI (how:Nat) (s:Sb20.St) (k:Nat) (z:Int) (p:Px):Sb20.St×Nat:=if z<s.depths.getD k 0 then put1 how s k z p else (s,0)
def Xw (how:Nat) (src dst:Px):Px:=if how=2 then Sb20.Px.zip (Sb20.mixed ((src.a+1) / 2)) dst src else if how=3 then Sb20.Px.zip (fun x y=>min 255 (x+y)) dst src else src
theorem ZgL {how:Nat}(h:how<4) (src dst:Px):Sb20.laid how src dst=if how=1∧src.a=0 then none else some (Xw how src dst):=by
 match how,h with
 | 0,_=>rfl
 | 1,_ =>
  by_cases q:src.a=0
  ·simp [Sb20.laid,q]
  ·simp [Sb20.laid,Xw,q]
 | 2,_=>rfl
 | 3,_=>rfl
theorem ZbP {how:Nat}{src dst:Px}(h1:Xf src) (h2:Xf dst):Xf (Xw how src dst):=by
 unfold Xw
 split
 ·exact ZbG h2 h1 (by have:=h1.2.2.2;lia)
 ·split
  ·exact Zkl
  ·exact h1
theorem Zw.set {K:PySem.W.Frag}{H:Hp}{as:List Addr}{ps:List Px}{k:Nat}{t:Addr}{p:Px}(h:Zw K H as ps) (hp:Yr K H t p):Zw K H (as.set k t) (ps.set k p):=by
 refine ⟨by rw [List.length_set,List.length_set,h.1],fun i a q h1 h2=>?_⟩
 by_cases e:k=i
 ·subst e
  have hl:k<as.length:=by
   have:=(List.getElem?_eq_some_iff.mp h1).1
   rwa [List.length_set] at this
  rw [List.getElem?_set_self hl] at h1
  rw [List.getElem?_set_self (by rw [← h.1];exact hl)] at h2
  cases h1;cases h2;exact hp
 ·rw [List.getElem?_set_ne e] at h1 h2
  exact h.2 i a q h1 h2
theorem map_set {α β:Type}(f:α→β) (l:List α) (i:Nat) (x:α):(l.map f).set i (f x)=(l.set i x).map f:=by rw [List.map_set]
section
variable {P:Program}{w:World}{K:PySem.W.Frag}{mg:Str→Option Value}{base:Heap}{RF NT cCv cTx cFg cEg cCo cTr:Addr}
def ZgJ (K:PySem.W.Frag) (cCv cTx cFg:Addr):Sp:=fun vs H Q _=>∃ (c:Addr) (k:Nat) (z:Int) (N:Nat) (s:Sb20.St) (cl dl:Addr),vs=[.ref c,.int (k:Nat),.int z]∧Cv K cCv cTx cFg H c N s cl dl∧k<s.w*s.h ∧
 ∀ b:Bool,(b=true↔s.depths.getD k 0≤z)→Q (.bl b) H
theorem Zdx (F:Df K mg "is_hidden" (top 81) ["canvas","place","depth"]) (T:Zu K cCv cTx cFg cEg cCo cTr):Cal P w K mg base CX0 1 "is_hidden" ["canvas","place","depth"] (ZgJ K cCv cTx cFg):=by
 refine F.okS (N:=["canvas","place","depth"]) fun S f cdv A outer s H vs Q E hr h=>?_
 obtain ⟨c,kk,z,N,s,al,dl,rfl,⟨d,hv⟩,hk,k⟩:=h
 refine ⟨_,(Zf (Zm (QS geC (pv 2) (Zt (r:=ZE K) ixK (Zo (pv 0) rfl) (pv 1) (fun _ _=>rfl)) (ZD _)))),?_⟩
 have ha:atI (s.depths.map V.int) (kk:Int)=some (.int (s.depths.getD kk 0)):=Ys (at_getD 0 (by rw [hv.wf.dl];exact hk))
 exact ⟨_,rfl,_,rfl,c,cCv,d.dx,_,_,rfl,hv.ins,T.Canvas.cl,T.Canvas.n_depths,rfl,_,rfl,dl,_,_,_,rfl,rfl,SqL.of hv.ds,ha,_,_,rfl,rfl,k⟩
def ZdN (K:PySem.W.Frag):Sp:=fun vs H Q _=>∃ (a b:Addr) (p q:Px) (way:Nat),vs=[.ref a,.ref b,.int (way:Nat)]∧Yr K H a p∧Yr K H b q∧way<4 ∧
 ∀ (H':Hp) (t:Addr),Zq H H'→Yr K H' t (Xw way q p)→Q (.ref t) H'
theorem Zbu (F:Df K mg "laid_colour" (top 79) ["old","new","way"])
  (f_added_colour:Cal P w K mg base CX0 1 "added_colour" ["x","y"] (Zkb K))
  (f_mixed_colour:Cal P w K mg base CX0 2 "mixed_colour" ["x","y","k"] (ZiE K))
  (c_ADDED:Cst mg "ADDED" (.int 3))
  (c_MIXED:Cst mg "MIXED" (.int 2)):Cal P w K mg base CX0 3 "laid_colour" ["old","new","way"] (ZdN K):=by
 refine F.okS (N:=["old","new","way"]) fun S f cdv A outer s H vs Q E hr h=>?_
 obtain ⟨a,b,p,q,way,rfl,ha,hb,hw,k⟩:=h
 refine ⟨_,(Zc (Yg (ZC eqC (pv 2) (Zp c_MIXED rfl) (ZD _)) (Zf (Zm (Zg f_mixed_colour (hr.mono (by decide)) rfl Zi (Za (pv 0) (Za (pv 1) (Za (Zj Qc (Zj Yh (Zt (r:=YU K) Xg (pv 1) Zd (fun _ _=>rfl)) Zd) Zd) Zb)))))) ZJ) (Zc (Yg (ZC eqC (pv 2) (Zp c_ADDED rfl) (ZD _)) (Zf (Zm (Zg f_added_colour (hr.mono (by decide)) rfl Zi (Za (pv 0) (Za (pv 1) Zb))))) ZJ) (Zf (Zm (pv 1))))),?_⟩
 refine ⟨_,rfl,_,_,rfl,rfl,fun b1 h1=>⟨_,rfl,Ye (fun c1=>?_) fun c1=>?_⟩⟩
 ·have e:way=2:=by have:=h1.mp c1;lia
  have hm:((q.a:Nat):Int)+1=((q.a+1:Nat):Int):=by lia
  have hd:((q.a+1:Nat):Int) / 2=(((q.a+1) / 2:Nat):Int):=by lia
  have l8:=hb.2.2.2.2
  refine ⟨_,rfl,_,rfl,_,rfl,b,_,_,_,rfl,rfl,hb.1,Zfm q,_,_,_,rfl,rfl,hm,_,_,_,rfl,rfl,⟨by decide,by unfold Sm;decide⟩,hd,a,b,p,q,(q.a+1) / 2,rfl,ha,hb,by lia,fun H' t s1 n1 e1=>?_⟩
  have e2:Xw way q p=Sb20.Px.zip (Sb20.mixed ((q.a+1) / 2)) p q:=by unfold Xw;rw [if_pos e]
  exact k H' t s1 ⟨SqT.of (by rw [e2];exact e1),ZbP hb.2 ha.2⟩
 ·have e:¬ way=2:=fun z=>c1 (h1.mpr (by lia))
  refine ⟨_,rfl,_,_,rfl,rfl,fun b2 h2=>⟨_,rfl,Ye (fun c2=>?_) fun c2=>?_⟩⟩
  ·have e2:way=3:=by have:=h2.mp c2;lia
   refine ⟨_,rfl,_,rfl,a,b,p,q,rfl,ha,hb,fun H' t s1 n1 e1=>?_⟩
   have e3:Xw way q p=Sb20.Px.zip (fun x y=>min 255 (x+y)) p q:=by unfold Xw;rw [if_neg e,if_pos e2]
   exact k H' t s1 ⟨SqT.of (by rw [e3];exact e1),ZbP hb.2 ha.2⟩
  ·have e2:¬ way=3:=fun z=>c2 (h2.mpr (by lia))
   have e3:Xw way q p=q:=by unfold Xw;rw [if_neg e,if_neg e2]
   exact ⟨_,rfl,k H b (Zq.refl H) (by rw [e3];exact hb)⟩
def Zds (K:PySem.W.Frag) (cCv cTx cFg:Addr):Sp:=fun vs H Q _=>∃ (c:Addr) (k:Nat) (t:Addr) (z:Int) (way:Nat) (p:Px) (N:Nat) (s:Sb20.St) (cl dl:Addr),vs=[.ref c,.int (k:Nat),.ref t,.int z,.int (way:Nat)]∧Cv K cCv cTx cFg H c N s cl dl∧Yr K H t p∧(k<s.w*s.h∧way<4) ∧
 ∀ (H':Hp),Kp [cl,dl] H H'→Cv K cCv cTx cFg H' c N (put1 way s k z p).1 cl dl→Q (.int ((put1 way s k z p).2:Nat)) H'
theorem Zcz (F:Df K mg "draw_pixel" (top 80) ["canvas","place","colour","depth","way"])
  (f_laid_colour:Cal P w K mg base CX0 3 "laid_colour" ["old","new","way"] (ZdN K))
  (c_HOLED:Cst mg "HOLED" (.int 1))
  (c_OPAQUE:Cst mg "OPAQUE" (.int 0)) (T:Zu K cCv cTx cFg cEg cCo cTr):Cal P w K mg base CX0 4 "draw_pixel" ["canvas","place","colour","depth","way"] (Zds K cCv cTx cFg):=by
 refine F.okS (N:=["canvas","place","colour","depth","way"]) fun S f cdv A outer s H vs Q E hr h=>?_
 obtain ⟨c,kk,t,z,way,p,N,s,al,dl,rfl,⟨d,hv⟩,hp,⟨hk,hw⟩,k⟩:=h
 refine ⟨_,(Zc (Yg (PW.pt (Zdy (ZC eqC (pv 4) (Zp c_HOLED rfl) (ZD _)) (Zba (ZC eqC (Zt (r:=YU K) Xg (pv 2) Zd (fun _ _=>rfl)) Zd (ZD _))))) (Zf (Zm Zd)) ZJ) (Zc (Zgb (Zg f_laid_colour (hr.mono (by decide)) rfl Zi (Za (Zt (r:=ZE K) ixK (Zo (pv 0) rfl) (pv 1) (fun _ _=>rfl)) (Za (pv 2) (Za (pv 4) Zb)))) (ZfW (Zo (pv 0) rfl) (pv 1) set_list)) (Zc (Yg (PW.pt (ZjP (ZC eqC (pv 4) (Zp c_OPAQUE rfl) (ZD _)) (ZfR (ZC eqC (pv 4) (Zp c_HOLED rfl) (ZD _))))) (Zf (Zgb (pv 3) (ZfW (Zo (pv 0) rfl) (pv 1) set_list))) ZJ) (Zf (Zm Zd))))),?_⟩
 have cls:=T.Canvas.cl
 have hkc:kk<s.colours.length:=by rw [hv.wf.cl];exact hk
 have hka:kk<d.as.length:=by rw [hv.px.1];exact hkc
 have hkd:kk<s.depths.length:=by rw [hv.wf.dl];exact hk
 obtain ⟨ao,hao⟩:∃ ao,d.as[kk]?=some ao:=⟨_,List.getElem?_eq_getElem hka⟩
 have hpo:Yr K H ao (s.colours.getD kk px0):=hv.px.2 kk ao _ hao (at_getD _ hkc)
 have iao:atI (d.as.map V.ref) (kk:Int)=some (.ref ao):=ZdF (by rw [List.getElem?_map,hao];rfl)
 have main:¬ (way=1∧p.a=0)→ZbI (JQ (JJ (ZdN K) [] E0 (ZV (tOp (ZE K) (Jv K (ZH 0) "colours") (ZH 1)) (ZV (ZH 2) (ZV (ZH 4) XW)))) (ZkH (Jv K (ZH 0) "colours") (ZH 1) ZgD))
   (ZbI (Zmo (tOr (Zfd (tOp ZkX (ZH 4) (tC (.int 0)))) (Zfd (tOp ZkX (ZH 4) (tC (.int 1))))) (JQ (ZH 3) (ZkH (Jv K (ZH 0) "depths") (ZH 1) ZgD)) ZjU) (ZcF (tC (.int 1))))
   { nx:=fun _ H'=>Q .non H',rt:=Q } [some (.ref c),some (.int (kk:Nat)),some (.ref t),some (.int z),some (.int (way:Nat))] H:=by
  intro hn
  have e1:put1 way s kk z p=({ s with colours:=s.colours.set kk (Xw way p (s.colours.getD kk px0)),depths:=if way<2 then s.depths.set kk z else s.depths },1):=by
   unfold put1;rw [ZgL hw,if_neg hn]
  rw [e1] at k
  refine ⟨_,rfl,c,cCv,d.dx,_,_,rfl,hv.ins,cls,T.Canvas.n_colours,rfl,_,rfl,al,_,_,_,rfl,rfl,SqL.of hv.cs,iao,_,rfl,_,rfl,ao,t,_,p,way,rfl,hpo,hp,hw,fun H1 t1 s1 hp1=>?_⟩
  have hv1:=hv.same s1
  refine ⟨_,rfl,c,cCv,d.dx,_,_,rfl,hv1.ins,cls,T.Canvas.n_colours,rfl,_,rfl,al,_,_,kk,rfl,rfl,hv1.cs,Zdw (by rw [List.length_map];exact hka),?_⟩
  rw [map_set V.ref]
  have kp1:Kp [al,dl] H1 (upd H1 al (.lst ((d.as.set kk t1).map V.ref))):=⟨hv1.lists,fun b o e n=>by rw [Zn (fun q=>n (by simp [q]))];exact e⟩
  have px2:Zw K (upd H1 al (.lst ((d.as.set kk t1).map V.ref))) (d.as.set kk t1) (s.colours.set kk (Xw way p (s.colours.getD kk px0))):=kp1.pxs (hv1.px.set hp1)
  have ds2:upd H1 al (.lst ((d.as.set kk t1).map V.ref)) dl=some (.lst (s.depths.map V.int)):=by rw [Zn (Ne.symm hv1.ne)];exact hv1.ds
  have hv2:=hv1.draw kp1 Ze px2 ds2 (by rw [List.length_set]) rfl
  have kp2:=(Kp.of_same hv.lists s1).trans kp1
  generalize upd H1 al (.lst ((d.as.set kk t1).map V.ref))=H2 at *
  have dep:way<2→ZbI (JQ (ZH 3) (ZkH (Jv K (ZH 0) "depths") (ZH 1) ZgD)) (ZcF (tC (.int 1))) { nx:=fun _ H'=>Q .non H',rt:=Q } [some (.ref c),some (.int (kk:Nat)),some (.ref t),some (.int z),some (.int (way:Nat))] H2:=by
   intro hw2
   rw [if_pos hw2] at k
   refine ⟨_,rfl,_,rfl,c,cCv,d.dx,_,_,rfl,hv2.ins,cls,T.Canvas.n_depths,rfl,_,rfl,dl,_,_,kk,rfl,rfl,hv2.ds,Zdw (by rw [List.length_map];exact hkd),?_⟩
   rw [map_set V.int]
   have kp3:Kp [al,dl] H2 (upd H2 dl (.lst ((s.depths.set kk z).map V.int))):=⟨hv2.lists,fun b o e n=>by rw [Zn (fun q=>n (by simp [q]))];exact e⟩
   have hv3:=hv2.draw kp3 (by rw [Zn hv2.ne];exact hv2.cs) (kp3.pxs hv2.px) Ze rfl (by rw [List.length_set])
   exact k _ (kp2.trans kp3) ⟨_,hv3⟩
  refine ⟨_,rfl,_,_,rfl,rfl,fun b1 h1=>⟨_,rfl,Ye (fun c1=>?_) fun c1=>?_⟩⟩
  ·exact Zjw (dep (by have:=h1.mp c1;lia))
  ·refine ⟨_,rfl,_,_,rfl,rfl,fun b2 h2=>⟨_,rfl,Ye (fun c2=>?_) fun c2=>?_⟩⟩
   ·exact dep (by have:=h2.mp c2;lia)
   ·have a1:¬ ((way:Nat):Int)=0:=fun z=>c1 (h1.mpr z)
    have a2:¬ ((way:Nat):Int)=1:=fun z=>c2 (h2.mpr z)
    rw [if_neg (by lia)] at k
    exact k H2 kp2 ⟨_,hv2⟩
 refine ⟨_,rfl,_,_,rfl,rfl,fun b1 h1=>⟨_,rfl,Ye (fun c1=>?_) fun c1=>?_⟩⟩
 ·have a1:way=1:=by have:=h1.mp c1;lia
  refine ⟨_,rfl,t,_,_,_,rfl,rfl,hp.1,Zfm p,_,_,rfl,rfl,fun b2 h2=>⟨_,rfl,Ye (fun c2=>?_) fun c2=>?_⟩⟩
  ·have a2:p.a=0:=by have:=h2.mp c2;lia
   have e1:put1 way s kk z p=(s,0):=by unfold put1;rw [ZgL hw,if_pos ⟨a1,a2⟩]
   rw [e1] at k
   exact k H (Kp.of_same hv.lists (Zq.refl H)) ⟨d,hv⟩
  ·exact main fun q=>c2 (h2.mpr (by have:=q.2;lia))
 ·exact ZfI (main fun q=>c1 (h1.mpr (by have:=q.1;lia)))
def XS (how:Nat) (s:Sb20.St) (x y:Int) (z:Int) (p:Px):Sb20.St×Nat:=if (0≤x∧x<(s.w:Int))∧(0≤y∧y<(s.h:Int)) then YI how s (y.toNat * s.w+x.toNat) z p else (s,0)
def ZdS (K:PySem.W.Frag) (cCv cTx cFg:Addr):Sp:=fun vs H Q _=>∃ (c:Addr) (x y:Int) (t:Addr) (z:Int) (way:Nat) (p:Px) (N:Nat) (s:Sb20.St) (cl dl:Addr),vs=[.ref c,.int x,.int y,.ref t,.int z,.int (way:Nat)]∧Cv K cCv cTx cFg H c N s cl dl∧Yr K H t p∧way<4 ∧
 ∀ (H':Hp),Kp [cl,dl] H H'→Cv K cCv cTx cFg H' c N (XS way s x y z p).1 cl dl→Q (.int ((XS way s x y z p).2:Nat)) H'
theorem place_lt {x y w h:Nat}(hx:x<w) (hy:y<h):y*w+x<w*h:=by
 have:(y+1)*w≤h*w:=Nat.mul_le_mul_right _ hy
 rw [Nat.add_mul,Nat.one_mul] at this
 rw [Nat.mul_comm w h];lia
theorem ZcG (F:Df K mg "draw_texel" (top 83) ["canvas","x","y","colour","depth","how"])
  (f_has_pixel:Mth P w K mg base CX0 1 cCv "has_pixel" ["self","x","y"] (ZgH cCv))
  (f_place_of:Mth P w K mg base CX0 1 cCv "place_of" ["self","x","y"] (XR cCv))
  (f_draw_pixel:Cal P w K mg base CX0 4 "draw_pixel" ["canvas","place","colour","depth","way"] (Zds K cCv cTx cFg))
  (f_is_hidden:Cal P w K mg base CX0 1 "is_hidden" ["canvas","place","depth"] (ZgJ K cCv cTx cFg)) (T:Zu K cCv cTx cFg cEg cCo cTr):Cal P w K mg base CX0 5 "draw_texel" ["canvas","x","y","colour","depth","how"] (ZdS K cCv cTx cFg):=by
 refine F.okS (N:=["canvas","x","y","colour","depth","how","place"]) fun S f cdv A outer s H vs Q E hr h=>?_
 obtain ⟨c,x,y,t,z,way,p,N,s,al,dl,rfl,⟨d,hv⟩,hp,hw,k⟩:=h
 refine ⟨_,(Zc (Yg (ZiH (XU (YE f_has_pixel (hr.mono (by decide)) Zi (pv 0) (Za (pv 1) (Za (pv 2) Zb))))) (Zf (Zm Zd)) ZJ) (Zc (Zl (i:=6) S.nd rfl (Or.inl rfl) (YE f_place_of (hr.mono (by decide)) Zi (pv 0) (Za (pv 1) (Za (pv 2) Zb)))) (Zc (Yg (XU (Zg f_is_hidden (hr.mono (by decide)) rfl Zi (Za (pv 0) (Za (pv 6) (Za (pv 4) Zb))))) (Zf (Zm Zd)) ZJ) (Zf (Zm (Zg f_draw_pixel (hr.mono (by decide)) rfl Zi (Za (pv 0) (Za (pv 6) (Za (pv 3) (Za (pv 4) (Za (pv 5) Zb))))))))))),?_⟩
 have k0:=Kp.of_same hv.lists (Zq.refl H)
 refine ⟨_,rfl,c,d.dx,_,rfl,hv.ins,rfl,_,rfl,_,rfl,c,d.dx,_,s.w,s.h,x,y,rfl,hv.ins,rfl,rfl,fun b1 h1=>⟨_,rfl,Ye (fun c1=>?_) fun c1=>?_⟩⟩
 ·have e:XS way s x y z p=(s,0):=by
   unfold XS
   rw [if_neg]
   intro q
   rw [h1.mpr q] at c1;cases c1
  rw [e] at k
  exact k H k0 ⟨d,hv⟩
 ·have q:(0≤x∧x<(s.w:Int))∧(0≤y∧y<(s.h:Int)):=by
   cases b1 with
   | false=>exact absurd rfl c1
   | true=>exact h1.mp rfl
  obtain ⟨i,rfl⟩:=Int.eq_ofNat_of_zero_le q.1.1
  obtain ⟨j,rfl⟩:=Int.eq_ofNat_of_zero_le q.2.1
  have e:XS way s (i:Int) (j:Int) z p=YI way s (j*s.w+i) z p:=by
   unfold XS;rw [if_pos q,Int.toNat_natCast,Int.toNat_natCast]
  rw [e] at k
  have hw8:=hv.wf.w
  have hh8:=hv.wf.h
  have hlt:j*s.w+i<s.w*s.h:=place_lt (by lia) (by lia)
  have ep:(j:Int)*(s.w:Int)+(i:Int)=((j*s.w+i:Nat):Int):=by rw [Int.natCast_add,Int.natCast_mul]
  refine ⟨_,rfl,c,d.dx,_,rfl,hv.ins,rfl,_,rfl,_,rfl,c,d.dx,_,s.w,(i:Int),(j:Int),_,rfl,hv.ins,rfl,⟨hw8,smN (by lia)⟩,ep,?_⟩
  refine ⟨_,rfl,_,rfl,_,rfl,c,j*s.w+i,z,N,s,al,dl,rfl,⟨d,hv⟩,hlt,fun b2 h2=>⟨_,rfl,Ye (fun c2=>?_) fun c2=>?_⟩⟩
  ·have:¬ z<s.depths.getD (j*s.w+i) 0:=by have:=h2.mp c2;lia
   unfold YI at k
   rw [if_neg this] at k
   exact k H k0 ⟨d,hv⟩
  ·have:z<s.depths.getD (j*s.w+i) 0:=by
    have:¬ s.depths.getD (j*s.w+i) 0≤z:=fun q=>c2 (h2.mpr q)
    lia
   unfold YI at k
   rw [if_pos this] at k
   exact ⟨_,rfl,_,rfl,_,rfl,_,rfl,_,rfl,c,j*s.w+i,t,z,way,p,N,s,al,dl,rfl,⟨d,hv⟩,hp,⟨hlt,hw⟩,k⟩
end
end Sg
namespace Sg
open PySem PySem.Spec PyProof.Rows L2 LX SbM
theorem ZcT {how:Nat}{f:FF}{s:Sb20.St}{k:Nat}{z:Int}{p:Px}(hf:f (k % s.w) (k / s.w)=some (z,p)):Yd how f s (k+1)=((YI how (Yd how f s k).1 k z p).1,(Yd how f s k).2+(YI how (Yd how f s k).1 k z p).2):=by
 rw [Zaq]
 unfold Xz
 rw [hf]
 obtain ⟨c,d,e,l1,l2⟩:=Xd how f s k
 have ew:(Yd how f s k).1.w=s.w:=by rw [e]
 have ek:k / s.w*s.w+k % s.w=k:=Nat.div_add_mod' k s.w
 generalize Yd how f s k=x at *
 have ekk:k / s.w*x.1.w+k % s.w=k:=by rw [ew];exact ek
 unfold Sb20.plot YI put1
 simp only [ekk]
 by_cases hz:z<x.1.depths.getD k 0
 ·rw [if_pos hz,if_pos hz]
  cases Sb20.laid how p (x.1.colours.getD k px0) with
  | none=>rfl
  | some q=>rfl
 ·rw [if_neg hz,if_neg hz];rfl
def ZI (t:Sb20.Texture) (x y z:Int):FF:=fun i j=>if x≤(i:Int)∧(i:Int)<x+((2^t.log:Nat):Int)∧y≤(j:Int)∧(j:Int)<y+((2^t.log:Nat):Int) then some (z,t.texel ((i:Int)-x) ((j:Int)-y)) else none
theorem ZhC (s:Sb20.St) (t:Sb20.Texture) (how:Nat) (x y z:Int):Sb20.sprite s t how x y z=Yd how (ZI t x y z) s (s.w*s.h):=ZbM how _ s
theorem JV {how:Nat}{t:Sb20.Texture}{x y z:Int}{s:Sb20.St}:Yd how (ZI t x y z) s (Yp s.w s.h (2^t.log) x y 0)=(s,0):=by
 have hS:0<2^t.log:=Nat.two_pow_pos _
 rw [← ZhG how (ZI t x y z) s]
 refine Xv (Nat.zero_le _) fun k _ hk=>?_
 unfold ZI
 rw [if_neg]
 rintro ⟨h1,h2,h3,h4⟩
 obtain ⟨n,_,_,_,e,_⟩:=ZbK (h:=s.h) hS (Nat.lt_of_lt_of_le hk (ZbJ _)) h1 h2 h3 h4
 have:=XF (w:=s.w) (h:=s.h) (x:=x) (y:=y) hS (Nat.zero_le n)
 lia
theorem ZfP {how:Nat}{t:Sb20.Texture}{x y z:Int}{s:Sb20.St}:Yd how (ZI t x y z) s (Yp s.w s.h (2^t.log) x y (2^t.log*2^t.log))=Sb20.sprite s t how x y z:=by
 have hS:0<2^t.log:=Nat.two_pow_pos _
 rw [ZhC]
 refine (Xv (ZbJ _) fun k h0 hk=>?_).symm
 unfold ZI
 rw [if_neg]
 rintro ⟨h1,h2,h3,h4⟩
 obtain ⟨n,hn,_,_,e,e2⟩:=ZbK (h:=s.h) hS hk h1 h2 h3 h4
 have:=XF (w:=s.w) (h:=s.h) (x:=x) (y:=y) hS (show n+1≤2^t.log*2^t.log from hn)
 lia
theorem ZeH {how:Nat}{t:Sb20.Texture}{x y z:Int}{s:Sb20.St}{n:Nat}{p:Px}(ht:t.pixels.length=2^t.log*2^t.log) (hn:n<2^t.log*2^t.log) (hp:t.pixels[n]?=some p) :
  Yd how (ZI t x y z) s (Yp s.w s.h (2^t.log) x y (n+1)) =
   ((XS how (Yd how (ZI t x y z) s (Yp s.w s.h (2^t.log) x y n)).1 (x+((n % 2^t.log:Nat):Int)) (y+((n / 2^t.log:Nat):Int)) z p).1,
    (Yd how (ZI t x y z) s (Yp s.w s.h (2^t.log) x y n)).2+(XS how (Yd how (ZI t x y z) s (Yp s.w s.h (2^t.log) x y n)).1 (x+((n % 2^t.log:Nat):Int)) (y+((n / 2^t.log:Nat):Int)) z p).2):=by
 have hS:0<2^t.log:=Nat.two_pow_pos _
 have hns:n / 2^t.log<2^t.log:=by rw [Nat.div_lt_iff_lt_mul hS];exact hn
 have hnm:=Nat.mod_lt n hS
 have hnd:=Nat.div_add_mod n (2^t.log)
 have tex:t.texel ((n % 2^t.log:Nat):Int) ((n / 2^t.log:Nat):Int)=p:=by
  unfold Sb20.Texture.texel
  rw [← Int.natCast_emod,← Int.natCast_emod,Int.toNat_natCast,Int.toNat_natCast,Nat.mod_eq_of_lt hns,Nat.mod_mod,Nat.mul_comm,hnd]
  exact getD_at _ hp
 obtain ⟨c,d,e,l1,l2⟩:=Xd how (ZI t x y z) s (Yp s.w s.h (2^t.log) x y n)
 have ew:(Yd how (ZI t x y z) s (Yp s.w s.h (2^t.log) x y n)).1.w=s.w:=by rw [e]
 have eh:(Yd how (ZI t x y z) s (Yp s.w s.h (2^t.log) x y n)).1.h=s.h:=by rw [e]
 have others:∀ k,Yp s.w s.h (2^t.log) x y n≤k→k<Yp s.w s.h (2^t.log) x y (n+1)→ZI t x y z (k % s.w) (k / s.w)≠none→x+((n % 2^t.log:Nat):Int)=((k % s.w:Nat):Int)∧y+((n / 2^t.log:Nat):Int)=((k / s.w:Nat):Int)∧k=Yp s.w s.h (2^t.log) x y n∧k<s.w*s.h:=by
  intro k h0 hk hne
  unfold ZI at hne
  by_cases hc:x≤((k % s.w:Nat):Int)∧((k % s.w:Nat):Int)<x+((2^t.log:Nat):Int)∧y≤((k / s.w:Nat):Int)∧((k / s.w:Nat):Int)<y+((2^t.log:Nat):Int)
  ·obtain ⟨h1,h2,h3,h4⟩:=hc
   have hkw:=Nat.lt_of_lt_of_le hk (ZbJ _)
   obtain ⟨m,hm,x1,y1,e1,e2⟩:=ZbK (h:=s.h) hS hkw h1 h2 h3 h4
   have hmn:m=n:=by
    rcases Nat.lt_trichotomy m n with q | q | q
    ·have:=XF (w:=s.w) (h:=s.h) (x:=x) (y:=y) hS (show m+1≤n from q);lia
    ·exact q
    ·have:=XF (w:=s.w) (h:=s.h) (x:=x) (y:=y) hS (show n+1≤m from q);lia
   subst hmn
   exact ⟨x1,y1,e1.symm,hkw⟩
  ·rw [if_neg hc] at hne;exact absurd rfl hne
 obtain ⟨mono1,inn⟩:=Jp (w:=s.w) (h:=s.h) (x:=x) (y:=y) hS n
 unfold XS
 rw [ew,eh]
 by_cases hin:(0≤x+((n % 2^t.log:Nat):Int)∧x+((n % 2^t.log:Nat):Int)<(s.w:Int))∧(0≤y+((n / 2^t.log:Nat):Int)∧y+((n / 2^t.log:Nat):Int)<(s.h:Int))
 ·rw [if_pos hin]
  obtain ⟨fk,fn⟩:=inn hin
  have hk:=fk
  have sk:Yd how (ZI t x y z) s (Yp s.w s.h (2^t.log) x y (n+1))=Yd how (ZI t x y z) s (Yp s.w s.h (2^t.log) x y n+1):=by
   refine Xv fn fun k h0 hk'=>?_
   cases q:ZI t x y z (k % s.w) (k / s.w) with
   | none=>rfl
   | some v =>
    have:=(others k (by lia) hk' (by rw [q];simp)).2.2.1
    lia
  obtain ⟨X,hX⟩:=Int.eq_ofNat_of_zero_le hin.1.1
  obtain ⟨Y,hY⟩:=Int.eq_ofNat_of_zero_le hin.2.1
  rw [hX,hY] at hin hk ⊢
  rw [Int.toNat_natCast,Int.toNat_natCast] at hk ⊢
  have hXw:X<s.w:=by lia
  have kmod:(Y*s.w+X) % s.w=X:=by rw [Nat.add_comm,Nat.add_mul_mod_self_right,Nat.mod_eq_of_lt hXw]
  have kdiv:(Y*s.w+X) / s.w=Y:=by rw [Nat.add_comm,Nat.add_mul_div_right _ _ (by lia),Nat.div_eq_of_lt hXw,Nat.zero_add]
  have hf:ZI t x y z (Yp s.w s.h (2^t.log) x y n % s.w) (Yp s.w s.h (2^t.log) x y n / s.w)=some (z,p):=by
   rw [hk,kmod,kdiv]
   unfold ZI
   generalize n % 2^t.log=na at *
   generalize n / 2^t.log=nb' at *
   rw [if_pos ⟨by lia,by lia,by lia,by lia⟩,show (X:Int)-x=(na:Int) by lia,show (Y:Int)-y=(nb':Int) by lia,tex]
  rw [sk,ZcT hf,hk]
 ·rw [if_neg hin]
  have sk:Yd how (ZI t x y z) s (Yp s.w s.h (2^t.log) x y (n+1))=Yd how (ZI t x y z) s (Yp s.w s.h (2^t.log) x y n):=by
   refine Xv mono1 fun k h0 hk'=>?_
   cases q:ZI t x y z (k % s.w) (k / s.w) with
   | none=>rfl
   | some v =>
    obtain ⟨a1,a2,a3,a4⟩:=others k h0 hk' (by rw [q];simp)
    exfalso
    apply hin
    have hw:0<s.w:=by
     rcases Nat.eq_zero_or_pos s.w with e | e
     ·rw [e,Nat.zero_mul] at a4;lia
     ·exact e
    have kw:=Nat.mod_lt k hw
    have kh:k / s.w<s.h:=by rw [Nat.div_lt_iff_lt_mul hw,Nat.mul_comm];exact a4
    rw [a1,a2]
    generalize k % s.w=kr at *
    generalize k / s.w=kq at *
    lia
  rw [sk]
  rfl
section
variable {P:Program}{w:World}{K:PySem.W.Frag}{mg:Str→Option Value}{base:Heap}{RF NT cCv cTx cFg cEg cCo cTr:Addr}
def Zcf (K:PySem.W.Frag) (cCv cTx cFg:Addr):Sp:=fun vs H Q _=>∃ (c ta:Addr) (how:Nat) (x y z:Int) (t:Sb20.Texture) (N:Nat) (s:Sb20.St) (cl dl:Addr),vs=[.ref c,.ref ta,.int (how:Nat),.int x,.int y,.int z]∧Cv K cCv cTx cFg H c N s cl dl∧QW K cTx H [cl,dl] ta t∧how<4 ∧
 ∀ (H':Hp),Kp [cl,dl] H H'→Cv K cCv cTx cFg H' c N (Sb20.sprite s t how x y z).1 cl dl→Q (.int ((Sb20.sprite s t how x y z).2:Nat)) H'
theorem ZbS (F:Df K mg "draw_sprite" (top 84) ["canvas","texture","how","x","y","depth"])
  (f_draw_texel:Cal P w K mg base CX0 5 "draw_texel" ["canvas","x","y","colour","depth","how"] (ZdS K cCv cTx cFg))
  (b_enumerate:mg "enumerate"=none) (T:Zu K cCv cTx cFg cEg cCo cTr):Cal P w K mg base CX0 6 "draw_sprite" ["canvas","texture","how","x","y","depth"] (Zcf K cCv cTx cFg):=by
 refine F.okS (N:=["canvas","texture","how","x","y","depth","drawn","index","colour","column","row"]) fun S f cdv A outer s H vs Q E hr h=>?_
 obtain ⟨c,ta,how,x,y,z,t,N,s,al,dl,rfl,⟨d,hv⟩,htx,hw,k⟩:=h
 refine ⟨_,(Zc (Zl (i:=6) S.nd rfl (Or.inl rfl) Zd) (Zc (Xr PassesOwn.never rfl (Zkn rfl b_enumerate (Za (Zo (pv 1) rfl) Zb)) (Jh (i:=7) (j:=8) rfl S.nd rfl rfl (Or.inl rfl) (Or.inl rfl) (Or.inr rfl) (Or.inr rfl) rfl) (Zc (Zl (i:=9) S.nd rfl (Or.inl rfl) (Zj ZkF (pv 7) (Zo (pv 1) rfl))) (Zc (Zl (i:=10) S.nd rfl (Or.inl rfl) (Zj Qc (pv 7) (Zo (pv 1) rfl))) (Zf (Zl (i:=6) S.nd rfl (Or.inl rfl) (Zj Yh (pv 6) (Zg f_draw_texel (hr.mono (by decide)) rfl Zi (Za (pv 0) (Za (Zj Yh (pv 3) (pv 9)) (Za (Zj Yh (pv 4) (pv 10)) (Za (pv 8) (Za (pv 5) (Za (pv 2) Zb))))))))))))) (Zf (Zm (pv 6))))),?_⟩
 have cls:=T.Texture.cl
 obtain ⟨tdx,tl,ts,h1,h2,h3,h4,h5,h6⟩:=htx
 have k0:=Kp.of_same hv.lists (Zq.refl H)
 have htl:ts.length=2^t.log*2^t.log:=h4.1.trans h6
 have hlog:2^t.log≤64:=Nat.le_trans (Nat.pow_le_pow_right (by decide) h5) (by decide)
 have hlog0:0<2^t.log:=Nat.two_pow_pos _
 rw [← ZfP] at k
 refine ⟨_,rfl,ta,cTx,tdx,_,_,rfl,h1,cls,T.Texture.n_colours,rfl,tl,_,rfl,SqL.of h2,ZiD (K:=K) (a:=tl) (xs:=ts.map V.ref) (p:=7) (q:=8) (fun i σ H'=>∃ (v7 v8 v9 v10:Option V),σ=[some (.ref c),some (.ref ta),some (.int (how:Nat)),some (.int x),some (.int y),some (.int z),some (.int ((Yd how (ZI t x y z) s (Yp s.w s.h (2^t.log) x y i)).2:Nat)),v7,v8,v9,v10] ∧
   Kp [al,dl] H H'∧Cv K cCv cTx cFg H' c N (Yd how (ZI t x y z) s (Yp s.w s.h (2^t.log) x y i)).1 al dl) ⟨none,none,none,none,?_,k0,?_⟩ ?_ ?_ ?_⟩
 ·rw [JV];rfl
 ·rw [JV];exact ⟨d,hv⟩
 ·rintro i σ H' _ ⟨_,_,_,_,_,kp,_⟩
  exact SqL.of (kp.2 _ _ h2 h3)
 ·rintro i σ H' Tp v hi hx ⟨v7,v8,v9,v10,rfl,kp,hv'⟩ hT
  rw [List.length_map] at hi
  rw [List.getElem?_map] at hx
  obtain ⟨b,hb,rfl⟩:∃ b,ts[i]?=some b∧v=V.ref b:=by
   cases e:ts[i]? with
   | none=>rw [e] at hx;cases hx
   | some b=>rw [e] at hx;exact ⟨b,rfl,(Option.some.inj hx).symm⟩
  have hil:i<t.pixels.length:=by rw [← h4.1];exact hi
  have hpx:t.pixels[i]?=some t.pixels[i]:=List.getElem?_eq_getElem hil
  have hP:=kp.px (h4.2 i b _ hb hpx)
  have sT:=Zh (o:=.tup [.int (i:Nat),.ref b]) hT
  have h1':=sT _ _ (kp.other h1 (fun _ z=>by cases z))
  obtain ⟨d',hv'⟩:=hv'
  have hv2:=hv'.same sT
  have kp2:=kp.trans (Kp.of_same hv'.lists sT)
  generalize upd H' Tp (.tup [.int (i:Nat),.ref b])=H2 at *
  have em:((i:Nat):Int) % ((2^t.log:Nat):Int)=((i % 2^t.log:Nat):Int):=(Int.natCast_emod _ _).symm
  have ed:((i:Nat):Int) / ((2^t.log:Nat):Int)=((i / 2^t.log:Nat):Int):=(Int.natCast_ediv _ _).symm
  refine ⟨_,rfl,_,rfl,ta,cTx,tdx,_,_,rfl,h1',cls,T.Texture.n_side,rfl,_,_,_,rfl,rfl,(by lia),em,?_⟩
  refine ⟨_,rfl,_,rfl,ta,cTx,tdx,_,_,rfl,h1',cls,T.Texture.n_side,rfl,_,_,_,rfl,rfl,⟨by lia,smN (by lia)⟩,ed,?_⟩
  have hst:=ZeH (how:=how) (x:=x) (y:=y) (z:=z) (s:=s) h6 (by rw [← h6];exact hil) hpx
  refine ⟨_,rfl,_,rfl,_,rfl,_,rfl,_,_,_,rfl,rfl,rfl,_,rfl,_,rfl,_,_,_,rfl,rfl,rfl,_,rfl,_,rfl,_,rfl,c,_,_,b,z,how,_,N,_,al,dl,rfl,⟨d',hv2⟩,⟨(Kp.of_same hv'.lists sT).seqT hP.1,hP.2⟩,hw,fun H3 kp3 hv3=>?_⟩
  refine ⟨_,_,_,rfl,rfl,rfl,some (.int (i:Nat)),some (.ref b),some (.int ((i % 2^t.log:Nat):Int)),some (.int ((i / 2^t.log:Nat):Int)),?_,kp2.trans kp3,?_⟩
  ·rw [hst]
   rw [Int.natCast_add]
   rfl
  ·rw [hst];exact hv3
 ·rintro σ H' ⟨v7,v8,v9,v10,rfl,kp,hv'⟩
  rw [List.length_map,htl] at *
  exact ⟨_,rfl,k H' kp hv'⟩
end
end Sg
namespace Sg
open PySem PySem.Spec PyProof.Rows L2 LX SbM
theorem add_neg (a b:Int):Sb20.add a (-b)=Sb20.sub a b:=by unfold Sb20.add Sb20.sub;rw [← Int.sub_eq_add_neg]
section
variable {P:Program}{w:World}{K:PySem.W.Frag}{mg:Str→Option Value}{base:Heap}{RF NT cCv cTx cFg cEg cCo cTr:Addr}
def Zfu (cFg:Addr):Sp:=fun vs H Q _=>∃ (c dx ct:Addr) (near far:Int),vs=[.ref c,.ref ct,.int near,.int far]∧H c=some (.ins cFg dx [])∧(Bd 171 near∧Bd 171 far∧0<Sb20.sub far near) ∧
 ∀ H':Hp,H' c=some (.ins cFg dx (Zml (.ref ct) (.int far) (.int (Sb20.div (128*Sb20.ONE) (Sb20.sub far near)))))→(∀ b o,H b=some o→b≠c→H' b=some o)→Q .non H'
theorem ZeU (F:Di K mg "Fog" cFg "Fog.__init__" (inClass (top 71) 0) ["self","colour","near","far"])
  (f_plus:Cal P w K mg base CX0 2 "plus" ["a","b"] QB)
  (f_power_of_two:Cal P w K mg base CX0 1 "power_of_two" ["exponent"] QF)
  (f_quotient:Cal P w K mg base CX0 2 "quotient" ["a","b"] Jg)
  (c_CLEAR:Cst mg "CLEAR" (.int 128)) (T:Zu K cCv cTx cFg cEg cCo cTr):Mak P w K mg base CX0 3 "Fog" cFg ["self","colour","near","far"] (Zfu cFg):=by
 refine F.okS (N:=["self","colour","near","far"]) fun S f cdv A outer s H vs Q E hr h=>?_
 obtain ⟨c,dx,ct,near,far,rfl,hc,⟨hn,hf,hp⟩,k⟩:=h
 refine ⟨_,(Zc (Zy (pv 0) (pv 1) rfl) (Zc (Zy (pv 0) (pv 3) rfl) (Zf (Zy (pv 0) (Zg f_quotient (hr.mono (by decide)) rfl Zi (Za (Zj Xu (Zp c_CLEAR rfl) (Zg f_power_of_two (hr.mono (by decide)) rfl Zi (Za Zd Zb))) (Za (Zg f_plus (hr.mono (by decide)) rfl Zi (Za (pv 3) (Za (YJ Qk (pv 2)) Zb))) Zb))) rfl)))),?_⟩
 have cl:=T.Fog.cl
 refine ⟨_,rfl,_,rfl,c,cFg,dx,[],rfl,hc,cl,T.Fog.n_colour,Yx,Zx fun H1 c1 k1=>?_⟩
 refine ⟨_,rfl,_,rfl,c,cFg,dx,_,rfl,c1,cl,T.Fog.n_far,Yx,Zx fun H2 c2 k2=>?_⟩
 have hs:Bd 1800 (Sb20.sub far near):=(hf.Zny hn).mono (by decide)
 refine ⟨_,Sb20.ONE,rfl,⟨by decide,by decide⟩,by decide,_,_,_,rfl,rfl,⟨by unfold Sm;decide,by unfold Sm;decide⟩,rfl,_,rfl,_,rfl,_,_,rfl,rfl,far,-near,Sb20.sub far near,rfl,⟨hf.mono (by decide),hn.neg.mono (by decide)⟩,add_neg far near,_,_,_,rfl,⟨by unfold Bd;decide,hp,hs⟩,rfl,fun H3 s3=>?_⟩
 refine ⟨_,rfl,c,cFg,dx,_,rfl,s3 _ _ c2,cl,T.Fog.n_scale,Yx,Zx fun H4 c4 k4=>?_⟩
 exact k H4 c4 fun b o e n=>k4 _ _ (s3 _ _ (k2 _ _ (k1 _ _ e n) n)) n
def ZdG (cFg:Addr):Sp:=fun vs H Q _=>∃ (fa dx ct:Addr) (far scale z:Int),vs=[.ref fa,.int z]∧H fa=some (.ins cFg dx (Zml (.ref ct) (.int far) (.int scale)))∧(Bd 171 far∧Bd 400 scale∧Bd 400 z)∧Q (.int (Sb20.clamp 0 (Sb20.whole (Sb20.mul (Sb20.sub far z) scale)) 128)) H
theorem Zdr (F:Df K mg "clearness" (top 72) ["fog","depth"])
  (f_plus:Cal P w K mg base CX0 2 "plus" ["a","b"] QB)
  (f_times:Cal P w K mg base CX0 2 "times" ["a","b"] Xk)
  (f_whole_from_single:Cal P w K mg base CX0 2 "whole_from_single" ["a"] Zkk)
  (c_CLEAR:Cst mg "CLEAR" (.int 128))
  (b_max:mg "max"=none)
  (b_min:mg "min"=none) (T:Zu K cCv cTx cFg cEg cCo cTr):Cal P w K mg base CX0 3 "clearness" ["fog","depth"] (ZdG cFg):=by
 refine F.okS (N:=["fog","depth","share"]) fun S f cdv A outer s H vs Q E hr h=>?_
 obtain ⟨fa,dx,ct,far,scale,z,rfl,hc,⟨hf,hs,hz⟩,k⟩:=h
 refine ⟨_,(Zc (Zl (i:=2) S.nd rfl (Or.inl rfl) (Zg f_whole_from_single (hr.mono (by decide)) rfl Zi (Za (Zg f_times (hr.mono (by decide)) rfl Zi (Za (Zg f_plus (hr.mono (by decide)) rfl Zi (Za (Zo (pv 0) rfl) (Za (YJ Qk (pv 1)) Zb))) (Za (Zo (pv 0) rfl) Zb))) Zb))) (Zf (Zm (ZP (ZiT rfl) (by rfl) b_max boot_max (Za Zd (Za (ZP (ZjR rfl) (by rfl) b_min boot_min (Za (pv 2) (Za (Zp c_CLEAR rfl) Zb))) Zb)))))),?_⟩
 have cl:=T.Fog.cl
 have hsub:Bd 403 (Sb20.sub far z):=(hf.mono (by decide)).Zny hz
 have hmul:=hsub.smul hs
 refine ⟨_,rfl,fa,cFg,dx,_,_,rfl,hc,cl,T.Fog.n_far,rfl,_,rfl,_,_,rfl,rfl,far,-z,Sb20.sub far z,rfl,⟨hf.mono (by decide),hz.neg.mono (by decide)⟩,add_neg far z,_,rfl,fa,cFg,dx,_,_,rfl,hc,cl,T.Fog.n_scale,rfl,_,_,_,rfl,⟨hsub.mono (by decide),hs.mono (by decide)⟩,rfl,_,_,rfl,hmul.mono (by decide),rfl,?_⟩
 exact ⟨_,rfl,_,_,_,rfl,rfl,_,_,_,rfl,rfl,k⟩
theorem ZcY {x hi:Int}(h:0≤hi):∃ n:Nat,Sb20.clamp 0 x hi=(n:Int)∧(n:Int)≤hi:=by
 unfold Sb20.clamp
 exact ⟨(max 0 (min x hi)).toNat,by lia,by lia⟩
def Zbv (f:Option Sb20.Fog) (p:Px) (z:Int):Px:=match f with
 | none=>p
 | some f=>Zhp f.colour p (Sb20.clamp 0 (Sb20.whole (Sb20.mul (Sb20.sub f.far z) f.scale)) 128).toNat
def ZjT (K:PySem.W.Frag) (cFg:Addr):Sp:=fun vs H Q _=>∃ (v:V) (t:Addr) (z:Int) (p:Px) (f:Option Sb20.Fog),vs=[v,.ref t,.int z]∧Xi K cFg H v f∧Yr K H t p∧Bd 400 z ∧
 ∀ (H':Hp) (t':Addr),Zq H H'→Yr K H' t' (Zbv f p z)→Q (.ref t') H'
theorem Zal (F:Df K mg "colour_in_fog" (top 73) ["fog","colour","depth"])
  (f_clearness:Cal P w K mg base CX0 3 "clearness" ["fog","depth"] (ZdG cFg))
  (f_fogged_colour:Cal P w K mg base CX0 3 "fogged_colour" ["fog","colour","k"] (Zbo K)) (T:Zu K cCv cTx cFg cEg cCo cTr):Cal P w K mg base CX0 4 "colour_in_fog" ["fog","colour","depth"] (ZjT K cFg):=by
 refine F.okS (N:=["fog","colour","depth"]) fun S f cdv A outer s H vs Q E hr h=>?_
 obtain ⟨v,t,z,p,fo,rfl,hf,hp,hz,k⟩:=h
 refine ⟨_,(Zc (Yg (Zjj (ZmB (pv 0))) (Zf (Zm (pv 1))) ZJ) (Zf (Zm (Zg f_fogged_colour (hr.mono (by decide)) rfl Zi (Za (Zo (pv 0) rfl) (Za (pv 1) (Za (Zg f_clearness (hr.mono (by decide)) rfl Zi (Za (pv 0) (Za (pv 2) Zb))) Zb))))))),?_⟩
 cases fo with
 | none =>
  have e:v=.non:=hf
  subst e
  exact ⟨_,rfl,_,rfl,Zjw ⟨_,rfl,k H t (Zq.refl H) hp⟩⟩
 | some fg =>
  obtain ⟨fa,dx,ct,rfl,h1,h2,h3,h4⟩:=hf
  obtain ⟨n,en,hn⟩:=ZcY (x:=Sb20.whole (Sb20.mul (Sb20.sub fg.far z) fg.scale)) (hi:=128) (by decide)
  have eq:Zbv (some fg) p z=Zhp fg.colour p n:=by unfold Zbv;simp only [en,Int.toNat_natCast]
  refine ⟨_,rfl,_,rfl,ZfI ⟨_,rfl,fa,cFg,dx,_,_,rfl,h1,T.Fog.cl,T.Fog.n_colour,rfl,_,rfl,_,rfl,_,rfl,fa,dx,ct,_,_,z,rfl,h1,⟨h3,h4,hz⟩,?_⟩⟩
  rw [en]
  refine ⟨ct,t,_,p,n,rfl,h2,hp,by lia,fun H' t' s1 n1 e1=>?_⟩
  refine k H' t' s1 ?_
  rw [eq]
  exact ⟨SqT.of e1,ZiO h2.2 hp.2 (by lia)⟩
end
end Sg
namespace Sg
open PySem PySem.Spec PyProof.Rows L2 LX SbM
abbrev Co:=Sb20.Corner
def Jm (k:Co):Prop:=(k.x.natAbs≤9000∧k.y.natAbs≤9000)∧Bd 171 k.z∧(((2^129:Nat):Int)≤k.r∧Bd 171 k.r)∧Bd 200 k.u∧Bd 200 k.v∧Bd 171 k.l
def ZQ (C:Addr) (H:Hp) (a:Addr) (k:Co):Prop:=(∃ dx,H a=some (.ins C dx (Zhr (.int k.x) (.int k.y) (.int k.z) (.int k.r) (.int k.u) (.int k.v) (.int k.l))))∧Jm k
theorem ZQ.other {C:Addr}{H H':Hp}{a:Addr}{k:Co}(h:ZQ C H a k) (q:∀ o,H a=some o→(∀ xs,o≠.lst xs)→H' a=some o):ZQ C H' a k:=by
 obtain ⟨⟨dx,h1⟩,h2⟩:=h
 exact ⟨⟨dx,q _ h1 (fun _ z=>by cases z)⟩,h2⟩
theorem ZQ.same {C:Addr}{H H':Hp}{a:Addr}{k:Co}(h:ZQ C H a k) (q:Zq H H'):ZQ C H' a k:=h.other fun o e _=>q _ _ e
theorem ZQ.kp {C:Addr}{H H':Hp}{A:List Addr}{a:Addr}{k:Co}(h:ZQ C H a k) (q:Kp A H H'):ZQ C H' a k:=h.other fun o e n=>q.other e n
section
variable {P:Program}{w:World}{K:PySem.W.Frag}{mg:Str→Option Value}{base:Heap}{RF NT cCv cTx cFg cEg cCo cTr:Addr}
def ZjS:Sp:=fun vs H Q _=>∃ n z:Int,vs=[.int n]∧Bd 171 n∧Sb20.whole (16*n)=z∧Q (.int z) H
theorem QO (F:Df K mg "place_from_single" (top 88) ["number"])
  (f_whole_from_single:Cal P w K mg base CX0 2 "whole_from_single" ["a"] Zkk)
  (c_PIXEL:Cst mg "PIXEL" (.int 16)):Cal P w K mg base CX0 3 "place_from_single" ["number"] ZjS:=by
 refine F.okS (N:=["number"]) fun S f cdv A outer s H vs Q E hr h=>?_
 obtain ⟨n,z,rfl,hn,e,k⟩:=h
 refine ⟨_,(Zf (Zm (Zg f_whole_from_single (hr.mono (by decide)) rfl Zi (Za (Zj Xu (Zp c_PIXEL rfl) (pv 0)) Zb)))),?_⟩
 have:Bd 177 (16*n):=(Bd.mul (show Bd 6 16 by unfold Bd;decide) hn)
 exact ⟨_,rfl,_,_,_,rfl,rfl,⟨by unfold Sm;decide,sm hn⟩,rfl,_,z,rfl,this.mono (by decide),e,k⟩
theorem smI {x:Int}(h:x.natAbs≤1000000):Sm x:=Qt (Nat.lt_of_le_of_lt h (by decide))
def ZdY (cCo:Addr):Sp:=fun vs H Q _=>∃ (a b:Addr) (x y z:Int) (ka kb:Co),vs=[.ref a,.ref b,.int x,.int y]∧ZQ cCo H a ka∧ZQ cCo H b kb∧(x.natAbs≤100000∧y.natAbs≤100000)∧Sb20.edge ka kb x y=z∧Q (.int z) H
theorem ZfU (F:Df K mg "side_of" (top 89) ["a","b","x","y"]) (T:Zu K cCv cTx cFg cEg cCo cTr):Cal P w K mg base CX0 1 "side_of" ["a","b","x","y"] (ZdY cCo):=by
 refine F.okS (N:=["a","b","x","y"]) fun S f cdv A outer s H vs Q E hr h=>?_
 obtain ⟨a,b,x,y,z,ka,kb,rfl,⟨⟨da,ha⟩,oa⟩,⟨⟨db,hb⟩,ob⟩,⟨hx,hy⟩,e,k⟩:=h
 refine ⟨_,(Zf (Zm (Zj YK (Zj Xu (Zj YK (Zo (pv 1) rfl) (Zo (pv 0) rfl)) (Zj YK (pv 3) (Zo (pv 0) rfl))) (Zj Xu (Zj YK (Zo (pv 1) rfl) (Zo (pv 0) rfl)) (Zj YK (pv 2) (Zo (pv 0) rfl)))))),?_⟩
 have cl:=T.Corner.cl
 obtain ⟨⟨a1,a2⟩,_⟩:=oa
 obtain ⟨⟨b1,b2⟩,_⟩:=ob
 refine ⟨_,rfl,b,cCo,db,_,_,rfl,hb,cl,T.Corner.n_x,rfl,_,rfl,a,cCo,da,_,_,rfl,ha,cl,T.Corner.n_x,rfl,_,_,_,rfl,rfl,rfl,?_⟩
 refine ⟨_,rfl,_,rfl,a,cCo,da,_,_,rfl,ha,cl,T.Corner.n_y,rfl,_,_,_,rfl,rfl,rfl,_,_,_,rfl,rfl,⟨smI (by lia),smI (by lia)⟩,rfl,?_⟩
 refine ⟨_,rfl,b,cCo,db,_,_,rfl,hb,cl,T.Corner.n_y,rfl,_,rfl,a,cCo,da,_,_,rfl,ha,cl,T.Corner.n_y,rfl,_,_,_,rfl,rfl,rfl,?_⟩
 refine ⟨_,rfl,_,rfl,a,cCo,da,_,_,rfl,ha,cl,T.Corner.n_x,rfl,_,_,_,rfl,rfl,rfl,_,_,_,rfl,rfl,⟨smI (by lia),smI (by lia)⟩,rfl,?_⟩
 exact ⟨_,_,z,rfl,rfl,e,k⟩
def ZiL (cCo:Addr):Sp:=fun vs H Q _=>∃ (a b:Addr) (ka kb:Co),vs=[.ref a,.ref b]∧ZQ cCo H a ka∧ZQ cCo H b kb∧∀ q:Bool,(q=true↔Sb20.own ka kb=true)→Q (.bl q) H
theorem ZdH (a b:Co):Sb20.own a b=true↔a.y<b.y∨(a.y=b.y∧b.x<a.x):=by
 unfold Sb20.own
 simp
theorem ZhB (F:Df K mg "is_own" (top 90) ["a","b"]) (T:Zu K cCv cTx cFg cEg cCo cTr):Cal P w K mg base CX0 1 "is_own" ["a","b"] (ZiL cCo):=by
 refine F.okS (N:=["a","b"]) fun S f cdv A outer s H vs Q E hr h=>?_
 obtain ⟨a,b,ka,kb,rfl,⟨⟨da,ha⟩,oa⟩,⟨⟨db,hb⟩,ob⟩,k⟩:=h
 refine ⟨_,(Zf (Zm (Znp (QS gtC (Zo (pv 1) rfl) (Zo (pv 0) rfl) (ZD _)) (Zgr (ZjW (QS eqC (Zo (pv 1) rfl) (Zo (pv 0) rfl) (ZD _)) (Zgr (QS ltC (Zo (pv 1) rfl) (Zo (pv 0) rfl) (ZD _)))))))),?_⟩
 have cl:=T.Corner.cl
 refine ⟨_,rfl,b,cCo,db,_,_,rfl,hb,cl,T.Corner.n_y,rfl,_,rfl,a,cCo,da,_,_,rfl,ha,cl,T.Corner.n_y,rfl,_,_,rfl,rfl,fun b1 h1=>⟨b1,rfl,Ye (fun c1=>?_) fun c1=>?_⟩⟩
 ·exact k true ⟨fun _=>(ZdH _ _).mpr (.inl (h1.mp c1)),fun _=>rfl⟩
 ·have n1:¬ ka.y<kb.y:=fun z=>c1 (h1.mpr z)
  refine ⟨_,rfl,b,cCo,db,_,_,rfl,hb,cl,T.Corner.n_y,rfl,_,rfl,a,cCo,da,_,_,rfl,ha,cl,T.Corner.n_y,rfl,_,_,rfl,rfl,fun b2 h2=>⟨b2,rfl,Ye (fun c2=>?_) fun c2=>?_⟩⟩
  ·have e2:=h2.mp c2
   refine ⟨_,rfl,b,cCo,db,_,_,rfl,hb,cl,T.Corner.n_x,rfl,_,rfl,a,cCo,da,_,_,rfl,ha,cl,T.Corner.n_x,rfl,_,_,rfl,rfl,fun b3 h3=>k b3 ?_⟩
   rw [h3,ZdH]
   constructor
   ·intro q;exact .inr ⟨e2.symm,q⟩
   ·rintro (q | q)
    ·exact absurd q n1
    ·exact q.2
  ·refine k false ⟨(fun z=>by cases z),fun z=>?_⟩
   rcases (ZdH _ _).mp z with q | q
   ·exact absurd q n1
   ·exact absurd (h2.mpr q.1.symm) c2
def ZZ (ka kb:Co):Int:=if Sb20.own ka kb=true then 0 else 1
def Jd (cEg cCo:Addr) (H:Hp) (e:Addr) (ka kb:Co):Prop:=∃ dx a b,H e=some (.ins cEg dx (ZlB (.ref a) (.ref b) (.int (16*(kb.y-ka.y))) (.int (ZZ ka kb))))∧ZQ cCo H a ka∧ZQ cCo H b kb
theorem Jd.kp {H H':Hp}{A:List Addr}{e:Addr}{ka kb:Co}(h:Jd cEg cCo H e ka kb) (q:Kp A H H'):Jd cEg cCo H' e ka kb:=by
 obtain ⟨dx,a,b,h1,h2,h3⟩:=h
 exact ⟨dx,a,b,q.other h1 (fun _ z=>by cases z),h2.kp q,h3.kp q⟩
theorem Jd.same {H H':Hp}{e:Addr}{ka kb:Co}(h:Jd cEg cCo H e ka kb) (q:Zq H H'):Jd cEg cCo H' e ka kb:=by
 obtain ⟨dx,a,b,h1,h2,h3⟩:=h
 exact ⟨dx,a,b,q _ _ h1,h2.same q,h3.same q⟩
def Zeq (cEg cCo:Addr):Sp:=fun vs H Q _=>∃ (c dx a b:Addr) (ka kb:Co),vs=[.ref c,.ref a,.ref b]∧H c=some (.ins cEg dx [])∧ZQ cCo H a ka∧ZQ cCo H b kb∧(a≠c∧b≠c) ∧
 ∀ H':Hp,Jd cEg cCo H' c ka kb→(∀ b o,H b=some o→b≠c→H' b=some o)→Q .non H'
theorem Zel (F:Di K mg "Edge" cEg "Edge.__init__" (inClass (top 91) 0) ["self","a","b"])
  (f_is_own:Cal P w K mg base CX0 1 "is_own" ["a","b"] (ZiL cCo))
  (c_PIXEL:Cst mg "PIXEL" (.int 16)) (T:Zu K cCv cTx cFg cEg cCo cTr):Mak P w K mg base CX0 2 "Edge" cEg ["self","a","b"] (Zeq cEg cCo):=by
 refine F.okS (N:=["self","a","b"]) fun S f cdv A outer s H vs Q E hr h=>?_
 obtain ⟨c,dx,a,b,ka,kb,rfl,hc,ha,hb,⟨na,nb'⟩,k⟩:=h
 refine ⟨_,(Zc (Zy (pv 0) (pv 1) rfl) (Zc (Zy (pv 0) (pv 2) rfl) (Zc (Zy (pv 0) (Zj Xu (Zp c_PIXEL rfl) (Zj YK (Zo (pv 2) rfl) (Zo (pv 1) rfl))) rfl) (Zf (Zy (pv 0) (Qp (XU (Zg f_is_own (hr.mono (by decide)) rfl Zi (Za (pv 1) (Za (pv 2) Zb)))) Zd Zd) rfl))))),?_⟩
 have cl:=T.Edge.cl
 have cc:=T.Corner.cl
 refine ⟨_,rfl,_,rfl,c,cEg,dx,[],rfl,hc,cl,T.Edge.n_a,Yx,Zx fun H1 c1 k1=>?_⟩
 refine ⟨_,rfl,_,rfl,c,cEg,dx,_,rfl,c1,cl,T.Edge.n_b,Yx,Zx fun H2 c2 k2=>?_⟩
 have ha2:ZQ cCo H2 a ka:=ha.other fun o e _=>k2 _ _ (k1 _ _ e na) na
 have hb2:ZQ cCo H2 b kb:=hb.other fun o e _=>k2 _ _ (k1 _ _ e nb') nb'
 obtain ⟨da,ia⟩:=ha2.1
 obtain ⟨db,ib⟩:=hb2.1
 have oa:=ha.2.1
 have ob:=hb.2.1
 refine ⟨_,rfl,b,cCo,db,_,_,rfl,ib,cc,T.Corner.n_y,rfl,_,rfl,a,cCo,da,_,_,rfl,ia,cc,T.Corner.n_y,rfl,_,_,_,rfl,rfl,rfl,_,_,_,rfl,rfl,⟨by unfold Sm;decide,smI (by lia)⟩,rfl,_,rfl,c,cEg,dx,_,rfl,c2,cl,T.Edge.n_fall,Yx,Zx fun H3 c3 k3=>?_⟩
 have ha3:ZQ cCo H3 a ka:=ha2.other fun o e _=>k3 _ _ e na
 have hb3:ZQ cCo H3 b kb:=hb2.other fun o e _=>k3 _ _ e nb'
 have fin:∀ H4:Hp,H4 c=some (.ins cEg dx (ZlB (.ref a) (.ref b) (.int (16*(kb.y-ka.y))) (.int (ZZ ka kb))))→(∀ b u,H3 b=some u→b≠c→H4 b=some u)→Q .non H4:=fun H4 c4 k4 =>
  k H4 ⟨dx,a,b,c4,ha3.other fun o e _=>k4 _ _ e na,hb3.other fun o e _=>k4 _ _ e nb'⟩ fun x o e n=>k4 _ _ (k3 _ _ (k2 _ _ (k1 _ _ e n) n) n) n
 refine ⟨_,rfl,_,rfl,a,b,ka,kb,rfl,ha3,hb3,fun q hq=>⟨_,rfl,Ye (fun c1'=>?_) fun c1'=>?_⟩⟩
 ·have el:ZZ ka kb=0:=by unfold ZZ;rw [if_pos (hq.mp c1')]
  rw [el] at fin
  exact ⟨_,rfl,c,cEg,dx,_,rfl,c3,cl,T.Edge.n_least,Yx,Zx fun H4 c4 k4=>fin H4 c4 k4⟩
 ·have el:ZZ ka kb=1:=by unfold ZZ;rw [if_neg (fun z=>c1' (hq.mpr z))]
  rw [el] at fin
  exact ⟨_,rfl,c,cEg,dx,_,rfl,c3,cl,T.Edge.n_least,Yx,Zx fun H4 c4 k4=>fin H4 c4 k4⟩
def Zhd (cEg cCo:Addr):Sp:=fun vs H Q _=>∃ (e:Addr) (j:Nat) (ka kb:Co),vs=[.ref e,.int (j:Nat)]∧Jd cEg cCo H e ka kb∧j≤256∧Q (.int (Sb20.edge ka kb 8 (16*(j:Int)+8))) H
theorem Jc (F:Dm K cEg "side_at_row" "Edge.side_at_row" (inClass (top 91) 1) ["self","j"])
  (f_side_of:Cal P w K mg base CX0 1 "side_of" ["a","b","x","y"] (ZdY cCo))
  (c_MIDDLE:Cst mg "MIDDLE" (.int 8))
  (c_PIXEL:Cst mg "PIXEL" (.int 16)) (T:Zu K cCv cTx cFg cEg cCo cTr):Mth P w K mg base CX0 2 cEg "side_at_row" ["self","j"] (Zhd cEg cCo):=by
 refine F.okS (N:=["self","j"]) fun S f cdv A outer s H vs Q E hr h=>?_
 obtain ⟨e,j,ka,kb,rfl,⟨dx,a,b,he,ha,hb⟩,hj,k⟩:=h
 refine ⟨_,(Zf (Zm (Zg f_side_of (hr.mono (by decide)) rfl Zi (Za (Zo (pv 0) rfl) (Za (Zo (pv 0) rfl) (Za (Zp c_MIDDLE rfl) (Za (Zj Yh (Zj Xu (Zp c_PIXEL rfl) (pv 1)) (Zp c_MIDDLE rfl)) Zb))))))),?_⟩
 have cl:=T.Edge.cl
 refine ⟨_,rfl,e,cEg,dx,_,_,rfl,he,cl,T.Edge.n_a,rfl,_,rfl,e,cEg,dx,_,_,rfl,he,cl,T.Edge.n_b,rfl,_,rfl,_,_,_,rfl,rfl,⟨by unfold Sm;decide,smI (by lia)⟩,rfl,_,_,_,rfl,rfl,rfl,a,b,8,_,_,ka,kb,rfl,ha,hb,⟨by decide,by lia⟩,rfl,k⟩
end
end Sg
namespace Sg
open PySem PySem.Spec PyProof.Rows L2 LX SbM
def ZS (e:Co×Co):Int:=16*(e.2.y-e.1.y)
def Zdd (cEg cCo:Addr) (H:Hp) (as:List Addr) (es:List (Co×Co)):Prop:=as.length=es.length∧∀ (i:Nat) (a:Addr) (e:Co×Co),as[i]?=some a→es[i]?=some e→Jd cEg cCo H a e.1 e.2
def okE (e:Co×Co) (s i:Int):Prop:=ZZ e.1 e.2≤s-ZS e*i
theorem Zgf {f l s z i:Int}(hf:f<0):max z (-((s-l) / -f))≤i↔(z≤i∧l≤s-f*i):=by
 have h1 : -((s-l) / -f)≤i↔-i≤(s-l) / -f:=by omega
 have h2 : -i≤(s-l) / -f↔-i * -f≤s-l:=Int.le_ediv_iff_mul_le (by omega)
 have h3 : -i * -f=f*i:=by rw [Int.neg_mul_neg,Int.mul_comm]
 rw [h3] at h2
 constructor
 ·intro h
  have : -((s-l) / -f)≤i:=by omega
  have:=h2.mp (h1.mp this)
  omega
 ·intro h
  have:=h1.mpr (h2.mpr (by omega))
  omega
theorem last_step {f l s z i:Int}(hf:0<f):i≤min z ((s-l) / f)↔(i≤z∧l≤s-f*i):=by
 have h2:i≤(s-l) / f↔i*f≤s-l:=Int.le_ediv_iff_mul_le hf
 rw [Int.mul_comm] at h2
 constructor
 ·intro h
  have:=h2.mp (by omega)
  omega
 ·intro h
  have:=h2.mpr (by omega)
  omega
theorem Zkj {a f:Int}(hf:0<f) (h:a.natAbs≤2^36) : -(2^36)≤a / f∧a / f≤2^36:=by
 constructor
 ·rw [Int.le_ediv_iff_mul_le hf]
  have : -(2^36:Int)*f≤-(2^36)*1:=Int.mul_le_mul_of_nonpos_left (by decide) (by omega)
  omega
 ·have:a / f<2^36+1:=by
   rw [Int.ediv_lt_iff_lt_mul hf]
   have:(2^36+1:Int)*1≤(2^36+1)*f:=Int.mul_le_mul_of_nonneg_left (by omega) (by decide)
   omega
  omega
theorem Qx (a b:Co):ZZ a b=0∨ZZ a b=1:=by unfold ZZ;split <;> simp
section
variable {P:Program}{w:World}{K:PySem.W.Frag}{mg:Str→Option Value}{base:Heap}{RF NT cCv cTx cFg cEg cCo cTr:Addr}
theorem Zdd.same {H H':Hp}{as:List Addr}{es:List (Co×Co)}(h:Zdd cEg cCo H as es) (q:Zq H H'):Zdd cEg cCo H' as es:=⟨h.1,fun i a e h1 h2=>(h.2 i a e h1 h2).same q⟩
def ZaZ (es:List (Co×Co)) (ss:List Int) (k:Nat) (z:Int):Prop:=(0≤z∧z≤2^37)∧∀ i:Int,0≤i→(z≤i↔∀ (n:Nat) (e:Co×Co) (s:Int),n<k→es[n]?=some e→ss[n]?=some s→ZS e<0→okE e s i)
def LastOk (es:List (Co×Co)) (ss:List Int) (w:Nat) (k:Nat) (z:Int):Prop:=(-(2^37)≤z∧z≤(w:Int)-1)∧∀ i:Int,0≤i→(i≤z↔i≤(w:Int)-1∧∀ (n:Nat) (e:Co×Co) (s:Int),n<k→es[n]?=some e→ss[n]?=some s→¬ ZS e<0→okE e s i)
def Zeb (K:PySem.W.Frag) (cEg cCo:Addr):Sp:=fun vs H Q _=>∃ (ea sa:Addr) (as:List Addr) (es:List (Co×Co)) (ss:List Int),vs=[.ref ea,.ref sa]∧SqL K H ea (as.map V.ref)∧SqL K H sa (ss.map V.int)∧Zdd cEg cCo H as es∧ss.length=es.length∧(∀ s∈ss,s.natAbs≤2^35) ∧
 ∀ (H':Hp) (z:Int),Zq H H'→ZaZ es ss es.length z→Q (.int z) H'
theorem ZaT (F:Df K mg "first_in_row" (top 92) ["edges","sides"])
  (b_max:mg "max"=none)
  (b_zip:mg "zip"=none) (T:Zu K cCv cTx cFg cEg cCo cTr):Cal P w K mg base CX0 1 "first_in_row" ["edges","sides"] (Zeb K cEg cCo):=by
 refine F.okS (N:=["edges","sides","first","edge","side"]) fun S f cdv A outer s H vs Q E hr h=>?_
 obtain ⟨ea,sa,as,es,ss,rfl,hea,hsa,hE,hl,hs,k⟩:=h
 refine ⟨_,(Zc (Zl (i:=2) S.nd rfl (Or.inl rfl) Zd) (Zc (Xr PassesOwn.never rfl (Zep rfl b_zip (Za (pv 0) (Za (pv 1) Zb))) (Jh (i:=3) (j:=4) rfl S.nd rfl rfl (Or.inl rfl) (Or.inl rfl) (Or.inr rfl) (Or.inr rfl) rfl) (Zf (Yg (ZC ltC (Zo (pv 3) rfl) Zd (ZD _)) (Zf (Zl (i:=2) S.nd rfl (Or.inl rfl) (ZP (ZiT rfl) (by rfl) b_max boot_max (Za (pv 2) (Za (YJ Qk (Zj Qc (Zj YK (pv 4) (Zo (pv 3) rfl)) (YJ Qk (Zo (pv 3) rfl)))) Zb))))) ZJ))) (Zf (Zm (pv 2))))),?_⟩
 have cl:=T.Edge.cl
 refine ⟨_,rfl,_,rfl,ea,sa,_,_,rfl,hea,hsa,ZgY (K:=K) (a:=ea) (b:=sa) (xs:=as.map V.ref) (ys:=ss.map V.int) (n:=es.length) (p:=3) (q:=4) (fun n σ H'=>∃ (v3 v4:Option V) (z:Int),σ=[some (.ref ea),some (.ref sa),some (.int z),v3,v4]∧Zq H H'∧ZaZ es ss n z)
  (by rw [List.length_map];exact hE.1) (by rw [List.length_map];exact hl) ⟨none,none,0,rfl,Zq.refl H,⟨⟨by decide,by decide⟩,fun i hi=>⟨(fun _ n e s hn=>by omega),fun _=>hi⟩⟩⟩ ?_ ?_ ?_⟩
 ·rintro i σ H' _ ⟨_,_,_,_,s1,_⟩
  exact ⟨s1.seq hea,s1.seq hsa⟩
 ·rintro n σ H' Tp x y hn hx hy ⟨v3,v4,z,rfl,s1,hF⟩ hT
  rw [List.getElem?_map] at hx hy
  obtain ⟨a,ha,rfl⟩:∃ b,as[n]?=some b∧x=V.ref b:=by
   cases e:as[n]? with
   | none=>rw [e] at hx;cases hx
   | some b=>rw [e] at hx;exact ⟨b,rfl,(Option.some.inj hx).symm⟩
  obtain ⟨sd,hsd,rfl⟩:∃ b,ss[n]?=some b∧y=V.int b:=by
   cases e:ss[n]? with
   | none=>rw [e] at hy;cases hy
   | some b=>rw [e] at hy;exact ⟨b,rfl,(Option.some.inj hy).symm⟩
  have he:es[n]?=some es[n]:=List.getElem?_eq_getElem hn
  generalize es[n]=e at he
  have s2:=Zr (o:=.tup [.ref a,.int sd]) s1 (s1.free hT)
  obtain ⟨dx,ca,cb,hed,hca,hcb⟩:=(hE.2 n a e ha he).same s2
  have fe:(16*(e.2.y-e.1.y))=ZS e:=rfl
  rw [fe] at hed
  have bs:=hs sd (List.mem_of_getElem? hsd)
  have lb:=Qx e.1 e.2
  have fb:(ZS e).natAbs≤1000000:=by
   have h1:=hca.2.1
   have h2:=hcb.2.1
   unfold ZS
   omega
  have more:∀ z',(0≤z'∧z'≤2^37)→(∀ i:Int,0≤i→(z'≤i↔z≤i∧(ZS e<0→okE e sd i)))→ZaZ es ss (n+1) z':=fun z' hz' hq=>by
   refine ⟨hz',fun i hi=>?_⟩
   rw [hq i hi,hF.2 i hi]
   constructor
   ·rintro ⟨h1,h2⟩ m e' s' hm he' hs' hf
    by_cases hmn:m=n
    ·subst hmn
     rw [he] at he';rw [hsd] at hs'
     cases he';cases hs';exact h2 hf
    ·exact h1 m e' s' (by omega) he' hs' hf
   ·intro h
    exact ⟨fun m e' s' hm=>h m e' s' (by omega),fun hf=>h n e sd (by omega) he hsd hf⟩
  refine ⟨_,rfl,a,cEg,dx,_,_,rfl,hed,cl,T.Edge.n_fall,rfl,_,_,rfl,rfl,fun b1 h1=>⟨_,rfl,Ye (fun c1=>?_) fun c1=>?_⟩⟩
  ·have hf:ZS e<0:=h1.mp c1
   have db:=Zkj (a:=sd-ZZ e.1 e.2) (f:=-ZS e) (by omega) (by omega)
   refine ⟨_,rfl,_,rfl,_,rfl,a,cEg,dx,_,_,rfl,hed,cl,T.Edge.n_least,rfl,_,_,_,rfl,rfl,rfl,_,rfl,a,cEg,dx,_,_,rfl,hed,cl,T.Edge.n_fall,rfl,_,_,rfl,rfl,_,_,_,rfl,rfl,⟨by omega,smI (by omega)⟩,rfl,_,_,rfl,rfl,_,_,_,rfl,rfl,?_⟩
   refine ⟨_,_,_,rfl,s2,more _ ?_ ?_⟩
   ·have:=hF.1
    omega
   ·intro i hi
    rw [Zgf hf]
    constructor
    ·rintro ⟨q1,q2⟩;exact ⟨q1,fun _=>q2⟩
    ·rintro ⟨q1,q2⟩;exact ⟨q1,q2 hf⟩
  ·have hf:¬ ZS e<0:=fun z=>c1 (h1.mpr z)
   exact ⟨_,_,z,rfl,s2,more z hF.1 fun i hi=>⟨fun q=>⟨q,fun z=>absurd z hf⟩,fun q=>q.1⟩⟩
 ·rintro σ H' ⟨v3,v4,z,rfl,s1,hF⟩
  exact ⟨_,rfl,k H' z s1 hF⟩
def ZfK (K:PySem.W.Frag) (cEg cCo:Addr):Sp:=fun vs H Q _=>∃ (ea sa:Addr) (as:List Addr) (es:List (Co×Co)) (ss:List Int) (wd:Nat),vs=[.ref ea,.ref sa,.int (wd:Nat)]∧SqL K H ea (as.map V.ref)∧SqL K H sa (ss.map V.int)∧Zdd cEg cCo H as es∧ss.length=es.length∧(∀ s∈ss,s.natAbs≤2^35) ∧
 ∀ (H':Hp) (z:Int),Zq H H'→LastOk es ss wd es.length z→Q (.int z) H'
theorem Zbt (F:Df K mg "last_in_row" (top 93) ["edges","sides","width"])
  (b_min:mg "min"=none)
  (b_zip:mg "zip"=none) (T:Zu K cCv cTx cFg cEg cCo cTr):Cal P w K mg base CX0 1 "last_in_row" ["edges","sides","width"] (ZfK K cEg cCo):=by
 refine F.okS (N:=["edges","sides","width","last","edge","side"]) fun S f cdv A outer s H vs Q E hr h=>?_
 obtain ⟨ea,sa,as,es,ss,wd,rfl,hea,hsa,hE,hl,hs,k⟩:=h
 refine ⟨_,(Zc (Zl (i:=3) S.nd rfl (Or.inl rfl) (Zj YK (pv 2) Zd)) (Zc (Xr PassesOwn.never rfl (Zep rfl b_zip (Za (pv 0) (Za (pv 1) Zb))) (Jh (i:=4) (j:=5) rfl S.nd rfl rfl (Or.inl rfl) (Or.inl rfl) (Or.inr rfl) (Or.inr rfl) rfl) (Zf (Yg (ZC gtC (Zo (pv 4) rfl) Zd (ZD _)) (Zf (Zl (i:=3) S.nd rfl (Or.inl rfl) (ZP (ZjR rfl) (by rfl) b_min boot_min (Za (pv 3) (Za (Zj Qc (Zj YK (pv 5) (Zo (pv 4) rfl)) (Zo (pv 4) rfl)) Zb))))) (Zf (Yg (PW.pt (Zdy (ZC eqC (Zo (pv 4) rfl) Zd (ZD _)) (Zba (ZC ltC (pv 5) (Zo (pv 4) rfl) (ZD _))))) (Zf (Zl (i:=3) S.nd rfl (Or.inl rfl) (YJ Qk Zd))) ZJ))))) (Zf (Zm (pv 3))))),?_⟩
 have cl:=T.Edge.cl
 refine ⟨_,rfl,_,_,_,rfl,rfl,rfl,?_⟩
 refine ⟨_,rfl,_,rfl,ea,sa,_,_,rfl,hea,hsa,ZgY (K:=K) (a:=ea) (b:=sa) (xs:=as.map V.ref) (ys:=ss.map V.int) (n:=es.length) (p:=4) (q:=5) (fun n σ H'=>∃ (v3 v4:Option V) (z:Int),σ=[some (.ref ea),some (.ref sa),some (.int (wd:Nat)),some (.int z),v3,v4]∧Zq H H'∧LastOk es ss wd n z)
  (by rw [List.length_map];exact hE.1) (by rw [List.length_map];exact hl) ⟨none,none,(wd:Int)-1,rfl,Zq.refl H,⟨⟨by omega,by omega⟩,fun i hi=>⟨(fun q=>⟨q,fun n e s hn=>by omega⟩),fun q=>q.1⟩⟩⟩ ?_ ?_ ?_⟩
 ·rintro i σ H' _ ⟨_,_,_,_,s1,_⟩
  exact ⟨s1.seq hea,s1.seq hsa⟩
 ·rintro n σ H' Tp x y hn hx hy ⟨v3,v4,z,rfl,s1,hF⟩ hT
  rw [List.getElem?_map] at hx hy
  obtain ⟨a,ha,rfl⟩:∃ b,as[n]?=some b∧x=V.ref b:=by
   cases e:as[n]? with
   | none=>rw [e] at hx;cases hx
   | some b=>rw [e] at hx;exact ⟨b,rfl,(Option.some.inj hx).symm⟩
  obtain ⟨sd,hsd,rfl⟩:∃ b,ss[n]?=some b∧y=V.int b:=by
   cases e:ss[n]? with
   | none=>rw [e] at hy;cases hy
   | some b=>rw [e] at hy;exact ⟨b,rfl,(Option.some.inj hy).symm⟩
  have he:es[n]?=some es[n]:=List.getElem?_eq_getElem hn
  generalize es[n]=e at he
  have s2:=Zr (o:=.tup [.ref a,.int sd]) s1 (s1.free hT)
  obtain ⟨dx,ca,cb,hed,hca,hcb⟩:=(hE.2 n a e ha he).same s2
  have fe:(16*(e.2.y-e.1.y))=ZS e:=rfl
  rw [fe] at hed
  have bs:=hs sd (List.mem_of_getElem? hsd)
  have lb:=Qx e.1 e.2
  have fb:(ZS e).natAbs≤1000000:=by
   have h1:=hca.2.1
   have h2:=hcb.2.1
   unfold ZS
   omega
  have more:∀ z',(-(2^37)≤z'∧z'≤(wd:Int)-1)→(∀ i:Int,0≤i→(i≤z'↔i≤z∧(¬ ZS e<0→okE e sd i)))→LastOk es ss wd (n+1) z':=fun z' hz' hq=>by
   refine ⟨hz',fun i hi=>?_⟩
   rw [hq i hi,hF.2 i hi]
   constructor
   ·rintro ⟨⟨h0,h1⟩,h2⟩
    refine ⟨h0,fun m e' s' hm he' hs' hf=>?_⟩
    by_cases hmn:m=n
    ·subst hmn
     rw [he] at he';rw [hsd] at hs'
     cases he';cases hs';exact h2 hf
    ·exact h1 m e' s' (by omega) he' hs' hf
   ·rintro ⟨h0,h⟩
    exact ⟨⟨h0,fun m e' s' hm=>h m e' s' (by omega)⟩,fun hf=>h n e sd (by omega) he hsd hf⟩
  refine ⟨_,rfl,a,cEg,dx,_,_,rfl,hed,cl,T.Edge.n_fall,rfl,_,_,rfl,rfl,fun b1 h1=>⟨_,rfl,Ye (fun c1=>?_) fun c1=>?_⟩⟩
  ·have hf:0<ZS e:=h1.mp c1
   have db:=Zkj (a:=sd-ZZ e.1 e.2) (f:=ZS e) hf (by omega)
   refine ⟨_,rfl,_,rfl,_,rfl,a,cEg,dx,_,_,rfl,hed,cl,T.Edge.n_least,rfl,_,_,_,rfl,rfl,rfl,_,rfl,a,cEg,dx,_,_,rfl,hed,cl,T.Edge.n_fall,rfl,_,_,_,rfl,rfl,⟨hf,smI (by omega)⟩,rfl,_,_,_,rfl,rfl,?_⟩
   refine ⟨_,_,_,rfl,s2,more _ ?_ ?_⟩
   ·have:=hF.1
    omega
   ·intro i hi
    rw [last_step hf]
    constructor
    ·rintro ⟨q1,q2⟩;exact ⟨q1,fun _=>q2⟩
    ·rintro ⟨q1,q2⟩;exact ⟨q1,q2 (by omega)⟩
  ·have hf:¬ 0<ZS e:=fun z=>c1 (h1.mpr z)
   have keep:(¬ ZS e<0→∀ i:Int,0≤i→okE e sd i)→LastOk es ss wd (n+1) z:=fun hq=>more z hF.1 fun i hi=>⟨fun q=>⟨q,fun z=>hq z i hi⟩,fun q=>q.1⟩
   refine ⟨_,rfl,a,cEg,dx,_,_,rfl,hed,cl,T.Edge.n_fall,rfl,_,_,rfl,rfl,fun b2 h2=>⟨_,rfl,Ye (fun c2=>?_) fun c2=>?_⟩⟩
   ·have f0:ZS e=0:=h2.mp c2
    refine ⟨_,rfl,_,rfl,a,cEg,dx,_,_,rfl,hed,cl,T.Edge.n_least,rfl,_,_,rfl,rfl,fun b3 h3=>⟨_,rfl,Ye (fun c3=>?_) fun c3=>?_⟩⟩
    ·have lt:=h3.mp c3
     refine ⟨_,_,rfl,rfl,_,_,_,rfl,s2,more (-1) ⟨by omega,by omega⟩ fun i hi=>⟨fun q=>by omega,fun q=>?_⟩⟩
     have:=q.2 (by omega)
     unfold okE at this
     rw [f0,Int.zero_mul] at this
     omega
    ·have ge:¬ sd<ZZ e.1 e.2:=fun z=>c3 (h3.mpr z)
     refine ⟨_,_,z,rfl,s2,keep fun _ i hi=>?_⟩
     unfold okE
     rw [f0,Int.zero_mul];omega
   ·have fn:ZS e<0:=by
     have:¬ ZS e=0:=fun z=>c2 (h2.mpr z)
     omega
    exact ZfI ⟨_,_,z,rfl,s2,keep fun q=>absurd fn q⟩
 ·rintro σ H' ⟨v3,v4,z,rfl,s1,hF⟩
  exact ⟨_,rfl,k H' z s1 hF⟩
end
end Sg
namespace Sg
open PySem PySem.Spec PyProof.Rows L2 LX SbM
theorem Qa {X:Cx}{K:PySem.W.Frag}{e:Expr}{f:Str}{pos:Pos}{ta:TE}(he:PE X e ta) (hb:attributeBase e f X.env (eval e X.env)=eval e X.env) (hk:X.K=K):PE X (.Attribute e f pos) (Jv K ta f):=by subst hk;exact Zo he hb
theorem Zje {x:Int}(h:x.natAbs≤8000*2^149):(Sb20.whole x).natAbs≤8001:=by
 unfold Sb20.whole
 have hd:0<Sb20.UNIT:=by decide
 have hU:Sb20.UNIT=2^149:=rfl
 have key:∀ n:Nat,n≤8000*2^149→Yl n Sb20.UNIT≤8001:=fun n hn=>by
  have h1:=Qq n Sb20.UNIT
  have h2:n / Sb20.UNIT≤8000:=by rw [hU];exact Nat.div_le_of_le_mul (by rw [Nat.mul_comm];exact hn)
  omega
 rcases Int.le_total 0 x with q | q
 ·obtain ⟨n,rfl⟩:=Int.eq_ofNat_of_zero_le q
  rw [Qz,Int.natAbs_natCast]
  exact key n (by rwa [Int.natAbs_natCast] at h)
 ·obtain ⟨n,hn⟩:=Int.eq_ofNat_of_zero_le (show 0≤-x by omega)
  obtain rfl:x = -(n:Int):=by omega
  rw [Qr _ _ hd,Int.natAbs_neg,Int.natAbs_natCast]
  exact key n (by rwa [Int.natAbs_neg,Int.natAbs_natCast] at h)
structure JI (ms:List Int):Prop where
 len:ms.length=7
 x:(Sb20.at_ ms 0).natAbs≤500*2^149
 y:(Sb20.at_ ms 1).natAbs≤500*2^149
 z:Bd 171 (Sb20.at_ ms 2)
 r:((2^129:Nat):Int)≤Sb20.at_ ms 3
 rb:Bd 171 (Sb20.at_ ms 3)
 u:Bd 161 (Sb20.at_ ms 4)
 v:Bd 161 (Sb20.at_ ms 5)
 l:Bd 151 (Sb20.at_ ms 6)
theorem JI.ok {ms:List Int}(h:JI ms):Jm (Sb20.corner ms):=by
 have w16:∀ x:Int,x.natAbs≤500*2^149→(Sb20.whole (16*x)).natAbs≤9000:=fun x hx=>by
  have:=Zje (x:=16*x) (by rw [Int.natAbs_mul];show 16*x.natAbs≤_;omega)
  omega
 exact ⟨⟨w16 _ h.x,w16 _ h.y⟩,h.z,⟨h.r,h.rb⟩,(h.u.smul h.rb).mono (by decide),(h.v.smul h.rb).mono (by decide),h.l.mono (by decide)⟩
theorem at7 {ms:List Int}{i:Nat}(h:i<ms.length):atI (ms.map V.int) (i:Int)=some (.int (Sb20.at_ ms i)):=Ys (by unfold Sb20.at_;exact at_getD 0 h)
section
variable {P:Program}{w:World}{K:PySem.W.Frag}{mg:Str→Option Value}{base:Heap}{RF NT cCv cTx cFg cEg cCo cTr:Addr}
def Zit (K:PySem.W.Frag) (cCo:Addr):Sp:=fun vs H Q _=>∃ (c dx l:Addr) (ms:List Int),vs=[.ref c,.ref l]∧H c=some (.ins cCo dx [])∧H l=some (.lst (ms.map V.int))∧JI ms ∧
 ∀ H':Hp,ZQ cCo H' c (Sb20.corner ms)→(∀ b o,H b=some o→b≠c→H' b=some o)→Q .non H'
theorem Zcn (F:Di K mg "Corner" cCo "Corner.__init__" (inClass (top 98) 0) ["self","numbers"])
  (f_place_from_single:Cal P w K mg base CX0 3 "place_from_single" ["number"] ZjS)
  (f_times:Cal P w K mg base CX0 2 "times" ["a","b"] Xk) (T:Zu K cCv cTx cFg cEg cCo cTr):Mak P w K mg base CX0 4 "Corner" cCo ["self","numbers"] (Zit K cCo):=by
 refine F.okS (N:=["self","numbers"]) fun S f cdv A outer s H vs Q E hr h=>?_
 obtain ⟨c,dx,l,ms,rfl,hc,hl,hm,k⟩:=h
 refine ⟨_,(Zc (Zy (pv 0) (Zg f_place_from_single (hr.mono (by decide)) rfl Zi (Za (Zt (r:=ZE K) ixK (pv 1) Zd (fun _ _=>rfl)) Zb)) rfl) (Zc (Zy (pv 0) (Zg f_place_from_single (hr.mono (by decide)) rfl Zi (Za (Zt (r:=ZE K) ixK (pv 1) Zd (fun _ _=>rfl)) Zb)) rfl) (Zc (Zy (pv 0) (Zt (r:=ZE K) ixK (pv 1) Zd (fun _ _=>rfl)) rfl) (Zc (Zy (pv 0) (Zt (r:=ZE K) ixK (pv 1) Zd (fun _ _=>rfl)) rfl) (Zc (Zy (pv 0) (Zg f_times (hr.mono (by decide)) rfl Zi (Za (Zt (r:=ZE K) ixK (pv 1) Zd (fun _ _=>rfl)) (Za (Zo (pv 0) rfl) Zb))) rfl) (Zc (Zy (pv 0) (Zg f_times (hr.mono (by decide)) rfl Zi (Za (Zt (r:=ZE K) ixK (pv 1) Zd (fun _ _=>rfl)) (Za (Zo (pv 0) rfl) Zb))) rfl) (Zf (Zy (pv 0) (Zt (r:=ZE K) ixK (pv 1) Zd (fun _ _=>rfl)) rfl)))))))),?_⟩
 have cl:=T.Corner.cl
 have nl:l≠c:=Xm hl hc (by intro z;cases z)
 have hlen:=hm.len
 have b1:Bd 171 (Sb20.at_ ms 0):=Nat.lt_of_le_of_lt hm.x (by decide)
 have b2:Bd 171 (Sb20.at_ ms 1):=Nat.lt_of_le_of_lt hm.y (by decide)
 have a:∀ i:Nat,i<7→atI (ms.map V.int) (i:Int)=some (.int (Sb20.at_ ms i)):=fun i hi=>at7 (by omega)
 refine ⟨_,rfl,l,_,_,_,rfl,rfl,SqL.of hl,a 0 (by decide),_,_,rfl,b1,rfl,_,rfl,c,cCo,dx,[],rfl,hc,cl,T.Corner.n_x,Yx,Zx fun H1 c1 k1=>?_⟩
 have l1:=k1 _ _ hl nl
 refine ⟨_,rfl,l,_,_,_,rfl,rfl,SqL.of l1,a 1 (by decide),_,_,rfl,b2,rfl,_,rfl,c,cCo,dx,_,rfl,c1,cl,T.Corner.n_y,Yx,Zx fun H2 c2 k2=>?_⟩
 have l2:=k2 _ _ l1 nl
 refine ⟨_,rfl,l,_,_,_,rfl,rfl,SqL.of l2,a 2 (by decide),_,rfl,c,cCo,dx,_,rfl,c2,cl,T.Corner.n_depth,Yx,Zx fun H3 c3 k3=>?_⟩
 have l3:=k3 _ _ l2 nl
 refine ⟨_,rfl,l,_,_,_,rfl,rfl,SqL.of l3,a 3 (by decide),_,rfl,c,cCo,dx,_,rfl,c3,cl,T.Corner.n_r,Yx,Zx fun H4 c4 k4=>?_⟩
 have l4:=k4 _ _ l3 nl
 refine ⟨_,rfl,l,_,_,_,rfl,rfl,SqL.of l4,a 4 (by decide),_,rfl,c,cCo,dx,_,_,rfl,c4,cl,T.Corner.n_r,rfl,_,_,_,rfl,⟨hm.u.mono (by decide),hm.rb.mono (by decide)⟩,rfl,_,rfl,c,cCo,dx,_,rfl,c4,cl,T.Corner.n_ur,Yx,Zx fun H5 c5 k5=>?_⟩
 have l5:=k5 _ _ l4 nl
 refine ⟨_,rfl,l,_,_,_,rfl,rfl,SqL.of l5,a 5 (by decide),_,rfl,c,cCo,dx,_,_,rfl,c5,cl,T.Corner.n_r,rfl,_,_,_,rfl,⟨hm.v.mono (by decide),hm.rb.mono (by decide)⟩,rfl,_,rfl,c,cCo,dx,_,rfl,c5,cl,T.Corner.n_vr,Yx,Zx fun H6 c6 k6=>?_⟩
 have l6:=k6 _ _ l5 nl
 refine ⟨_,rfl,l,_,_,_,rfl,rfl,SqL.of l6,a 6 (by decide),_,rfl,c,cCo,dx,_,rfl,c6,cl,T.Corner.n_light,Yx,Zx fun H7 c7 k7=>?_⟩
 exact k H7 ⟨⟨dx,c7⟩,hm.ok⟩ fun b o e n=>k7 _ _ (k6 _ _ (k5 _ _ (k4 _ _ (k3 _ _ (k2 _ _ (k1 _ _ e n) n) n) n) n) n) n
def Zdi (K:PySem.W.Frag) (cCo:Addr) (H:Hp) (l:Addr) (ka kb kc:Co):Prop:=∃ a b c,SqL K H l [.ref a,.ref b,.ref c]∧ZQ cCo H a ka∧ZQ cCo H b kb∧ZQ cCo H c kc
def ZdC (K:PySem.W.Frag) (cCo:Addr):Sp:=fun vs H Q _=>∃ (l:Addr) (ka kb kc:Co),vs=[.ref l]∧Zdi K cCo H l ka kb kc∧Q (.int (Sb20.area ka kb kc)) H
theorem Zgy (F:Df K mg "area_of" (top 99) ["corners"])
  (f_side_of:Cal P w K mg base CX0 1 "side_of" ["a","b","x","y"] (ZdY cCo)) (T:Zu K cCv cTx cFg cEg cCo cTr):Cal P w K mg base CX0 2 "area_of" ["corners"] (ZdC K cCo):=by
 refine F.okS (N:=["corners"]) fun S f cdv A outer s H vs Q E hr h=>?_
 obtain ⟨l,ka,kb,kc,rfl,⟨a,b,c,hl,ha,hb,hc⟩,k⟩:=h
 refine ⟨_,(Zf (Zm (Zg f_side_of (hr.mono (by decide)) rfl Zi (Za (Zt (r:=ZE K) ixK (pv 0) Zd (fun _ _=>rfl)) (Za (Zt (r:=ZE K) ixK (pv 0) Zd (fun _ _=>rfl)) (Za (Zo (Zt (r:=ZE K) ixK (pv 0) Zd (fun _ _=>rfl)) rfl) (Za (Zo (Zt (r:=ZE K) ixK (pv 0) Zd (fun _ _=>rfl)) rfl) Zb))))))),?_⟩
 obtain ⟨dc,ic⟩:=hc.1
 have oc:=hc.2.1
 exact ⟨_,rfl,l,_,_,_,rfl,rfl,hl,rfl,_,rfl,l,_,_,_,rfl,rfl,hl,rfl,_,rfl,l,_,_,_,rfl,rfl,hl,rfl,c,cCo,dc,_,_,rfl,ic,T.Corner.cl,T.Corner.n_x,rfl,_,rfl,l,_,_,_,rfl,rfl,hl,rfl,c,cCo,dc,_,_,rfl,ic,T.Corner.cl,T.Corner.n_y,rfl,a,b,_,_,_,ka,kb,rfl,ha,hb,⟨by omega,by omega⟩,rfl,k⟩
def L3 (H:Hp) (A:List Addr) (l:Addr) (x y z:Int):Prop:=H l=some (.lst ([x,y,z].map V.int))∧l∉A
theorem L3.kp {H H':Hp}{A:List Addr}{l:Addr}{x y z:Int}(h:L3 H A l x y z) (q:Kp A H H'):L3 H' A l x y z:=⟨q.2 _ _ h.1 h.2,h.2⟩
structure TrD where
 dx:Addr
 el:Addr
 dl:Addr
 rl:Addr
 ul:Addr
 vl:Addr
 ll:Addr
 ta:Addr
 e1:Addr
 e2:Addr
 e3:Addr
structure ZaL (K:PySem.W.Frag) (cTx cEg cCo cTr:Addr) (H:Hp) (A:List Addr) (tr:Addr) (ka kb kc:Co) (t:Sb20.Texture) (way:Nat) (d:TrD):Prop where
 ins:H tr=some (.ins cTr d.dx (Zia (.int (Sb20.rounded (Sb20.area ka kb kc) 1)) (.ref d.el) (.ref d.dl) (.ref d.rl) (.ref d.ul) (.ref d.vl) (.ref d.ll) (.ref d.ta) (.int (way:Nat))))
 el:H d.el=some (.lst [.ref d.e1,.ref d.e2,.ref d.e3])∧d.el∉A
 e1:Jd cEg cCo H d.e1 kb kc
 e2:Jd cEg cCo H d.e2 kc ka
 e3:Jd cEg cCo H d.e3 ka kb
 dl:L3 H A d.dl ka.z kb.z kc.z
 rl:L3 H A d.rl ka.r kb.r kc.r
 ul:L3 H A d.ul ka.u kb.u kc.u
 vl:L3 H A d.vl ka.v kb.v kc.v
 ll:L3 H A d.ll ka.l kb.l kc.l
 ta:QW K cTx H A d.ta t
 oa:Jm ka
 ob:Jm kb
 oc:Jm kc
theorem ZaL.kp {H H':Hp}{A:List Addr}{tr:Addr}{ka kb kc:Co}{t:Sb20.Texture}{way:Nat}{d:TrD}(h:ZaL K cTx cEg cCo cTr H A tr ka kb kc t way d) (q:Kp A H H'):ZaL K cTx cEg cCo cTr H' A tr ka kb kc t way d where
 ins:=q.other h.ins (fun _ z=>by cases z)
 el:=⟨q.2 _ _ h.el.1 h.el.2,h.el.2⟩
 e1:=h.e1.kp q
 e2:=h.e2.kp q
 e3:=h.e3.kp q
 dl:=h.dl.kp q
 rl:=h.rl.kp q
 ul:=h.ul.kp q
 vl:=h.vl.kp q
 ll:=h.ll.kp q
 ta:=h.ta.kp q
 oa:=h.oa
 ob:=h.ob
 oc:=h.oc
def Zbz (K:PySem.W.Frag) (cTx cEg cCo cTr:Addr):Sp:=fun vs H Q _=>∃ (tr dx l ta:Addr) (how:Nat) (ka kb kc:Co) (t:Sb20.Texture) (A:List Addr),vs=[.ref tr,.ref l,.ref ta,.int (how:Nat)]∧H tr=some (.ins cTr dx [])∧Zdi K cCo H l ka kb kc∧QW K cTx H A ta t∧(∀ b∈A,∃ xs,H b=some (.lst xs))∧ta≠tr ∧
 ∀ (H':Hp) (d:TrD),ZaL K cTx cEg cCo cTr H' A tr ka kb kc t (how % 4) d→(∀ b o,H b=some o→b≠tr→H' b=some o)→Q .non H'
theorem XH {H H1:Hp}{x dx C:Addr}(nx:H x=none) (nd:H dx=none) (k:∀ b o,(upd (upd H dx (.own x)) x (.ins C dx [])) b=some o→b≠x→H1 b=some o):Zq H H1:=Zq.made nx nd k
theorem ZgO {ka kb kc:Co}(oa:Jm ka) (ob:Jm kb) (oc:Jm kc):(Sb20.area ka kb kc).natAbs≤2^31:=by
 unfold Sb20.area Sb20.edge
 have h1:((kb.x-ka.x)*(kc.y-ka.y)).natAbs≤18000*18000:=by
  rw [Int.natAbs_mul]
  have a:=oa.1;have b:=ob.1;have c:=oc.1
  exact Nat.mul_le_mul (by omega) (by omega)
 have h2:((kb.y-ka.y)*(kc.x-ka.x)).natAbs≤18000*18000:=by
  rw [Int.natAbs_mul]
  have a:=oa.1;have b:=ob.1;have c:=oc.1
  exact Nat.mul_le_mul (by omega) (by omega)
 omega
theorem Zam (F:Di K mg "Triangle" cTr "Triangle.__init__" (inClass (top 100) 0) ["self","corners","texture","how"])
  (f_Edge:Mak P w K mg base CX0 2 "Edge" cEg ["self","a","b"] (Zeq cEg cCo))
  (f_area_of:Cal P w K mg base CX0 2 "area_of" ["corners"] (ZdC K cCo))
  (f_kept_whole:Cal P w K mg base CX0 3 "kept_whole" ["number"] Zbm)
  (c_WAYS:Cst mg "WAYS" (.int 4)) (T:Zu K cCv cTx cFg cEg cCo cTr):Mak P w K mg base CX0 4 "Triangle" cTr ["self","corners","texture","how"] (Zbz K cTx cEg cCo cTr):=by
 refine F.okS (N:=["self","corners","texture","how","a","b","c","corner"]) fun S f cdv A outer s H vs Q E hr h=>?_
 obtain ⟨tr,dx,l,ta,how,ka,kb,kc,t,LA,rfl,hc,⟨a,b,c,hl,ha,hb,hcc⟩,htx,hA,nta,k⟩:=h
 refine ⟨_,(Zc (Zl (i:=4) S.nd rfl (Or.inl rfl) (Zt (r:=ZE K) ixK (pv 1) Zd (fun _ _=>rfl))) (Zc (Zl (i:=5) S.nd rfl (Or.inl rfl) (Zt (r:=ZE K) ixK (pv 1) Zd (fun _ _=>rfl))) (Zc (Zl (i:=6) S.nd rfl (Or.inl rfl) (Zt (r:=ZE K) ixK (pv 1) Zd (fun _ _=>rfl))) (Zc (Zy (pv 0) (Zg f_kept_whole (hr.mono (by decide)) rfl Zi (Za (Zg f_area_of (hr.mono (by decide)) rfl Zi (Za (pv 1) Zb)) Zb)) rfl) (Zc (Zy (pv 0) (ZL (Za (Jf f_Edge (hr.mono (by decide)) rfl Zi (Za (pv 5) (Za (pv 6) Zb))) (Za (Jf f_Edge (hr.mono (by decide)) rfl Zi (Za (pv 6) (Za (pv 4) Zb))) (Za (Jf f_Edge (hr.mono (by decide)) rfl Zi (Za (pv 4) (Za (pv 5) Zb))) Zb)))) rfl) (Zc (Zy (pv 0) (Qg (own:=[("corner",7)]) rfl S.nd (Yu (pv 1)) (show Yj ["self","corners","texture","how","a","b","c","corner"] (Zk (inClass (top 100) 0)) _ _ from ⟨rfl,by decide +kernel,by decide +kernel,by decide +kernel,by decide +kernel⟩) (fun _ _ _ _ _=>ZO (i:=7) S.nd rfl (Or.inl rfl)) (fun _ _ _ _ _=>ZY) (fun _ _ _ _ _=>(Qa (K:=K) (pv 7) rfl rfl))) rfl) (Zc (Zy (pv 0) (Qg (own:=[("corner",7)]) rfl S.nd (Yu (pv 1)) (show Yj ["self","corners","texture","how","a","b","c","corner"] (Zk (inClass (top 100) 0)) _ _ from ⟨rfl,by decide +kernel,by decide +kernel,by decide +kernel,by decide +kernel⟩) (fun _ _ _ _ _=>ZO (i:=7) S.nd rfl (Or.inl rfl)) (fun _ _ _ _ _=>ZY) (fun _ _ _ _ _=>(Qa (K:=K) (pv 7) rfl rfl))) rfl) (Zc (Zy (pv 0) (Qg (own:=[("corner",7)]) rfl S.nd (Yu (pv 1)) (show Yj ["self","corners","texture","how","a","b","c","corner"] (Zk (inClass (top 100) 0)) _ _ from ⟨rfl,by decide +kernel,by decide +kernel,by decide +kernel,by decide +kernel⟩) (fun _ _ _ _ _=>ZO (i:=7) S.nd rfl (Or.inl rfl)) (fun _ _ _ _ _=>ZY) (fun _ _ _ _ _=>(Qa (K:=K) (pv 7) rfl rfl))) rfl) (Zc (Zy (pv 0) (Qg (own:=[("corner",7)]) rfl S.nd (Yu (pv 1)) (show Yj ["self","corners","texture","how","a","b","c","corner"] (Zk (inClass (top 100) 0)) _ _ from ⟨rfl,by decide +kernel,by decide +kernel,by decide +kernel,by decide +kernel⟩) (fun _ _ _ _ _=>ZO (i:=7) S.nd rfl (Or.inl rfl)) (fun _ _ _ _ _=>ZY) (fun _ _ _ _ _=>(Qa (K:=K) (pv 7) rfl rfl))) rfl) (Zc (Zy (pv 0) (Qg (own:=[("corner",7)]) rfl S.nd (Yu (pv 1)) (show Yj ["self","corners","texture","how","a","b","c","corner"] (Zk (inClass (top 100) 0)) _ _ from ⟨rfl,by decide +kernel,by decide +kernel,by decide +kernel,by decide +kernel⟩) (fun _ _ _ _ _=>ZO (i:=7) S.nd rfl (Or.inl rfl)) (fun _ _ _ _ _=>ZY) (fun _ _ _ _ _=>(Qa (K:=K) (pv 7) rfl rfl))) rfl) (Zc (Zy (pv 0) (pv 2) rfl) (Zf (Zy (pv 0) (Zj ZkF (pv 3) (Zp c_WAYS rfl)) rfl))))))))))))),?_⟩
 have cl:=T.Triangle.cl
 have cc:=T.Corner.cl
 have nA:∀ b∈LA,b≠tr:=fun b hb=>by obtain ⟨xs,e⟩:=hA b hb;exact Xm e hc (by intro z;cases z)
 have fresh:∀ (Hx:Hp),(∀ b o,H b=some o→b≠tr→Hx b=some o)→∀ x,Hx x=none→x∉LA:=fun Hx kx x nx hx=>by
  obtain ⟨xs,e⟩:=hA x hx
  rw [kx _ _ e (nA x hx)] at nx;cases nx
 have nonl:∀ {x:Addr}{k:Co}{Hx:Hp},ZQ cCo Hx x k→∀ {y:Addr}{u:List V},Hx y=some (.lst u)→x≠y:=fun h1 y u h2=>by
  obtain ⟨⟨d1,e1⟩,_⟩:=h1
  exact Xm e1 h2 (by intro z;cases z)
 have nco:∀ {x:Addr}{k:Co},ZQ cCo H x k→x≠tr:=fun h1 z=>by
  obtain ⟨⟨d1,e1⟩,_⟩:=h1
  rw [z,hc] at e1
  have:Zhr _ _ _ _ _ _ _=([]:List (Str×V)):=(HO.ins.inj (Option.some.inj e1)).2.2.symm
  cases this
 have na:=nco ha
 have nb':=nco hb
 have nc:=nco hcc
 have hab:=ZgO ha.2 hb.2 hcc.2
 refine ⟨_,rfl,l,_,_,_,rfl,rfl,hl,rfl,?_⟩
 refine ⟨_,rfl,l,_,_,_,rfl,rfl,hl,rfl,?_⟩
 refine ⟨_,rfl,l,_,_,_,rfl,rfl,hl,rfl,?_⟩
 have nl:∀ Hx:Hp,(∀ b o,H b=some o→b≠tr→Hx b=some o)→SqL K Hx l [.ref a,.ref b,.ref c]:=fun Hx kx=>by
  rcases hl with (h | ⟨o,h⟩) | h
  ·exact .inl (.inl (kx _ _ h (Xm h hc (by intro z;cases z))))
  ·exact .inl (.inr ⟨o,kx _ _ h (Xm h hc (by intro z;cases z))⟩)
  ·exact .inr h
 refine ⟨_,rfl,l,ka,kb,kc,rfl,⟨a,b,c,hl,ha,hb,hcc⟩,_,_,rfl,Nat.lt_of_le_of_lt hab (by decide),rfl,_,rfl,tr,cTr,dx,_,rfl,hc,cl,T.Triangle.n_area,Yx,Zx fun H1 c1 k1=>?_⟩
 have co1:∀ {Hx:Hp},(∀ b o,H1 b=some o→b≠tr→Hx b=some o)→ZQ cCo Hx a ka∧ZQ cCo Hx b kb∧ZQ cCo Hx c kc:=fun kx =>
  ⟨ha.other fun o e _=>kx _ _ (k1 _ _ e na) na,hb.other fun o e _=>kx _ _ (k1 _ _ e nb') nb',hcc.other fun o e _=>kx _ _ (k1 _ _ e nc) nc⟩
 have idk:∀ b o,H1 b=some o→b≠tr→H1 b=some o:=fun b o e _=>e
 have ns:∀ {Hx:Hp}{x:Addr}{k:Co},ZQ cCo Hx x k→∀ {y:Addr},Hx y=none→x≠y:=fun h1 y h2 z=>by
  obtain ⟨⟨d1,e1⟩,_⟩:=h1
  rw [z,h2] at e1;cases e1
 refine ⟨_,rfl,_,rfl,fun x1 dx1 n1 m1 q1=>?_⟩
 have s1:=Zr (o:=.ins cEg dx1 []) (Zh (o:=.own x1) m1) (n1)
 obtain ⟨ca1,cb1,cc1⟩:=co1 idk
 refine ⟨x1,dx1,b,c,kb,kc,rfl,Ze,cb1.same s1,cc1.same s1,⟨ns cb1 n1,ns cc1 n1⟩,fun H2 ed1 r1=>⟨rfl,?_⟩⟩
 have S1:Zq H1 H2:=XH n1 m1 r1
 obtain ⟨ca2,cb2,cc2⟩:=co1 (Hx:=H2) fun b o e _=>S1 _ _ e
 refine ⟨_,rfl,_,rfl,fun x2 dx2 n2 m2 q2=>?_⟩
 have s2:=Zr (o:=.ins cEg dx2 []) (Zh (o:=.own x2) m2) n2
 refine ⟨x2,dx2,c,a,kc,ka,rfl,Ze,cc2.same s2,ca2.same s2,⟨ns cc2 n2,ns ca2 n2⟩,fun H3 ed2 r2=>⟨rfl,?_⟩⟩
 have S2:Zq H2 H3:=XH n2 m2 r2
 obtain ⟨ca3,cb3,cc3⟩:=co1 (Hx:=H3) fun b o e _=>S2 _ _ (S1 _ _ e)
 refine ⟨_,rfl,_,rfl,fun x3 dx3 n3 m3 q3=>?_⟩
 have s3:=Zr (o:=.ins cEg dx3 []) (Zh (o:=.own x3) m3) n3
 refine ⟨x3,dx3,a,b,ka,kb,rfl,Ze,ca3.same s3,cb3.same s3,⟨ns ca3 n3,ns cb3 n3⟩,fun H4 ed3 r3=>⟨rfl,?_⟩⟩
 have S3:Zq H3 H4:=XH n3 m3 r3
 have S4:Zq H1 H4:=(S1.trans S2).trans S3
 refine ⟨(by show 3≤sizeLine;decide),fun el hel=>?_⟩
 have S5:=Zh (o:=.lst [.ref x1,.ref x2,.ref x3]) hel
 have tr4:=S4 _ _ c1
 have nel:el≠tr:=fun z=>by rw [z,tr4] at hel;cases hel
 have fel:el∉LA:=fresh H4 (fun b o e n=>S4 _ _ (k1 _ _ e n)) el hel
 refine ⟨_,rfl,tr,cTr,dx,_,rfl,S5 _ _ tr4,cl,T.Triangle.n_edges,Yx,Zx fun H5 c5 k5=>?_⟩
 have kA:∀ b o,H4 b=some o→b≠tr→H5 b=some o:=fun b o e n=>k5 _ _ (S5 _ _ e) n
 have el5:=k5 _ _ (show upd H4 el _ el=_ from Ze) nel
 have k05:∀ b o,H b=some o→b≠tr→H5 b=some o:=fun b o e n=>kA _ _ (S4 _ _ (k1 _ _ e n)) n
 have lS5:=nl H5 k05
 have ca5:ZQ cCo H5 a ka:=ha.other fun o e _=>k05 _ _ e na
 have cb5:ZQ cCo H5 b kb:=hb.other fun o e _=>k05 _ _ e nb'
 have cc5:ZQ cCo H5 c kc:=hcc.other fun o e _=>k05 _ _ e nc
 refine ⟨_,rfl,l,rfl,⟨_,lS5⟩,fun D5 hD5=>?_⟩
 refine YM (K:=K) (a:=l) (xs:=[.ref a,.ref b,.ref c]) (fun i H'=>H'=upd H5 D5 (.lst ((([ka.z,kb.z,kc.z]:List Int).take i).map V.int))) rfl ?_ ?_ ?_
 ·rintro i H' _ rfl
  exact (Zh hD5).seq lS5
 ·rintro i v H' hi rfl
  have turn:∀ (x:Addr) (kx:Co),ZQ cCo H5 x kx→([.ref a,.ref b,.ref c]:List V)[i]?=some (.ref x)→([ka.z,kb.z,kc.z]:List Int)[i]?=some kx.z→i<3 →
    Jv K (ZH 7) "depth" ([some (.ref tr),some (.ref l),some (.ref ta),some (.int (how:Nat)),some (.ref a),some (.ref b),some (.ref c),some (.ref x)]) (upd H5 D5 (.lst ((([ka.z,kb.z,kc.z]:List Int).take i).map V.int))) fun y H4=>∃ acc,H4 D5=some (.lst acc)∧acc.length<sizeLine∧upd H4 D5 (.lst (acc++[y]))=upd H5 D5 (.lst ((([ka.z,kb.z,kc.z]:List Int).take (i+1)).map V.int)):=by
   intro x kx hx _ hk hi3
   obtain ⟨⟨ddx,ix⟩,_⟩:=hx
   refine ⟨_,rfl,x,cCo,ddx,_,_,rfl,Zh hD5 _ _ ix,cc,T.Corner.n_depth,rfl,_,Ze,?_,?_⟩
   ·rw [List.length_map,List.length_take]
    exact Nat.lt_of_le_of_lt (Nat.min_le_right _ _) (by show 3<sizeLine;decide)
   ·rw [Yt,take_snoc hk,List.map_append];rfl
  match i,hi with
  | 0,hi=>cases hi;exact ⟨rfl,YG (turn a ka ca5 rfl rfl (by decide))⟩
  | 1,hi=>cases hi;exact ⟨rfl,YG (turn b kb cb5 rfl rfl (by decide))⟩
  | 2,hi=>cases hi;exact ⟨rfl,YG (turn c kc cc5 rfl rfl (by decide))⟩
  | i+3,hi=>simp at hi
 rintro _ rfl
 have nD5:D5≠tr:=fun z=>by rw [z,c5] at hD5;cases hD5
 have fD5:=fresh H5 k05 D5 hD5
 have sD5:=Zh (o:=.lst ([ka.z,kb.z,kc.z].map V.int)) hD5
 refine ⟨_,rfl,tr,cTr,dx,_,rfl,sD5 _ _ c5,cl,T.Triangle.n_depths,Yx,Zx fun H6 c6 k6=>?_⟩
 have kk5:∀ b o,H5 b=some o→b≠tr→H6 b=some o:=fun b o e n=>k6 _ _ (sD5 _ _ e) n
 have ld6:=k6 _ _ (show upd H5 D5 (.lst ([ka.z,kb.z,kc.z].map V.int)) D5=_ from Ze) nD5
 have k06:∀ b o,H b=some o→b≠tr→H6 b=some o:=fun b o e n=>kk5 _ _ (k05 _ _ e n) n
 have lS6:=nl H6 k06
 have ca6:ZQ cCo H6 a ka:=ha.other fun o e _=>k06 _ _ e na
 have cb6:ZQ cCo H6 b kb:=hb.other fun o e _=>k06 _ _ e nb'
 have cc6:ZQ cCo H6 c kc:=hcc.other fun o e _=>k06 _ _ e nc
 refine ⟨_,rfl,l,rfl,⟨_,lS6⟩,fun D6 hD6=>?_⟩
 refine YM (K:=K) (a:=l) (xs:=[.ref a,.ref b,.ref c]) (fun i H'=>H'=upd H6 D6 (.lst ((([ka.r,kb.r,kc.r]:List Int).take i).map V.int))) rfl ?_ ?_ ?_
 ·rintro i H' _ rfl
  exact (Zh hD6).seq lS6
 ·rintro i v H' hi rfl
  have turn:∀ (x:Addr) (kx:Co),ZQ cCo H6 x kx→([.ref a,.ref b,.ref c]:List V)[i]?=some (.ref x)→([ka.r,kb.r,kc.r]:List Int)[i]?=some kx.r→i<3 →
    Jv K (ZH 7) "r" ([some (.ref tr),some (.ref l),some (.ref ta),some (.int (how:Nat)),some (.ref a),some (.ref b),some (.ref c),some (.ref x)]) (upd H6 D6 (.lst ((([ka.r,kb.r,kc.r]:List Int).take i).map V.int))) fun y H4=>∃ acc,H4 D6=some (.lst acc)∧acc.length<sizeLine∧upd H4 D6 (.lst (acc++[y]))=upd H6 D6 (.lst ((([ka.r,kb.r,kc.r]:List Int).take (i+1)).map V.int)):=by
   intro x kx hx _ hk hi3
   obtain ⟨⟨ddx,ix⟩,_⟩:=hx
   refine ⟨_,rfl,x,cCo,ddx,_,_,rfl,Zh hD6 _ _ ix,cc,T.Corner.n_r,rfl,_,Ze,?_,?_⟩
   ·rw [List.length_map,List.length_take]
    exact Nat.lt_of_le_of_lt (Nat.min_le_right _ _) (by show 3<sizeLine;decide)
   ·rw [Yt,take_snoc hk,List.map_append];rfl
  match i,hi with
  | 0,hi=>cases hi;exact ⟨rfl,YG (turn a ka ca6 rfl rfl (by decide))⟩
  | 1,hi=>cases hi;exact ⟨rfl,YG (turn b kb cb6 rfl rfl (by decide))⟩
  | 2,hi=>cases hi;exact ⟨rfl,YG (turn c kc cc6 rfl rfl (by decide))⟩
  | i+3,hi=>simp at hi
 rintro _ rfl
 have nD6:D6≠tr:=fun z=>by rw [z,c6] at hD6;cases hD6
 have fD6:=fresh H6 k06 D6 hD6
 have sD6:=Zh (o:=.lst ([ka.r,kb.r,kc.r].map V.int)) hD6
 refine ⟨_,rfl,tr,cTr,dx,_,rfl,sD6 _ _ c6,cl,T.Triangle.n_rs,Yx,Zx fun H7 c7 k7=>?_⟩
 have kk6:∀ b o,H6 b=some o→b≠tr→H7 b=some o:=fun b o e n=>k7 _ _ (sD6 _ _ e) n
 have ld7:=k7 _ _ (show upd H6 D6 (.lst ([ka.r,kb.r,kc.r].map V.int)) D6=_ from Ze) nD6
 have k07:∀ b o,H b=some o→b≠tr→H7 b=some o:=fun b o e n=>kk6 _ _ (k06 _ _ e n) n
 have lS7:=nl H7 k07
 have ca7:ZQ cCo H7 a ka:=ha.other fun o e _=>k07 _ _ e na
 have cb7:ZQ cCo H7 b kb:=hb.other fun o e _=>k07 _ _ e nb'
 have cc7:ZQ cCo H7 c kc:=hcc.other fun o e _=>k07 _ _ e nc
 refine ⟨_,rfl,l,rfl,⟨_,lS7⟩,fun D7 hD7=>?_⟩
 refine YM (K:=K) (a:=l) (xs:=[.ref a,.ref b,.ref c]) (fun i H'=>H'=upd H7 D7 (.lst ((([ka.u,kb.u,kc.u]:List Int).take i).map V.int))) rfl ?_ ?_ ?_
 ·rintro i H' _ rfl
  exact (Zh hD7).seq lS7
 ·rintro i v H' hi rfl
  have turn:∀ (x:Addr) (kx:Co),ZQ cCo H7 x kx→([.ref a,.ref b,.ref c]:List V)[i]?=some (.ref x)→([ka.u,kb.u,kc.u]:List Int)[i]?=some kx.u→i<3 →
    Jv K (ZH 7) "ur" ([some (.ref tr),some (.ref l),some (.ref ta),some (.int (how:Nat)),some (.ref a),some (.ref b),some (.ref c),some (.ref x)]) (upd H7 D7 (.lst ((([ka.u,kb.u,kc.u]:List Int).take i).map V.int))) fun y H4=>∃ acc,H4 D7=some (.lst acc)∧acc.length<sizeLine∧upd H4 D7 (.lst (acc++[y]))=upd H7 D7 (.lst ((([ka.u,kb.u,kc.u]:List Int).take (i+1)).map V.int)):=by
   intro x kx hx _ hk hi3
   obtain ⟨⟨ddx,ix⟩,_⟩:=hx
   refine ⟨_,rfl,x,cCo,ddx,_,_,rfl,Zh hD7 _ _ ix,cc,T.Corner.n_ur,rfl,_,Ze,?_,?_⟩
   ·rw [List.length_map,List.length_take]
    exact Nat.lt_of_le_of_lt (Nat.min_le_right _ _) (by show 3<sizeLine;decide)
   ·rw [Yt,take_snoc hk,List.map_append];rfl
  match i,hi with
  | 0,hi=>cases hi;exact ⟨rfl,YG (turn a ka ca7 rfl rfl (by decide))⟩
  | 1,hi=>cases hi;exact ⟨rfl,YG (turn b kb cb7 rfl rfl (by decide))⟩
  | 2,hi=>cases hi;exact ⟨rfl,YG (turn c kc cc7 rfl rfl (by decide))⟩
  | i+3,hi=>simp at hi
 rintro _ rfl
 have nD7:D7≠tr:=fun z=>by rw [z,c7] at hD7;cases hD7
 have fD7:=fresh H7 k07 D7 hD7
 have sD7:=Zh (o:=.lst ([ka.u,kb.u,kc.u].map V.int)) hD7
 refine ⟨_,rfl,tr,cTr,dx,_,rfl,sD7 _ _ c7,cl,T.Triangle.n_urs,Yx,Zx fun H8 c8 k8=>?_⟩
 have kk7:∀ b o,H7 b=some o→b≠tr→H8 b=some o:=fun b o e n=>k8 _ _ (sD7 _ _ e) n
 have ld8:=k8 _ _ (show upd H7 D7 (.lst ([ka.u,kb.u,kc.u].map V.int)) D7=_ from Ze) nD7
 have k08:∀ b o,H b=some o→b≠tr→H8 b=some o:=fun b o e n=>kk7 _ _ (k07 _ _ e n) n
 have lS8:=nl H8 k08
 have ca8:ZQ cCo H8 a ka:=ha.other fun o e _=>k08 _ _ e na
 have cb8:ZQ cCo H8 b kb:=hb.other fun o e _=>k08 _ _ e nb'
 have cc8:ZQ cCo H8 c kc:=hcc.other fun o e _=>k08 _ _ e nc
 refine ⟨_,rfl,l,rfl,⟨_,lS8⟩,fun D8 hD8=>?_⟩
 refine YM (K:=K) (a:=l) (xs:=[.ref a,.ref b,.ref c]) (fun i H'=>H'=upd H8 D8 (.lst ((([ka.v,kb.v,kc.v]:List Int).take i).map V.int))) rfl ?_ ?_ ?_
 ·rintro i H' _ rfl
  exact (Zh hD8).seq lS8
 ·rintro i v H' hi rfl
  have turn:∀ (x:Addr) (kx:Co),ZQ cCo H8 x kx→([.ref a,.ref b,.ref c]:List V)[i]?=some (.ref x)→([ka.v,kb.v,kc.v]:List Int)[i]?=some kx.v→i<3 →
    Jv K (ZH 7) "vr" ([some (.ref tr),some (.ref l),some (.ref ta),some (.int (how:Nat)),some (.ref a),some (.ref b),some (.ref c),some (.ref x)]) (upd H8 D8 (.lst ((([ka.v,kb.v,kc.v]:List Int).take i).map V.int))) fun y H4=>∃ acc,H4 D8=some (.lst acc)∧acc.length<sizeLine∧upd H4 D8 (.lst (acc++[y]))=upd H8 D8 (.lst ((([ka.v,kb.v,kc.v]:List Int).take (i+1)).map V.int)):=by
   intro x kx hx _ hk hi3
   obtain ⟨⟨ddx,ix⟩,_⟩:=hx
   refine ⟨_,rfl,x,cCo,ddx,_,_,rfl,Zh hD8 _ _ ix,cc,T.Corner.n_vr,rfl,_,Ze,?_,?_⟩
   ·rw [List.length_map,List.length_take]
    exact Nat.lt_of_le_of_lt (Nat.min_le_right _ _) (by show 3<sizeLine;decide)
   ·rw [Yt,take_snoc hk,List.map_append];rfl
  match i,hi with
  | 0,hi=>cases hi;exact ⟨rfl,YG (turn a ka ca8 rfl rfl (by decide))⟩
  | 1,hi=>cases hi;exact ⟨rfl,YG (turn b kb cb8 rfl rfl (by decide))⟩
  | 2,hi=>cases hi;exact ⟨rfl,YG (turn c kc cc8 rfl rfl (by decide))⟩
  | i+3,hi=>simp at hi
 rintro _ rfl
 have nD8:D8≠tr:=fun z=>by rw [z,c8] at hD8;cases hD8
 have fD8:=fresh H8 k08 D8 hD8
 have sD8:=Zh (o:=.lst ([ka.v,kb.v,kc.v].map V.int)) hD8
 refine ⟨_,rfl,tr,cTr,dx,_,rfl,sD8 _ _ c8,cl,T.Triangle.n_vrs,Yx,Zx fun H9 c9 k9=>?_⟩
 have kk8:∀ b o,H8 b=some o→b≠tr→H9 b=some o:=fun b o e n=>k9 _ _ (sD8 _ _ e) n
 have ld9:=k9 _ _ (show upd H8 D8 (.lst ([ka.v,kb.v,kc.v].map V.int)) D8=_ from Ze) nD8
 have k09:∀ b o,H b=some o→b≠tr→H9 b=some o:=fun b o e n=>kk8 _ _ (k08 _ _ e n) n
 have lS9:=nl H9 k09
 have ca9:ZQ cCo H9 a ka:=ha.other fun o e _=>k09 _ _ e na
 have cb9:ZQ cCo H9 b kb:=hb.other fun o e _=>k09 _ _ e nb'
 have cc9:ZQ cCo H9 c kc:=hcc.other fun o e _=>k09 _ _ e nc
 refine ⟨_,rfl,l,rfl,⟨_,lS9⟩,fun D9 hD9=>?_⟩
 refine YM (K:=K) (a:=l) (xs:=[.ref a,.ref b,.ref c]) (fun i H'=>H'=upd H9 D9 (.lst ((([ka.l,kb.l,kc.l]:List Int).take i).map V.int))) rfl ?_ ?_ ?_
 ·rintro i H' _ rfl
  exact (Zh hD9).seq lS9
 ·rintro i v H' hi rfl
  have turn:∀ (x:Addr) (kx:Co),ZQ cCo H9 x kx→([.ref a,.ref b,.ref c]:List V)[i]?=some (.ref x)→([ka.l,kb.l,kc.l]:List Int)[i]?=some kx.l→i<3 →
    Jv K (ZH 7) "light" ([some (.ref tr),some (.ref l),some (.ref ta),some (.int (how:Nat)),some (.ref a),some (.ref b),some (.ref c),some (.ref x)]) (upd H9 D9 (.lst ((([ka.l,kb.l,kc.l]:List Int).take i).map V.int))) fun y H4=>∃ acc,H4 D9=some (.lst acc)∧acc.length<sizeLine∧upd H4 D9 (.lst (acc++[y]))=upd H9 D9 (.lst ((([ka.l,kb.l,kc.l]:List Int).take (i+1)).map V.int)):=by
   intro x kx hx _ hk hi3
   obtain ⟨⟨ddx,ix⟩,_⟩:=hx
   refine ⟨_,rfl,x,cCo,ddx,_,_,rfl,Zh hD9 _ _ ix,cc,T.Corner.n_light,rfl,_,Ze,?_,?_⟩
   ·rw [List.length_map,List.length_take]
    exact Nat.lt_of_le_of_lt (Nat.min_le_right _ _) (by show 3<sizeLine;decide)
   ·rw [Yt,take_snoc hk,List.map_append];rfl
  match i,hi with
  | 0,hi=>cases hi;exact ⟨rfl,YG (turn a ka ca9 rfl rfl (by decide))⟩
  | 1,hi=>cases hi;exact ⟨rfl,YG (turn b kb cb9 rfl rfl (by decide))⟩
  | 2,hi=>cases hi;exact ⟨rfl,YG (turn c kc cc9 rfl rfl (by decide))⟩
  | i+3,hi=>simp at hi
 rintro _ rfl
 have nD9:D9≠tr:=fun z=>by rw [z,c9] at hD9;cases hD9
 have fD9:=fresh H9 k09 D9 hD9
 have sD9:=Zh (o:=.lst ([ka.l,kb.l,kc.l].map V.int)) hD9
 refine ⟨_,rfl,tr,cTr,dx,_,rfl,sD9 _ _ c9,cl,T.Triangle.n_lights,Yx,Zx fun H10 c10 k10=>?_⟩
 have kk9:∀ b o,H9 b=some o→b≠tr→H10 b=some o:=fun b o e n=>k10 _ _ (sD9 _ _ e) n
 have ld10:=k10 _ _ (show upd H9 D9 (.lst ([ka.l,kb.l,kc.l].map V.int)) D9=_ from Ze) nD9
 have k010:∀ b o,H b=some o→b≠tr→H10 b=some o:=fun b o e n=>kk9 _ _ (k09 _ _ e n) n
 refine ⟨_,rfl,_,rfl,tr,cTr,dx,_,rfl,c10,cl,T.Triangle.n_texture,Yx,Zx fun H11 c11 k11=>?_⟩
 have e4:((how:Nat):Int) % 4=((how % 4:Nat):Int):=(Int.natCast_emod _ _).symm
 refine ⟨_,rfl,_,_,_,rfl,rfl,(by decide),e4,_,rfl,tr,cTr,dx,_,rfl,c11,cl,T.Triangle.n_way,Yx,Zx fun H12 c12 k12=>?_⟩
 have g10:∀ b o,H10 b=some o→b≠tr→H12 b=some o:=fun b o e n=>k12 _ _ (k11 _ _ e n) n
 have g9:∀ b o,H9 b=some o→b≠tr→H12 b=some o:=fun b o e n=>g10 _ _ (kk9 _ _ e n) n
 have g8:∀ b o,H8 b=some o→b≠tr→H12 b=some o:=fun b o e n=>g9 _ _ (kk8 _ _ e n) n
 have g7:∀ b o,H7 b=some o→b≠tr→H12 b=some o:=fun b o e n=>g8 _ _ (kk7 _ _ e n) n
 have g6:∀ b o,H6 b=some o→b≠tr→H12 b=some o:=fun b o e n=>g7 _ _ (kk6 _ _ e n) n
 have g5:∀ b o,H5 b=some o→b≠tr→H12 b=some o:=fun b o e n=>g6 _ _ (kk5 _ _ e n) n
 have g4:∀ b o,H4 b=some o→b≠tr→H12 b=some o:=fun b o e n=>g5 _ _ (kA _ _ e n) n
 have g0:∀ b o,H b=some o→b≠tr→H12 b=some o:=fun b o e n=>g5 _ _ (k05 _ _ e n) n
 have edk:∀ (x:Addr) (p q:Co) (Hx:Hp),Jd cEg cCo Hx x p q→Zq Hx H4→Jd cEg cCo H12 x p q:=fun x p q Hx h1 sx=>by
  obtain ⟨d1,a1,b1,i1,i2,i3⟩:=h1
  have ne1:x≠tr:=fun z=>by
   have:=sx _ _ i1
   rw [z,tr4] at this
   have:=(HO.ins.inj (Option.some.inj this)).2.2
   cases this
  have neC:∀ {y:Addr}{k:Co},ZQ cCo Hx y k→y≠tr:=fun h2 z=>by
   obtain ⟨⟨d2,e2⟩,_⟩:=h2
   have:=sx _ _ e2
   rw [z,tr4] at this
   have:=(HO.ins.inj (Option.some.inj this)).2.2
   cases this
  exact ⟨d1,a1,b1,g4 _ _ (sx _ _ i1) ne1,i2.other (fun o e _=>g4 _ _ (sx _ _ e) (neC i2)),i3.other fun o e _=>g4 _ _ (sx _ _ e) (neC i3)⟩
 have kpA:Kp LA (upd H tr (.ins cTr dx [])) (upd H tr (.ins cTr dx [])):=⟨fun b hb=>by obtain ⟨xs,e⟩:=hA b hb;exact ⟨xs,by rw [Zn (nA b hb)];exact e⟩,fun _ _ e _=>e⟩
 have tx12:QW K cTx H12 LA ta t:=by
  obtain ⟨d1,tl,ps,i1,i2,i3,i4,i5,i6⟩:=htx
  have ntl:tl≠tr:=Xm i2 hc (by intro z;cases z)
  refine ⟨d1,tl,ps,g0 _ _ i1 nta,g0 _ _ i2 ntl,i3,⟨i4.1,fun i x p h1 h2=>?_⟩,i5,i6⟩
  obtain ⟨q1,q2⟩:=i4.2 i x p h1 h2
  refine ⟨?_,q2⟩
  rcases q1 with (h | ⟨o,h⟩) | h
  ·exact .inl (.inl (g0 _ _ h (Xm h hc (by intro z;cases z))))
  ·exact .inl (.inr ⟨o,g0 _ _ h (Xm h hc (by intro z;cases z))⟩)
  ·exact .inr h
 refine k H12 ⟨dx,el,D5,D6,D7,D8,D9,ta,x1,x2,x3⟩ ⟨c12,⟨g5 _ _ el5 nel,fel⟩,edk _ _ _ _ ed1 (S2.trans S3),edk _ _ _ _ ed2 S3,edk _ _ _ _ ed3 (Zq.refl _),⟨g6 _ _ ld6 nD5,fD5⟩,⟨g7 _ _ ld7 nD6,fD6⟩,⟨g8 _ _ ld8 nD7,fD7⟩,⟨g9 _ _ ld9 nD8,fD8⟩,⟨g10 _ _ ld10 nD9,fD9⟩,tx12,ha.2,hb.2,hcc.2⟩ g0
end
end Sg
namespace Sg
open PySem PySem.Spec PyProof.Rows L2 LX SbM
structure Sh (K:PySem.W.Frag) (H:Hp) (a:Addr) (w0 w1 w2:Int):Prop where
 at_:SqL K H a ([w0,w1,w2].map V.int)
 b0:Bd 190 w0
 b1:Bd 190 w1
 b2:Bd 190 w2
theorem Sh.same {K:PySem.W.Frag}{H H':Hp}{a:Addr}{w0 w1 w2:Int}(h:Sh K H a w0 w1 w2) (q:Zq H H'):Sh K H' a w0 w1 w2:=⟨q.seq h.at_,h.b0,h.b1,h.b2⟩
theorem QC {w0 w1 w2 x y z:Int}{k:Nat}(h0:Bd 190 w0) (h1:Bd 190 w1) (h2:Bd 190 w2) (hx:Bd k x) (hy:Bd k y) (hz:Bd k z):Bd (190+k-149+8) (Sb20.blend w0 w1 w2 x y z):=by
 unfold Sb20.blend
 have m0:=h0.smul hx
 have m1:=h1.smul hy
 have m2:=h2.smul hz
 have a:=m0.ZcB m1
 have m2':Bd (190+k-149+2+3) (Sb20.mul w2 z):=m2.mono (by lia)
 have b:=a.ZcB m2'
 exact b.mono (by lia)
section
variable {P:Program}{w:World}{K:PySem.W.Frag}{mg:Str→Option Value}{base:Heap}{RF NT cCv cTx cFg cEg cCo cTr:Addr}
def ZlH (K:PySem.W.Frag) (cTx:Addr):Sp:=fun vs H Q _=>∃ (n:Int) (ta:Addr) (t:Sb20.Texture) (A:List Addr),vs=[.int n,.ref ta]∧QW K cTx H A ta t∧Bd 3000 n∧Q (.int (Sb20.chopped (n*((2^t.log:Nat):Int)) % ((2^t.log:Nat):Int))) H
theorem Zch (F:Df K mg "texel_index" (top 101) ["number","texture"])
  (f_cut_from_single:Cal P w K mg base CX0 2 "cut_from_single" ["a"] ZmK) (T:Zu K cCv cTx cFg cEg cCo cTr):Cal P w K mg base CX0 3 "texel_index" ["number","texture"] (ZlH K cTx):=by
 refine F.okS (N:=["number","texture"]) fun S f cdv A outer s H vs Q E hr h=>?_
 obtain ⟨n,ta,t,LA,rfl,⟨dx,tl,as,h1,h2,h3,h4,h5,h6⟩,hn,k⟩:=h
 refine ⟨_,(Zf (Zm (Zj ZkF (Zg f_cut_from_single (hr.mono (by decide)) rfl Zi (Za (Zj QG (pv 0) (Zo (pv 1) rfl)) Zb)) (Zo (pv 1) rfl)))),?_⟩
 have cl:=T.Texture.cl
 have e:n*2^((t.log:Nat):Int).toNat=n*((2^t.log:Nat):Int):=by rw [Int.toNat_natCast];simp
 have hp:0<2^t.log:=Nat.two_pow_pos _
 exact ⟨_,rfl,_,rfl,ta,cTx,dx,_,_,rfl,h1,cl,T.Texture.n_log,rfl,_,_,_,rfl,rfl,⟨by lia,by lia,sm hn⟩,e,_,_,rfl,rfl,_,rfl,ta,cTx,dx,_,_,rfl,h1,cl,T.Texture.n_side,rfl,_,_,_,rfl,rfl,(by lia),rfl,k⟩
def uOf (ka kb kc:Co) (w0 w1 w2:Int):Int:=Sb20.div (Sb20.blend w0 w1 w2 ka.u kb.u kc.u) (Sb20.blend w0 w1 w2 ka.r kb.r kc.r)
def vOf (ka kb kc:Co) (w0 w1 w2:Int):Int:=Sb20.div (Sb20.blend w0 w1 w2 ka.v kb.v kc.v) (Sb20.blend w0 w1 w2 ka.r kb.r kc.r)
def Zfg (t:Sb20.Texture) (ka kb kc:Co) (w0 w1 w2:Int):Px:=t.texel (Sb20.chopped (uOf ka kb kc w0 w1 w2*((2^t.log:Nat):Int))) (Sb20.chopped (vOf ka kb kc w0 w1 w2*((2^t.log:Nat):Int)))
theorem ZaL.same {H H':Hp}{A:List Addr}{tr:Addr}{ka kb kc:Co}{t:Sb20.Texture}{way:Nat}{d:TrD}(h:ZaL K cTx cEg cCo cTr H A tr ka kb kc t way d) (hA:∀ b∈A,∃ xs,H b=some (.lst xs)) (q:Zq H H'):ZaL K cTx cEg cCo cTr H' A tr ka kb kc t way d:=h.kp (Kp.of_same hA q)
def ZlG (K:PySem.W.Frag) (cTx cEg cCo cTr:Addr):Sp:=fun vs H Q _=>∃ (tr sa:Addr) (A:List Addr) (ka kb kc:Co) (t:Sb20.Texture) (way:Nat) (d:TrD) (w0 w1 w2:Int),vs=[.ref tr,.ref sa]∧(∀ b∈A,∃ xs,H b=some (.lst xs))∧ZaL K cTx cEg cCo cTr H A tr ka kb kc t way d∧Sh K H sa w0 w1 w2∧0<Sb20.blend w0 w1 w2 ka.r kb.r kc.r ∧
 ∀ (H':Hp) (a:Addr),Zq H H'→Yr K H' a (Zfg t ka kb kc w0 w1 w2)→Q (.ref a) H'
theorem Zes (F:Df K mg "texel_at" (top 102) ["triangle","shares"])
  (f_quotient:Cal P w K mg base CX0 2 "quotient" ["a","b"] Jg)
  (f_texel_index:Cal P w K mg base CX0 3 "texel_index" ["number","texture"] (ZlH K cTx))
  (f_three_products:Cal P w K mg base CX0 3 "three_products" ["a","b"] (XO K)) (T:Zu K cCv cTx cFg cEg cCo cTr):Cal P w K mg base CX0 4 "texel_at" ["triangle","shares"] (ZlG K cTx cEg cCo cTr):=by
 refine F.okS (N:=["triangle","shares","texture","r","u","v"]) fun S f cdv A outer s H vs Q E hr h=>?_
 obtain ⟨tr,sa,LA,ka,kb,kc,t,way,d,w0,w1,w2,rfl,hA,hT,hS,hR,k⟩:=h
 refine ⟨_,(Zc (Zl (i:=2) S.nd rfl (Or.inl rfl) (Zo (pv 0) rfl)) (Zc (Zl (i:=3) S.nd rfl (Or.inl rfl) (Zg f_three_products (hr.mono (by decide)) rfl Zi (Za (pv 1) (Za (Zo (pv 0) rfl) Zb)))) (Zc (Zl (i:=4) S.nd rfl (Or.inl rfl) (Zg f_quotient (hr.mono (by decide)) rfl Zi (Za (Zg f_three_products (hr.mono (by decide)) rfl Zi (Za (pv 1) (Za (Zo (pv 0) rfl) Zb))) (Za (pv 3) Zb)))) (Zc (Zl (i:=5) S.nd rfl (Or.inl rfl) (Zg f_quotient (hr.mono (by decide)) rfl Zi (Za (Zg f_three_products (hr.mono (by decide)) rfl Zi (Za (pv 1) (Za (Zo (pv 0) rfl) Zb))) (Za (pv 3) Zb)))) (Zf (Zm (Zt (r:=ZE K) ixK (Zo (pv 2) rfl) (Zj Yh (Zj Xu (Zo (pv 2) rfl) (Zg f_texel_index (hr.mono (by decide)) rfl Zi (Za (pv 5) (Za (pv 2) Zb)))) (Zg f_texel_index (hr.mono (by decide)) rfl Zi (Za (pv 4) (Za (pv 2) Zb)))) (fun _ _=>rfl)))))))),?_⟩
 have cl:=T.Triangle.cl
 have ct:=T.Texture.cl
 obtain ⟨_,az,⟨_,ar⟩,au,av,al⟩:=hT.oa
 obtain ⟨_,bz,⟨_,br⟩,bu,bv,bl⟩:=hT.ob
 obtain ⟨_,cz,⟨_,cr⟩,cu,cv,cl'⟩:=hT.oc
 have w800:∀ {x:Int},Bd 190 x→Bd 800 x:=fun h=>h.mono (by decide)
 have x800:∀ {x:Int},Bd 171 x→Bd 800 x:=fun h=>h.mono (by decide)
 have y800:∀ {x:Int},Bd 200 x→Bd 800 x:=fun h=>h.mono (by decide)
 have rbd:=QC hS.b0 hS.b1 hS.b2 ar br cr
 have ubd:=QC hS.b0 hS.b1 hS.b2 au bu cu
 have vbd:=QC hS.b0 hS.b1 hS.b2 av bv cv
 refine ⟨_,rfl,tr,cTr,d.dx,_,_,rfl,hT.ins,cl,T.Triangle.n_texture,rfl,?_⟩
 refine ⟨_,rfl,_,rfl,tr,cTr,d.dx,_,_,rfl,hT.ins,cl,T.Triangle.n_rs,rfl,sa,d.rl,_,_,_,_,_,_,_,rfl,hS.at_,SqL.of hT.rl.1,⟨w800 hS.b0,w800 hS.b1,w800 hS.b2,x800 ar,x800 br,x800 cr⟩,rfl,?_⟩
 refine ⟨_,rfl,_,rfl,tr,cTr,d.dx,_,_,rfl,hT.ins,cl,T.Triangle.n_urs,rfl,sa,d.ul,_,_,_,_,_,_,_,rfl,hS.at_,SqL.of hT.ul.1,⟨w800 hS.b0,w800 hS.b1,w800 hS.b2,y800 au,y800 bu,y800 cu⟩,rfl,_,rfl,_,_,_,rfl,⟨ubd.mono (by decide),hR,rbd.mono (by decide)⟩,rfl,fun H1 s1=>?_⟩
 have hT1:=hT.same hA s1
 have hS1:=hS.same s1
 have hA1:∀ b∈LA,∃ xs,H1 b=some (.lst xs):=fun b hb=>by obtain ⟨xs,e⟩:=hA b hb;exact ⟨xs,s1 _ _ e⟩
 refine ⟨_,rfl,_,rfl,tr,cTr,d.dx,_,_,rfl,hT1.ins,cl,T.Triangle.n_vrs,rfl,sa,d.vl,_,_,_,_,_,_,_,rfl,hS1.at_,SqL.of hT1.vl.1,⟨w800 hS.b0,w800 hS.b1,w800 hS.b2,y800 av,y800 bv,y800 cv⟩,rfl,_,rfl,_,_,_,rfl,⟨vbd.mono (by decide),hR,rbd.mono (by decide)⟩,rfl,fun H2 s2=>?_⟩
 have hT2:=hT1.same hA1 s2
 have eu:Sb20.div (Sb20.add (Sb20.add (Sb20.mul w0 ka.u) (Sb20.mul w1 kb.u)) (Sb20.mul w2 kc.u)) (Sb20.add (Sb20.add (Sb20.mul w0 ka.r) (Sb20.mul w1 kb.r)) (Sb20.mul w2 kc.r))=uOf ka kb kc w0 w1 w2:=rfl
 have ev:Sb20.div (Sb20.add (Sb20.add (Sb20.mul w0 ka.v) (Sb20.mul w1 kb.v)) (Sb20.mul w2 kc.v)) (Sb20.add (Sb20.add (Sb20.mul w0 ka.r) (Sb20.mul w1 kb.r)) (Sb20.mul w2 kc.r))=vOf ka kb kc w0 w1 w2:=rfl
 rw [eu,ev]
 have bu':Bd 3000 (uOf ka kb kc w0 w1 w2):=(Bd.sdiv ubd (Int.ne_of_gt hR)).mono (by decide)
 have bv':Bd 3000 (vOf ka kb kc w0 w1 w2):=(Bd.sdiv vbd (Int.ne_of_gt hR)).mono (by decide)
 have htx:=hT2.ta
 obtain ⟨tdx,tl,ts,h1,h2,h3,h4,h5,h6⟩:=id htx
 have hp:0<2^t.log:=Nat.two_pow_pos _
 have hp64:2^t.log≤64:=Nat.le_trans (Nat.pow_le_pow_right (by decide) h5) (by decide)
 have mlt:∀ x:Int,∃ m:Nat,x % ((2^t.log:Nat):Int)=(m:Int)∧m<2^t.log∧(x % ((2^t.log:Nat):Int)).toNat=m:=fun x=>by
  have a1:=Int.emod_nonneg x (show ((2^t.log:Nat):Int)≠0 by lia)
  have a2:=Int.emod_lt_of_pos x (show (0:Int)<((2^t.log:Nat):Int) by lia)
  exact ⟨(x % ((2^t.log:Nat):Int)).toNat,by lia,by lia,rfl⟩
 obtain ⟨mu,mu1,mu2,mu3⟩:=mlt (Sb20.chopped (uOf ka kb kc w0 w1 w2*((2^t.log:Nat):Int)))
 obtain ⟨mv,mv1,mv2,mv3⟩:=mlt (Sb20.chopped (vOf ka kb kc w0 w1 w2*((2^t.log:Nat):Int)))
 refine ⟨_,rfl,d.ta,cTx,tdx,_,_,rfl,h1,ct,T.Texture.n_colours,rfl,_,rfl,d.ta,cTx,tdx,_,_,rfl,h1,ct,T.Texture.n_side,rfl,_,rfl,_,rfl,vOf ka kb kc w0 w1 w2,d.ta,t,LA,rfl,htx,bv',?_⟩
 rw [mv1]
 have sS:Sm ((2^t.log:Nat):Int):=smN (by lia)
 refine ⟨_,_,_,rfl,rfl,⟨sS,smN (by lia)⟩,rfl,_,rfl,_,rfl,uOf ka kb kc w0 w1 w2,d.ta,t,LA,rfl,htx,bu',?_⟩
 rw [mu1]
 have hidx:((2^t.log:Nat):Int)*(mv:Int)+(mu:Int)=((mv*2^t.log+mu:Nat):Int):=by rw [Int.natCast_add,Int.natCast_mul,Int.mul_comm]
 have hlt:mv*2^t.log+mu<t.pixels.length:=by
  rw [h6]
  have:(mv+1)*2^t.log≤2^t.log*2^t.log:=Nat.mul_le_mul_right _ mv2
  rw [Nat.add_mul,Nat.one_mul] at this
  lia
 have hts:mv*2^t.log+mu<ts.length:=by rw [h4.1];exact hlt
 have hat:atI (ts.map V.ref) ((mv*2^t.log+mu:Nat):Int)=some (.ref ts[mv*2^t.log+mu]):=ZdF (by rw [List.getElem?_map,List.getElem?_eq_getElem hts];rfl)
 refine ⟨_,_,_,rfl,rfl,hidx,tl,_,_,_,rfl,rfl,SqL.of h2,hat,?_⟩
 refine k H2 _ (s1.trans s2) ?_
 have hpx:=h4.2 _ _ _ (List.getElem?_eq_getElem hts) (at_getD px0 hlt)
 have etex:Zfg t ka kb kc w0 w1 w2=t.pixels.getD (mv*2^t.log+mu) px0:=by
  unfold Zfg Sb20.Texture.texel
  rw [mu3,mv3]
 rw [etex];exact hpx
def litOf (ka kb kc:Co) (w0 w1 w2:Int):Int:=Sb20.clamp 0 (Sb20.whole (256*Sb20.blend w0 w1 w2 ka.l kb.l kc.l)) 256
def ZmE (K:PySem.W.Frag) (cTx cEg cCo cTr:Addr):Sp:=fun vs H Q _=>∃ (tr sa:Addr) (A:List Addr) (ka kb kc:Co) (t:Sb20.Texture) (way:Nat) (d:TrD) (w0 w1 w2:Int),vs=[.ref tr,.ref sa]∧ZaL K cTx cEg cCo cTr H A tr ka kb kc t way d∧Sh K H sa w0 w1 w2∧Q (.int (litOf ka kb kc w0 w1 w2)) H
theorem Zap (F:Df K mg "brightness_at" (top 103) ["triangle","shares"])
  (f_three_products:Cal P w K mg base CX0 3 "three_products" ["a","b"] (XO K))
  (f_whole_from_single:Cal P w K mg base CX0 2 "whole_from_single" ["a"] Zkk)
  (c_BRIGHTEST_triangles:Cst mg "BRIGHTEST_triangles" (.int 256))
  (b_max:mg "max"=none)
  (b_min:mg "min"=none) (T:Zu K cCv cTx cFg cEg cCo cTr):Cal P w K mg base CX0 4 "brightness_at" ["triangle","shares"] (ZmE K cTx cEg cCo cTr):=by
 refine F.okS (N:=["triangle","shares","brightness"]) fun S f cdv A outer s H vs Q E hr h=>?_
 obtain ⟨tr,sa,LA,ka,kb,kc,t,way,d,w0,w1,w2,rfl,hT,hS,k⟩:=h
 refine ⟨_,(Zc (Zl (i:=2) S.nd rfl (Or.inl rfl) (Zg f_whole_from_single (hr.mono (by decide)) rfl Zi (Za (Zj Xu (Zp c_BRIGHTEST_triangles rfl) (Zg f_three_products (hr.mono (by decide)) rfl Zi (Za (pv 1) (Za (Zo (pv 0) rfl) Zb)))) Zb))) (Zf (Zm (ZP (ZiT rfl) (by rfl) b_max boot_max (Za Zd (Za (ZP (ZjR rfl) (by rfl) b_min boot_min (Za (pv 2) (Za (Zp c_BRIGHTEST_triangles rfl) Zb))) Zb)))))),?_⟩
 have cl:=T.Triangle.cl
 obtain ⟨_,az,⟨_,ar⟩,au,av,al⟩:=hT.oa
 obtain ⟨_,bz,⟨_,br⟩,bu,bv,bl⟩:=hT.ob
 obtain ⟨_,cz,⟨_,cr⟩,cu,cv,cl'⟩:=hT.oc
 have w800:∀ {x:Int},Bd 190 x→Bd 800 x:=fun h=>h.mono (by decide)
 have x800:∀ {x:Int},Bd 171 x→Bd 800 x:=fun h=>h.mono (by decide)
 have lbd:=QC hS.b0 hS.b1 hS.b2 al bl cl'
 have l2:=Bd.mul (show Bd 9 256 by unfold Bd;decide) lbd
 refine ⟨_,rfl,_,rfl,tr,cTr,d.dx,_,_,rfl,hT.ins,cl,T.Triangle.n_lights,rfl,sa,d.ll,_,_,_,_,_,_,_,rfl,hS.at_,SqL.of hT.ll.1,⟨w800 hS.b0,w800 hS.b1,w800 hS.b2,x800 al,x800 bl,x800 cl'⟩,rfl,_,_,_,rfl,rfl,⟨by unfold Sm;decide,sm lbd⟩,rfl,_,_,rfl,l2.mono (by decide),rfl,?_⟩
 exact ⟨_,rfl,_,_,_,rfl,rfl,_,_,_,rfl,rfl,k⟩
def ZbA (f:Option Sb20.Fog) (t:Sb20.Texture) (ka kb kc:Co) (w0 w1 w2 z:Int):Px:=Zbv f (Zhq (Zfg t ka kb kc w0 w1 w2) (litOf ka kb kc w0 w1 w2).toNat) z
def Zmu (K:PySem.W.Frag) (cFg cTx cEg cCo cTr:Addr):Sp:=fun vs H Q _=>∃ (tr sa:Addr) (A:List Addr) (ka kb kc:Co) (t:Sb20.Texture) (way:Nat) (d:TrD) (w0 w1 w2 z:Int) (v:V) (f:Option Sb20.Fog),vs=[.ref tr,.ref sa,v,.int z]∧(∀ b∈A,∃ xs,H b=some (.lst xs))∧ZaL K cTx cEg cCo cTr H A tr ka kb kc t way d∧Sh K H sa w0 w1 w2∧0<Sb20.blend w0 w1 w2 ka.r kb.r kc.r∧Xi K cFg H v f∧Bd 400 z ∧
 ∀ (H':Hp) (a:Addr),Zq H H'→Yr K H' a (ZbA f t ka kb kc w0 w1 w2 z)→Q (.ref a) H'
theorem Xi.same {H H':Hp}{v:V}{f:Option Sb20.Fog}(h:Xi K cFg H v f) (q:Zq H H'):Xi K cFg H' v f:=h.kp (Kp.of_same (A:=[]) (fun b hb=>absurd hb (by simp)) q)
theorem Zen (F:Df K mg "colour_at" (top 104) ["triangle","shares","fog","depth"])
  (f_brightness_at:Cal P w K mg base CX0 4 "brightness_at" ["triangle","shares"] (ZmE K cTx cEg cCo cTr))
  (f_colour_in_fog:Cal P w K mg base CX0 4 "colour_in_fog" ["fog","colour","depth"] (ZjT K cFg))
  (f_lit_colour:Cal P w K mg base CX0 1 "lit_colour" ["colour","brightness"] (Zgu K))
  (f_texel_at:Cal P w K mg base CX0 4 "texel_at" ["triangle","shares"] (ZlG K cTx cEg cCo cTr)):Cal P w K mg base CX0 5 "colour_at" ["triangle","shares","fog","depth"] (Zmu K cFg cTx cEg cCo cTr):=by
 refine F.okS (N:=["triangle","shares","fog","depth","colour"]) fun S f cdv A outer s H vs Q E hr h=>?_
 obtain ⟨tr,sa,LA,ka,kb,kc,t,way,d,w0,w1,w2,z,v,fo,rfl,hA,hT,hS,hR,hf,hz,k⟩:=h
 refine ⟨_,(Zc (Zl (i:=4) S.nd rfl (Or.inl rfl) (Zg f_lit_colour (hr.mono (by decide)) rfl Zi (Za (Zg f_texel_at (hr.mono (by decide)) rfl Zi (Za (pv 0) (Za (pv 1) Zb))) (Za (Zg f_brightness_at (hr.mono (by decide)) rfl Zi (Za (pv 0) (Za (pv 1) Zb))) Zb)))) (Zf (Zm (Zg f_colour_in_fog (hr.mono (by decide)) rfl Zi (Za (pv 2) (Za (pv 4) (Za (pv 3) Zb))))))),?_⟩
 obtain ⟨n,en,hn⟩:=ZcY (x:=Sb20.whole (256*Sb20.blend w0 w1 w2 ka.l kb.l kc.l)) (hi:=256) (by decide)
 have el:litOf ka kb kc w0 w1 w2=(n:Int):=en
 refine ⟨_,rfl,_,rfl,tr,sa,LA,ka,kb,kc,t,way,d,w0,w1,w2,rfl,hA,hT,hS,hR,fun H1 a s1 hp=>?_⟩
 refine ⟨_,rfl,_,rfl,tr,sa,LA,ka,kb,kc,t,way,d,w0,w1,w2,rfl,hT.same hA s1,hS.same s1,?_⟩
 rw [el]
 refine ⟨a,_,n,rfl,hp,by lia,fun H2 t2 s2 n2 e2=>?_⟩
 have s12:=s1.trans s2
 refine ⟨_,rfl,_,rfl,_,rfl,v,t2,z,_,fo,rfl,hf.same s12,⟨SqT.of e2,Zjl hp.2 (by lia)⟩,hz,fun H3 t3 s3 hp3=>?_⟩
 refine k H3 t3 (s12.trans s3) ?_
 unfold ZbA
 rw [el,Int.toNat_natCast];exact hp3
def Zmr (K:PySem.W.Frag) (cCv cFg cTx cEg cCo cTr:Addr):Sp:=fun vs H Q _=>∃ (c tr sa:Addr) (ka kb kc:Co) (t:Sb20.Texture) (way:Nat) (d:TrD) (w0 w1 w2:Int) (p:Nat) (N:Nat) (s:Sb20.St) (cl dl:Addr),vs=[.ref c,.ref tr,.int (p:Nat),.ref sa]∧Cv K cCv cTx cFg H c N s cl dl∧ZaL K cTx cEg cCo cTr H [cl,dl] tr ka kb kc t way d∧Sh K H sa w0 w1 w2∧0<Sb20.blend w0 w1 w2 ka.r kb.r kc.r∧(p<s.w*s.h∧way<4) ∧
 ∀ (H':Hp),Kp [cl,dl] H H'→Cv K cCv cTx cFg H' c N (YI way s p (Sb20.blend w0 w1 w2 ka.z kb.z kc.z) (ZbA s.fog t ka kb kc w0 w1 w2 (Sb20.blend w0 w1 w2 ka.z kb.z kc.z))).1 cl dl →
  Q (.int ((YI way s p (Sb20.blend w0 w1 w2 ka.z kb.z kc.z) (ZbA s.fog t ka kb kc w0 w1 w2 (Sb20.blend w0 w1 w2 ka.z kb.z kc.z))).2:Nat)) H'
theorem Zcl (F:Df K mg "draw_shares" (top 105) ["canvas","triangle","place","shares"])
  (f_colour_at:Cal P w K mg base CX0 5 "colour_at" ["triangle","shares","fog","depth"] (Zmu K cFg cTx cEg cCo cTr))
  (f_draw_pixel:Cal P w K mg base CX0 4 "draw_pixel" ["canvas","place","colour","depth","way"] (Zds K cCv cTx cFg))
  (f_is_hidden:Cal P w K mg base CX0 1 "is_hidden" ["canvas","place","depth"] (ZgJ K cCv cTx cFg))
  (f_three_products:Cal P w K mg base CX0 3 "three_products" ["a","b"] (XO K)) (T:Zu K cCv cTx cFg cEg cCo cTr):Cal P w K mg base CX0 6 "draw_shares" ["canvas","triangle","place","shares"] (Zmr K cCv cFg cTx cEg cCo cTr):=by
 refine F.okS (N:=["canvas","triangle","place","shares","depth","colour"]) fun S f cdv A outer s H vs Q E hr h=>?_
 obtain ⟨c,tr,sa,ka,kb,kc,t,way,d,w0,w1,w2,p,N,s,al,dl,rfl,⟨cd,hv⟩,hT,hS,hR,⟨hp,hw⟩,k⟩:=h
 refine ⟨_,(Zc (Zl (i:=4) S.nd rfl (Or.inl rfl) (Zg f_three_products (hr.mono (by decide)) rfl Zi (Za (pv 3) (Za (Zo (pv 1) rfl) Zb)))) (Zc (Yg (XU (Zg f_is_hidden (hr.mono (by decide)) rfl Zi (Za (pv 0) (Za (pv 2) (Za (pv 4) Zb))))) (Zf (Zm Zd)) ZJ) (Zc (Zl (i:=5) S.nd rfl (Or.inl rfl) (Zg f_colour_at (hr.mono (by decide)) rfl Zi (Za (pv 1) (Za (pv 3) (Za (Zo (pv 0) rfl) (Za (pv 4) Zb)))))) (Zf (Zm (Zg f_draw_pixel (hr.mono (by decide)) rfl Zi (Za (pv 0) (Za (pv 2) (Za (pv 5) (Za (pv 4) (Za (Zo (pv 1) rfl) Zb))))))))))),?_⟩
 have cl:=T.Triangle.cl
 obtain ⟨_,az,_⟩:=id hT.oa
 obtain ⟨_,bz,_⟩:=id hT.ob
 obtain ⟨_,cz,_⟩:=id hT.oc
 have w800:∀ {x:Int},Bd 190 x→Bd 800 x:=fun h=>h.mono (by decide)
 have x800:∀ {x:Int},Bd 171 x→Bd 800 x:=fun h=>h.mono (by decide)
 have zbd:=QC hS.b0 hS.b1 hS.b2 az bz cz
 refine ⟨_,rfl,_,rfl,tr,cTr,d.dx,_,_,rfl,hT.ins,cl,T.Triangle.n_depths,rfl,sa,d.dl,_,_,_,_,_,_,_,rfl,hS.at_,SqL.of hT.dl.1,⟨w800 hS.b0,w800 hS.b1,w800 hS.b2,x800 az,x800 bz,x800 cz⟩,rfl,?_⟩
 have ez:Sb20.add (Sb20.add (Sb20.mul w0 ka.z) (Sb20.mul w1 kb.z)) (Sb20.mul w2 kc.z)=Sb20.blend w0 w1 w2 ka.z kb.z kc.z:=rfl
 rw [ez]
 generalize Sb20.blend w0 w1 w2 ka.z kb.z kc.z=z at *
 refine ⟨_,rfl,_,rfl,_,rfl,c,p,z,N,s,al,dl,rfl,⟨cd,hv⟩,hp,fun b1 h1=>⟨_,rfl,Ye (fun c1=>?_) fun c1=>?_⟩⟩
 ·have:¬ z<s.depths.getD p 0:=by have:=h1.mp c1;lia
  unfold YI at k
  rw [if_neg this] at k
  exact k H (Kp.of_same hv.lists (Zq.refl H)) ⟨cd,hv⟩
 ·have:z<s.depths.getD p 0:=by
   have:¬ s.depths.getD p 0≤z:=fun q=>c1 (h1.mpr q)
   lia
  unfold YI at k
  rw [if_pos this] at k
  refine ⟨_,rfl,_,rfl,_,rfl,c,cCv,cd.dx,_,_,rfl,hv.ins,T.Canvas.cl,T.Canvas.n_fog,rfl,_,rfl,tr,sa,[al,dl],ka,kb,kc,t,way,d,w0,w1,w2,z,cd.fg,s.fog,rfl,hv.lists,hT,hS,hR,hv.fg,zbd.mono (by decide),fun H1 a s1 hpx=>?_⟩
  have hv1:=hv.same s1
  have hT1:=hT.same hv.lists s1
  exact ⟨_,rfl,_,rfl,_,rfl,_,rfl,_,rfl,tr,cTr,d.dx,_,_,rfl,hT1.ins,cl,T.Triangle.n_way,rfl,c,p,a,z,way,_,N,s,al,dl,rfl,⟨cd,hv1⟩,hpx,⟨hp,hw⟩,fun H2 kp2 hv2=>k H2 ((Kp.of_same hv.lists s1).trans kp2) hv2⟩
end
end Sg
namespace Sg
open PySem PySem.Spec PyProof.Rows L2 LX SbM
theorem ZbQ (e:Int) (a b:Co):Sb20.inside e a b=true↔ZZ a b≤e:=by
 unfold Sb20.inside ZZ
 cases h:Sb20.own a b
 ·simp;omega
 ·simp;omega
theorem Zbd (a b:Co) (i:Int) (y:Int):Sb20.edge a b (16*i+8) y=Sb20.edge a b 8 y-ZS (a,b)*i:=by
 unfold Sb20.edge ZS
 show (b.x-a.x)*(y-a.y)-(b.y-a.y)*(16*i+8-a.x)=(b.x-a.x)*(y-a.y)-(b.y-a.y)*(8-a.x)-16*(b.y-a.y)*i
 have:16*i+8-a.x=(8-a.x)+16*i:=by omega
 rw [this,Int.mul_add]
 have:(b.y-a.y)*(16*i)=16*(b.y-a.y)*i:=by rw [← Int.mul_assoc,Int.mul_comm (b.y-a.y) 16]
 rw [this]
 omega
def es3 (ka kb kc:Co):List (Co×Co):=[(kb,kc),(kc,ka),(ka,kb)]
def ss3 (ka kb kc:Co) (y:Int):List Int:=[Sb20.edge kb kc 8 y,Sb20.edge kc ka 8 y,Sb20.edge ka kb 8 y]
def share (ka kb kc:Co) (e:Int):Int:=Sb20.div (Sb20.ofInt e) (Sb20.ofInt (Sb20.area ka kb kc))
def JA (ka kb kc:Co) (i j:Int):Prop:=ZZ kb kc≤Sb20.edge kb kc (16*i+8) (16*j+8)∧ZZ kc ka≤Sb20.edge kc ka (16*i+8) (16*j+8)∧ZZ ka kb≤Sb20.edge ka kb (16*i+8) (16*j+8)
theorem ZfM {s:Sb20.St}{t:Sb20.Texture}{ka kb kc:Co}{i j:Nat}(h:¬ JA ka kb kc (i:Int) (j:Int)):Sb20.sample s t ka kb kc i j=none:=by
 unfold Sb20.sample
 simp only
 rw [if_neg]
 intro q
 apply h
 simp only [Bool.and_eq_true,ZbQ] at q
 exact q
abbrev ZbX (ka kb kc:Co) (i j:Int):Int:=share ka kb kc (Sb20.edge kb kc (16*i+8) (16*j+8))
abbrev ZbT (ka kb kc:Co) (i j:Int):Int:=share ka kb kc (Sb20.edge kc ka (16*i+8) (16*j+8))
abbrev Zcc (ka kb kc:Co) (i j:Int):Int:=share ka kb kc (Sb20.edge ka kb (16*i+8) (16*j+8))
def zOf (ka kb kc:Co) (i j:Int):Int:=Sb20.blend (ZbX ka kb kc i j) (ZbT ka kb kc i j) (Zcc ka kb kc i j) ka.z kb.z kc.z
def pOf (f:Option Sb20.Fog) (t:Sb20.Texture) (ka kb kc:Co) (i j:Int):Px:=ZbA f t ka kb kc (ZbX ka kb kc i j) (ZbT ka kb kc i j) (Zcc ka kb kc i j) (zOf ka kb kc i j)
theorem Zhs {s:Sb20.St}{t:Sb20.Texture}{ka kb kc:Co}{i j:Nat}(h:JA ka kb kc (i:Int) (j:Int)):Sb20.sample s t ka kb kc i j=some (zOf ka kb kc i j,pOf s.fog t ka kb kc i j):=by
 unfold Sb20.sample
 simp only
 rw [if_pos]
 ·unfold pOf ZbA Zbv Zhq Zfg uOf vOf litOf zOf
  cases s.fog with
  | none=>rfl
  | some f=>rfl
 ·simp only [Bool.and_eq_true,ZbQ]
  exact h
theorem ZkM {ka kb kc:Co}{j:Nat}{w:Nat}{zf zl:Int}(hf:ZaZ (es3 ka kb kc) (ss3 ka kb kc (16*(j:Int)+8)) 3 zf) (hl:LastOk (es3 ka kb kc) (ss3 ka kb kc (16*(j:Int)+8)) w 3 zl){i:Int}(hi:0≤i) (hw:i<(w:Int)) :
  (zf≤i∧i≤zl)↔JA ka kb kc i (j:Int):=by
 have h1:=hf.2 i hi
 have h2:=hl.2 i hi
 have e0:=Zbd kb kc i (16*(j:Int)+8)
 have e1:=Zbd kc ka i (16*(j:Int)+8)
 have e2:=Zbd ka kb i (16*(j:Int)+8)
 unfold JA
 rw [e0,e1,e2,h1,h2]
 constructor
 ·rintro ⟨q1,_,q2⟩
  refine ⟨?_,?_,?_⟩
  ·by_cases f:ZS (kb,kc)<0
   ·exact q1 0 _ _ (by decide) rfl rfl f
   ·exact q2 0 _ _ (by decide) rfl rfl f
  ·by_cases f:ZS (kc,ka)<0
   ·exact q1 1 _ _ (by decide) rfl rfl f
   ·exact q2 1 _ _ (by decide) rfl rfl f
  ·by_cases f:ZS (ka,kb)<0
   ·exact q1 2 _ _ (by decide) rfl rfl f
   ·exact q2 2 _ _ (by decide) rfl rfl f
 ·rintro ⟨a0,a1,a2⟩
  have all:∀ (n:Nat) (e:Co×Co) (s:Int),n<3→(es3 ka kb kc)[n]?=some e→(ss3 ka kb kc (16*(j:Int)+8))[n]?=some s→okE e s i:=by
   intro n e s hn he hs
   match n,hn,he,hs with
   | 0,_,he,hs=>cases he;cases hs;exact a0
   | 1,_,he,hs=>cases he;cases hs;exact a1
   | 2,_,he,hs=>cases he;cases hs;exact a2
  exact ⟨fun n e s hn he hs _=>all n e s hn he hs,by omega,fun n e s hn he hs _=>all n e s hn he hs⟩
theorem XJ {a b:Co}{x y:Int}(oa:Jm a) (ob:Jm b) (hx:x.natAbs≤6000) (hy:y.natAbs≤6000):(Sb20.edge a b x y).natAbs≤2^31:=by
 unfold Sb20.edge
 have h1:((b.x-a.x)*(y-a.y)).natAbs≤18000*18000:=by
  rw [Int.natAbs_mul]
  have p:=oa.1;have q:=ob.1
  exact Nat.mul_le_mul (by omega) (by omega)
 have h2:((b.y-a.y)*(x-a.x)).natAbs≤18000*18000:=by
  rw [Int.natAbs_mul]
  have p:=oa.1;have q:=ob.1
  exact Nat.mul_le_mul (by omega) (by omega)
 omega
theorem XN {n:Int}(h:0<n):0<Sb20.rounded n 1:=by
 have:=YB (a:=n) (b:=1) (k:=0) (by decide) (by show ((1:Nat):Int)≤n;omega)
 have e:((2^0:Nat):Int)=1:=rfl
 omega
theorem ZbW {ka kb kc:Co}{e:Int}(hn:0<Sb20.area ka kb kc) (he:e.natAbs≤2^31):Bd 190 (share ka kb kc e):=by
 unfold share
 rw [Zdm _ _ (XN hn)]
 have h1:Bd (32+2) (Sb20.rounded e 1):=Bd.rounded (k:=32) (by decide) (by rw [Nat.mul_one];exact Nat.lt_of_le_of_lt he (by decide))
 exact (Bd.sdiv h1 (Int.ne_of_gt (XN hn))).mono (by decide)
theorem Zjd {ka kb kc:Co}{e:Int}(hn:0<Sb20.area ka kb kc):Sb20.div (Sb20.rounded e 1) (Sb20.rounded (Sb20.area ka kb kc) 1)=share ka kb kc e:=(Zdm _ _ (XN hn)).symm
theorem ZlX {ka kb kc:Co}{i j:Int}(oa:Jm ka) (ob:Jm kb) (oc:Jm kc) (hn:0<Sb20.area ka kb kc) (h:JA ka kb kc i j):0<Sb20.blend (ZbX ka kb kc i j) (ZbT ka kb kc i j) (Zcc ka kb kc i j) ka.r kb.r kc.r:=by
 obtain ⟨h0,h1,h2⟩:=h
 have l0:=Qx kb kc
 have l1:=Qx kc ka
 have l2:=Qx ka kb
 have:=Zie (e0:=Sb20.edge kb kc (16*i+8) (16*j+8)) (e1:=Sb20.edge kc ka (16*i+8) (16*j+8)) (e2:=Sb20.edge ka kb (16*i+8) (16*j+8)) (by omega) (by omega) (by omega) (Zhv ka kb kc _ _) hn oa.2.2.1.1 ob.2.2.1.1 oc.2.2.1.1
 have e:(0:Int)<((2^125:Nat):Int):=by decide
 exact Int.lt_of_lt_of_le e this
theorem ZeZ {how:Nat}{s:Sb20.St}{t:Sb20.Texture}{ka kb kc:Co}{j a b:Nat}(hab:a≤b) (hb:b≤s.w) (hn:∀ i:Nat,a≤i→i<b→¬ JA ka kb kc (i:Int) (j:Int)) :
  Yd how (Sb20.sample s t ka kb kc) s (j*s.w+b)=Yd how (Sb20.sample s t ka kb kc) s (j*s.w+a):=by
 refine Xv (by omega) fun k h1 h2=>?_
 have hk:k=j*s.w+(k-j*s.w):=by omega
 have hlt:k-j*s.w<s.w:=by omega
 have e1:k % s.w=k-j*s.w:=by rw [hk,Nat.add_comm,Nat.add_mul_mod_self_right,Nat.mod_eq_of_lt hlt];omega
 have e2:k / s.w=j:=by rw [hk,Nat.add_comm,Nat.add_mul_div_right _ _ (by omega),Nat.div_eq_of_lt hlt];omega
 rw [e1,e2]
 exact ZfM (hn _ (by omega) (by omega))
theorem Zjf {how:Nat}{s:Sb20.St}{t:Sb20.Texture}{ka kb kc:Co}{i j:Nat}(hi:i<s.w) (hin:JA ka kb kc (i:Int) (j:Int)) :
  Yd how (Sb20.sample s t ka kb kc) s (j*s.w+i+1)=((YI how (Yd how (Sb20.sample s t ka kb kc) s (j*s.w+i)).1 (j*s.w+i) (zOf ka kb kc i j) (pOf s.fog t ka kb kc i j)).1,
   (Yd how (Sb20.sample s t ka kb kc) s (j*s.w+i)).2+(YI how (Yd how (Sb20.sample s t ka kb kc) s (j*s.w+i)).1 (j*s.w+i) (zOf ka kb kc i j) (pOf s.fog t ka kb kc i j)).2):=by
 refine ZcT ?_
 have e1:(j*s.w+i) % s.w=i:=by rw [Nat.add_comm,Nat.add_mul_mod_self_right,Nat.mod_eq_of_lt hi]
 have e2:(j*s.w+i) / s.w=j:=by rw [Nat.add_comm,Nat.add_mul_div_right _ _ (by omega),Nat.div_eq_of_lt hi,Nat.zero_add]
 rw [e1,e2]
 exact Zhs hin
end Sg
namespace Sg
open PySem PySem.Spec PyProof.Rows L2 LX SbM
section
variable {P:Program}{w:World}{K:PySem.W.Frag}{mg:Str→Option Value}{base:Heap}{RF NT cCv cTx cFg cEg cCo cTr:Addr}
abbrev Ft (way:Nat) (s:Sb20.St) (t:Sb20.Texture) (ka kb kc:Co) (k:Nat):Sb20.St×Nat:=Yd way (Sb20.sample s t ka kb kc) s k
def Zkc (K:PySem.W.Frag) (cCv cFg cTx cEg cCo cTr:Addr):Sp:=fun vs H Q _=>∃ (c tr:Addr) (j:Nat) (ka kb kc:Co) (t:Sb20.Texture) (way:Nat) (d:TrD) (N:Nat) (s:Sb20.St) (cl dl:Addr),vs=[.ref c,.ref tr,.int (j:Nat)]∧Cv K cCv cTx cFg H c N (Ft way s t ka kb kc (j*s.w)).1 cl dl∧ZaL K cTx cEg cCo cTr H [cl,dl] tr ka kb kc t way d∧0<Sb20.area ka kb kc∧(j<s.h∧way<4) ∧
 ∀ (H':Hp) (n:Nat),Kp [cl,dl] H H'→Cv K cCv cTx cFg H' c N (Ft way s t ka kb kc (j*s.w+s.w)).1 cl dl→n+(Ft way s t ka kb kc (j*s.w)).2=(Ft way s t ka kb kc (j*s.w+s.w)).2→Q (.int (n:Nat)) H'
theorem ZeR (F:Df K mg "draw_row" (top 106) ["canvas","triangle","j"])
  (f_place_of:Mth P w K mg base CX0 1 cCv "place_of" ["self","x","y"] (XR cCv))
  (f_side_at_row:Mth P w K mg base CX0 2 cEg "side_at_row" ["self","j"] (Zhd cEg cCo))
  (f_draw_shares:Cal P w K mg base CX0 6 "draw_shares" ["canvas","triangle","place","shares"] (Zmr K cCv cFg cTx cEg cCo cTr))
  (f_first_in_row:Cal P w K mg base CX0 1 "first_in_row" ["edges","sides"] (Zeb K cEg cCo))
  (f_kept_whole:Cal P w K mg base CX0 3 "kept_whole" ["number"] Zbm)
  (f_last_in_row:Cal P w K mg base CX0 1 "last_in_row" ["edges","sides","width"] (ZfK K cEg cCo))
  (f_quotient:Cal P w K mg base CX0 2 "quotient" ["a","b"] Jg)
  (b_range:mg "range"=none)
  (b_zip:mg "zip"=none) (T:Zu K cCv cTx cFg cEg cCo cTr):Cal P w K mg base CX0 7 "draw_row" ["canvas","triangle","j"] (Zkc K cCv cFg cTx cEg cCo cTr):=by
 refine F.okS (N:=["canvas","triangle","j","edges","sides","drawn","i","shares","edge","side"]) fun S f cdv A outer s H vs Q E hr h=>?_
 obtain ⟨c,tr,j,ka,kb,kc,t,way,d,N,s,al,dl,rfl,⟨cd,hv⟩,hT,hn,⟨hj,hw4⟩,k⟩:=h
 refine ⟨_,(Zc (Zl (i:=3) S.nd rfl (Or.inl rfl) (Zo (pv 1) rfl)) (Zc (Zce (i:=4) (own:=[("edge",8)]) rfl S.nd rfl rfl (Jy rfl rfl rfl rfl) (Yu (pv 3)) (show Yj ["canvas","triangle","j","edges","sides","drawn","i","shares","edge","side"] (Zk (top 106)) _ _ from ⟨rfl,by decide +kernel,by decide +kernel,by decide +kernel,by decide +kernel⟩) (fun _ _ _ _ _=>ZO (i:=8) S.nd rfl (Or.inl rfl)) (fun _ _ _ _ _=>ZY) (fun _ _ _ _ _=>(YE f_side_at_row (hr.mono (by decide)) Zi (pv 8) (Za (pv 2) Zb)))) (Zc (Zl (i:=5) S.nd rfl (Or.inl rfl) Zd) (Zc (Xr PassesOwn.never rfl (ZhA rfl b_range (Za (Zg f_first_in_row (hr.mono (by decide)) rfl Zi (Za (pv 3) (Za (pv 4) Zb))) (Za (Zj Yh (Zg f_last_in_row (hr.mono (by decide)) rfl Zi (Za (pv 3) (Za (pv 4) (Za (Zo (pv 0) rfl) Zb)))) Zd) Zb))) (ZO (i:=6) S.nd rfl (Or.inr rfl)) (Zc (Zce (i:=7) (own:=[("edge",8),("side",9)]) rfl S.nd rfl rfl (Jy rfl rfl rfl rfl) (Zep rfl b_zip (Za (pv 3) (Za (pv 4) Zb))) (show Yj ["canvas","triangle","j","edges","sides","drawn","i","shares","edge","side"] (Zk (top 106)) _ _ from ⟨rfl,by decide +kernel,by decide +kernel,by decide +kernel,by decide +kernel⟩) (fun _ _ _ _ _=>Jh (i:=8) (j:=9) rfl S.nd rfl rfl (Or.inl rfl) (Or.inl rfl) (Or.inr rfl) (Or.inr rfl) rfl) (fun _ _ _ _ _=>ZY) (fun _ _ _ _ _=>(Zg f_quotient (hr.mono (by decide)) rfl Zi (Za (Zg f_kept_whole (hr.mono (by decide)) rfl Zi (Za (Zj YK (pv 9) (Zj Xu (Qa (K:=K) (pv 8) rfl rfl) (pv 6))) Zb)) (Za (Qa (K:=K) (pv 1) rfl rfl) Zb))))) (Zf (Zl (i:=5) S.nd rfl (Or.inl rfl) (Zj Yh (pv 5) (Zg f_draw_shares (hr.mono (by decide)) rfl Zi (Za (pv 0) (Za (pv 1) (Za (YE f_place_of (hr.mono (by decide)) Zi (pv 0) (Za (pv 6) (Za (pv 2) Zb))) (Za (pv 7) Zb)))))))))) (Zf (Zm (pv 5))))))),?_⟩
 have cl:=T.Triangle.cl
 have ce:=T.Edge.cl
 obtain ⟨cc0,dd0,ek,lk1,lk2⟩:=Xd way (Sb20.sample s t ka kb kc) s (j*s.w)
 have sw:(Ft way s t ka kb kc (j*s.w)).1.w=s.w:=by show (Yd _ _ _ _).1.w=_;rw [ek]
 have sh:(Ft way s t ka kb kc (j*s.w)).1.h=s.h:=by show (Yd _ _ _ _).1.h=_;rw [ek]
 have hw8:s.w≤256:=by have:=hv.wf.w;rw [sw] at this;exact this
 have hh8:s.h≤256:=by have:=hv.wf.h;rw [sh] at this;exact this
 have oa:=hT.oa
 have ob:=hT.ob
 have oc:=hT.oc
 refine ⟨_,rfl,tr,cTr,d.dx,_,_,rfl,hT.ins,cl,T.Triangle.n_edges,rfl,?_⟩
 refine ⟨_,rfl,d.el,rfl,⟨_,SqL.of hT.el.1⟩,fun D hD=>?_⟩
 refine YM (K:=K) (a:=d.el) (xs:=[.ref d.e1,.ref d.e2,.ref d.e3]) (fun i H'=>H'=upd H D (.lst (((ss3 ka kb kc (16*(j:Int)+8)).take i).map V.int))) rfl ?_ ?_ ?_
 ·rintro i H' _ rfl
  exact (Zh hD).seq (SqL.of hT.el.1)
 ·rintro i v H' hi rfl
  have turn:∀ (x:Addr) (k1 k2:Co),Jd cEg cCo H x k1 k2→(ss3 ka kb kc (16*(j:Int)+8))[i]?=some (Sb20.edge k1 k2 8 (16*(j:Int)+8))→∀ E':XK,
    Zju cEg "side_at_row" (Zhd cEg cCo) [] E' (ZH 8) (ZV (ZH 2) XW) [some (.ref c),some (.ref tr),some (.int (j:Nat)),some (.ref d.el),none,none,none,none,some (.ref x),none] (upd H D (.lst (((ss3 ka kb kc (16*(j:Int)+8)).take i).map V.int))) fun y H4=>∃ acc,H4 D=some (.lst acc)∧acc.length<sizeLine∧upd H4 D (.lst (acc++[y]))=upd H D (.lst (((ss3 ka kb kc (16*(j:Int)+8)).take (i+1)).map V.int)):=by
   intro x k1 k2 hx hk E'
   have hx2:=hx.same (Zh (o:=.lst (((ss3 ka kb kc (16*(j:Int)+8)).take i).map V.int)) hD)
   obtain ⟨edx,ea,eb,ei,_⟩:=id hx2
   refine ⟨_,rfl,x,edx,_,rfl,ei,rfl,_,rfl,x,j,k1,k2,rfl,hx2,by lia,_,Ze,?_,?_⟩
   ·rw [List.length_map,List.length_take]
    exact Nat.lt_of_le_of_lt (Nat.min_le_right _ _) (by show 3<sizeLine;decide)
   ·rw [Yt,take_snoc hk,List.map_append];rfl
  match i,hi with
  | 0,hi=>cases hi;exact ⟨rfl,YG (turn d.e1 kb kc hT.e1 rfl _)⟩
  | 1,hi=>cases hi;exact ⟨rfl,YG (turn d.e2 kc ka hT.e2 rfl _)⟩
  | 2,hi=>cases hi;exact ⟨rfl,YG (turn d.e3 ka kb hT.e3 rfl _)⟩
  | i+3,hi=>simp at hi
 rintro _ rfl
 have sD:=Zh (o:=.lst ((ss3 ka kb kc (16*(j:Int)+8)).map V.int)) hD
 have eD:upd H D (.lst (((ss3 ka kb kc (16*(j:Int)+8)).take ([V.ref d.e1,V.ref d.e2,V.ref d.e3].length)).map V.int))=upd H D (.lst ((ss3 ka kb kc (16*(j:Int)+8)).map V.int)):=rfl
 rw [eD]
 have hD1:upd H D (.lst ((ss3 ka kb kc (16*(j:Int)+8)).map V.int)) D=some (.lst ((ss3 ka kb kc (16*(j:Int)+8)).map V.int)):=Ze
 have nDA:D∉[al,dl]:=by
  intro z
  simp at z
  rcases z with rfl | rfl
  ·rw [hv.cs] at hD;cases hD
  ·rw [hv.ds] at hD;cases hD
 have hv1:=hv.same sD
 have hT1:=hT.same hv.lists sD
 have kp1:=Kp.of_same hv.lists sD
 generalize upd H D (.lst ((ss3 ka kb kc (16*(j:Int)+8)).map V.int))=H1 at *
 have hE1:Zdd cEg cCo H1 [d.e1,d.e2,d.e3] (es3 ka kb kc):=by
  refine ⟨rfl,fun i a e h1 h2=>?_⟩
  match i,h1,h2 with
  | 0,h1,h2=>cases h1;cases h2;exact hT1.e1
  | 1,h1,h2=>cases h1;cases h2;exact hT1.e2
  | 2,h1,h2=>cases h1;cases h2;exact hT1.e3
  | i+3,h1,h2=>simp at h1
 have sbd:∀ x∈ss3 ka kb kc (16*(j:Int)+8),x.natAbs≤2^35:=by
  intro x hx
  have hy:(16*(j:Int)+8).natAbs≤6000:=by lia
  simp [ss3] at hx
  rcases hx with rfl | rfl | rfl
  ·exact Nat.le_trans (XJ ob oc (by decide) hy) (by decide)
  ·exact Nat.le_trans (XJ oc oa (by decide) hy) (by decide)
  ·exact Nat.le_trans (XJ oa ob (by decide) hy) (by decide)
 refine ⟨_,rfl,_,rfl,d.el,D,[d.e1,d.e2,d.e3],es3 ka kb kc,ss3 ka kb kc (16*(j:Int)+8),rfl,SqL.of hT1.el.1,SqL.of hD1,hE1,rfl,sbd,fun H2 zf s2 hf=>?_⟩
 have hv2:=hv1.same s2
 have hT2:=hT1.same hv1.lists s2
 refine ⟨_,rfl,_,rfl,_,rfl,c,cCv,cd.dx,_,_,rfl,hv2.ins,T.Canvas.cl,T.Canvas.n_width,rfl,d.el,D,[d.e1,d.e2,d.e3],es3 ka kb kc,ss3 ka kb kc (16*(j:Int)+8),_,rfl,SqL.of hT2.el.1,SqL.of (s2 _ _ hD1),hE1.same s2,rfl,sbd,fun H3 zl s3 hl=>?_⟩
 rw [sw] at hl
 have hv3:=hv2.same s3
 have hD3:=s3 _ _ (s2 _ _ hD1)
 have hT3:=hT2.same hv2.lists s3
 have kp3:=(kp1.trans (Kp.of_same hv1.lists s2)).trans (Kp.of_same hv2.lists s3)
 have zf0:=hf.1
 have zl0:=hl.1
 obtain ⟨z0,rfl⟩:=Int.eq_ofNat_of_zero_le zf0.1
 have rowi:∀ i:Nat,i<s.w→(((z0:Int)≤(i:Int)∧(i:Int)≤zl)↔JA ka kb kc (i:Int) (j:Int)):=fun i hi=>ZkM hf hl (by lia) (by lia)
 have start0:Ft way s t ka kb kc (j*s.w+min z0 s.w)=Ft way s t ka kb kc (j*s.w):=by
  have:=ZeZ (how:=way) (s:=s) (t:=t) (ka:=ka) (kb:=kb) (kc:=kc) (j:=j) (a:=0) (b:=min z0 s.w) (Nat.zero_le _) (Nat.min_le_right _ _) (fun i _ hi=>by
   intro q
   have:=(rowi i (by lia)).mpr q
   lia)
  exact this
 refine ⟨_,_,_,rfl,rfl,rfl,(z0:Int),_,rfl,⟨by lia,by lia,by lia,by lia⟩,Zdl (lo:=(z0:Int)) (n:=(zl+1-(z0:Int)).toNat) (fun n σ H'=>∃ (vi vs:Option V) (dn:Nat),σ=[some (.ref c),some (.ref tr),some (.int (j:Nat)),some (.ref d.el),some (.ref D),some (.int (dn:Nat)),vi,vs,none,none]∧Kp [al,dl] H3 H' ∧
   Cv K cCv cTx cFg H' c N (Ft way s t ka kb kc (j*s.w+min (z0+n) s.w)).1 al dl∧dn+(Ft way s t ka kb kc (j*s.w)).2=(Ft way s t ka kb kc (j*s.w+min (z0+n) s.w)).2) ⟨none,none,0,rfl,Kp.of_same hv3.lists (Zq.refl H3),?_,?_⟩ ?_ ?_⟩
 ·rw [Nat.add_zero,start0];exact ⟨cd,hv3⟩
 ·rw [Nat.add_zero,start0,Nat.zero_add]
 ·rintro n σ H' hlt ⟨vi,vs,dn,rfl,kp,⟨cdi,hvi⟩,hdn⟩
  have hi1:((z0+n:Nat):Int)≤zl:=by lia
  have hiw:z0+n<s.w:=by lia
  have em:min (z0+n) s.w=z0+n:=by lia
  have em1:min (z0+(n+1)) s.w=z0+n+1:=by lia
  have hin:JA ka kb kc ((z0+n:Nat):Int) (j:Int):=(rowi (z0+n) hiw).mp ⟨by lia,hi1⟩
  have ei:(z0:Int)+(n:Int)=((z0+n:Nat):Int):=by lia
  rw [ei]
  rw [em] at hvi hdn
  rw [em1]
  generalize z0+n=i at *
  have hst:=Zjf (how:=way) (s:=s) (t:=t) (ka:=ka) (kb:=kb) (kc:=kc) (j:=j) hiw hin
  have hR:=ZlX oa ob oc hn hin
  have hTi:=hT3.kp kp
  have hDi:=kp.2 _ _ hD3 nDA
  obtain ⟨cc1,dd1,ek1,lj1,lj2⟩:=Xd way (Sb20.sample s t ka kb kc) s (j*s.w+i)
  have sw1:(Ft way s t ka kb kc (j*s.w+i)).1.w=s.w:=by show (Yd _ _ _ _).1.w=_;rw [ek1]
  have sh1:(Ft way s t ka kb kc (j*s.w+i)).1.h=s.h:=by show (Yd _ _ _ _).1.h=_;rw [ek1]
  have sf1:(Ft way s t ka kb kc (j*s.w+i)).1.fog=s.fog:=by show (Yd _ _ _ _).1.fog=_;rw [ek1]
  refine ⟨_,rfl,_,rfl,d.el,D,_,_,rfl,SqL.of hTi.el.1,SqL.of hDi,fun L hL=>?_⟩
  have hx6:(16*(i:Int)+8).natAbs≤6000:=by lia
  have hy6:(16*(j:Int)+8).natAbs≤6000:=by lia
  refine Zjk (K:=K) (a:=d.el) (b:=D) (xs:=[.ref d.e1,.ref d.e2,.ref d.e3]) (ys:=(ss3 ka kb kc (16*(j:Int)+8)).map V.int) (n:=3) (p:=8) (q:=9) (fun m Hm=>Zq H' Hm∧Hm L=some (.lst ((([ZbX ka kb kc i j,ZbT ka kb kc i j,Zcc ka kb kc i j]:List Int).take m).map V.int))) rfl rfl ⟨Zh hL,Ze⟩ ?_ ?_ ?_
  ·rintro m Hm _ ⟨sm',_⟩
   exact ⟨sm'.seq (SqL.of hTi.el.1),sm'.seq (SqL.of hDi)⟩
  ·rintro m Hm Tp x y hm hx hy ⟨sm',eL⟩ hTp
   have nL:L≠Tp:=Zs eL hTp
   have turn:∀ (e:Addr) (k1 k2:Co) (ww:Int),Jd cEg cCo H' e k1 k2→Jm k1→Jm k2→ww=share ka kb kc (Sb20.edge k1 k2 (16*(i:Int)+8) (16*(j:Int)+8))→([ZbX ka kb kc i j,ZbT ka kb kc i j,Zcc ka kb kc i j]:List Int)[m]?=some ww→∀ E1 E2:XK,
     JJ Jg [] E1 (ZV (JJ Zbm [] E2 (ZV (tOp ZiF (ZH 9) (tOp Zlu (Jv K (ZH 8) "fall") (ZH 6))) XW)) (ZV (Jv K (ZH 1) "area") XW)) [some (.ref c),some (.ref tr),some (.int (j:Nat)),some (.ref d.el),some (.ref D),some (.int (dn:Nat)),some (.int (i:Nat)),vs,some (.ref e),some (.int (Sb20.edge k1 k2 8 (16*(j:Int)+8)))]
      (upd Hm Tp (.tup [.ref e,.int (Sb20.edge k1 k2 8 (16*(j:Int)+8))])) fun y H4=>∃ acc,H4 L=some (.lst acc)∧acc.length<sizeLine∧(Zq H' (upd H4 L (.lst (acc++[y])))∧upd H4 L (.lst (acc++[y])) L=some (.lst ((([ZbX ka kb kc i j,ZbT ka kb kc i j,Zcc ka kb kc i j]:List Int).take (m+1)).map V.int))):=by
    intro e k1 k2 ww hed o1 o2 hww hk E1 E2
    have sT:=Zr (o:=.tup [.ref e,.int (Sb20.edge k1 k2 8 (16*(j:Int)+8))]) sm' (sm'.free hTp)
    have eL2:upd Hm Tp (.tup [.ref e,.int (Sb20.edge k1 k2 8 (16*(j:Int)+8))]) L=some (.lst ((([ZbX ka kb kc i j,ZbT ka kb kc i j,Zcc ka kb kc i j]:List Int).take m).map V.int)):=by rw [Zn nL];exact eL
    obtain ⟨edx,ea,eb,ei',_⟩:=hed.same sT
    have hTx:=hTi.same hvi.lists sT
    generalize upd Hm Tp (.tup [.ref e,.int (Sb20.edge k1 k2 8 (16*(j:Int)+8))])=Hq at *
    have fb:(16*(k2.y-k1.y)).natAbs≤1000000:=by have:=o1.1;have:=o2.1;lia
    have ea':Sb20.edge k1 k2 8 (16*(j:Int)+8)-16*(k2.y-k1.y)*((i:Nat):Int)=Sb20.edge k1 k2 (16*(i:Int)+8) (16*(j:Int)+8):=(Zbd k1 k2 i _).symm
    have eb':=XJ o1 o2 hx6 hy6
    have bdr:Bd 1800 (Sb20.rounded (Sb20.edge k1 k2 (16*(i:Int)+8) (16*(j:Int)+8)) 1):=(Bd.rounded (k:=32) (by decide) (by rw [Nat.mul_one];exact Nat.lt_of_le_of_lt eb' (by decide))).mono (by decide)
    have bda:Bd 1800 (Sb20.rounded (Sb20.area ka kb kc) 1):=(Bd.rounded (k:=32) (by decide) (by rw [Nat.mul_one];exact Nat.lt_of_le_of_lt (ZgO oa ob oc) (by decide))).mono (by decide)
    refine ⟨_,rfl,_,rfl,e,cEg,edx,_,_,rfl,ei',ce,T.Edge.n_fall,rfl,_,rfl,_,_,_,rfl,rfl,⟨smI fb,smI (by lia)⟩,rfl,_,_,_,rfl,rfl,ea',_,_,rfl,Nat.lt_of_le_of_lt eb' (by decide),rfl,_,rfl,tr,cTr,d.dx,_,_,rfl,hTx.ins,cl,T.Triangle.n_area,rfl,_,_,ww,rfl,⟨bdr,XN hn,bda⟩,(Zjd hn).trans hww.symm,fun Hz sz=>?_⟩
    refine ⟨_,sz _ _ eL2,?_,Zr (sT.trans sz) hL,?_⟩
    ·rw [List.length_map,List.length_take]
     exact Nat.lt_of_le_of_lt (Nat.min_le_right _ _) (by show 3<sizeLine;decide)
    ·rw [Ze,take_snoc hk,List.map_append];rfl
   match m,hm,hx,hy with
   | 0,_,hx,hy=>cases hx;cases hy;exact ⟨rfl,turn d.e1 kb kc _ hTi.e1 ob oc rfl rfl _ _⟩
   | 1,_,hx,hy=>cases hx;cases hy;exact ⟨rfl,turn d.e2 kc ka _ hTi.e2 oc oa rfl rfl _ _⟩
   | 2,_,hx,hy=>cases hx;cases hy;exact ⟨rfl,turn d.e3 ka kb _ hTi.e3 oa ob rfl rfl _ _⟩
  ·rintro H5 ⟨s5,eL5⟩
   have hv5:=hvi.same s5
   have hT5:=hTi.same hvi.lists s5
   have hS5:Sh K H5 L (ZbX ka kb kc i j) (ZbT ka kb kc i j) (Zcc ka kb kc i j):=⟨SqL.of eL5,ZbW hn (XJ ob oc hx6 hy6),ZbW hn (XJ oc oa hx6 hy6),ZbW hn (XJ oa ob hx6 hy6)⟩
   have ep:(j:Int)*((Ft way s t ka kb kc (j*s.w+i)).1.w:Int)+(i:Int)=((j*s.w+i:Nat):Int):=by rw [sw1,Int.natCast_add,Int.natCast_mul]
   have hplt:j*s.w+i<(Ft way s t ka kb kc (j*s.w+i)).1.w*(Ft way s t ka kb kc (j*s.w+i)).1.h:=by rw [sw1,sh1];exact place_lt hiw hj
   refine ⟨_,rfl,_,rfl,_,rfl,_,rfl,c,cdi.dx,_,rfl,hv5.ins,rfl,_,rfl,_,rfl,c,cdi.dx,_,_,(i:Int),(j:Int),_,rfl,hv5.ins,rfl,⟨by rw [sw1];exact hw8,smI (by lia)⟩,ep,_,rfl,c,tr,L,ka,kb,kc,t,way,d,_,_,_,j*s.w+i,N,_,al,dl,rfl,⟨cdi,hv5⟩,hT5,hS5,hR,⟨hplt,hw4⟩,fun H6 kp6 hv6=>?_⟩
   have e1:YI way (Ft way s t ka kb kc (j*s.w+i)).1 (j*s.w+i) (Sb20.blend (ZbX ka kb kc i j) (ZbT ka kb kc i j) (Zcc ka kb kc i j) ka.z kb.z kc.z) (ZbA (Ft way s t ka kb kc (j*s.w+i)).1.fog t ka kb kc (ZbX ka kb kc i j) (ZbT ka kb kc i j) (Zcc ka kb kc i j) (Sb20.blend (ZbX ka kb kc i j) (ZbT ka kb kc i j) (Zcc ka kb kc i j) ka.z kb.z kc.z)) =
     YI way (Ft way s t ka kb kc (j*s.w+i)).1 (j*s.w+i) (zOf ka kb kc i j) (pOf s.fog t ka kb kc i j):=by rw [sf1];rfl
   rw [e1] at hv6 ⊢
   refine ⟨_,_,_,rfl,rfl,rfl,some (.int (i:Nat)),some (.ref L),dn+(YI way (Ft way s t ka kb kc (j*s.w+i)).1 (j*s.w+i) (zOf ka kb kc i j) (pOf s.fog t ka kb kc i j)).2,?_,(kp.trans (Kp.of_same hvi.lists s5)).trans kp6,?_,?_⟩
   ·rw [Int.natCast_add];rfl
   ·rw [← Nat.add_assoc]
    show Cv K cCv cTx cFg H6 c N (Yd _ _ _ _).1 al dl
    rw [hst];exact hv6
   ·rw [← Nat.add_assoc]
    show _=(Yd _ _ _ _).2
    rw [hst]
    show dn+(YI way (Ft way s t ka kb kc (j*s.w+i)).1 (j*s.w+i) (zOf ka kb kc i j) (pOf s.fog t ka kb kc i j)).2+(Ft way s t ka kb kc (j*s.w)).2=(Ft way s t ka kb kc (j*s.w+i)).2+(YI way (Ft way s t ka kb kc (j*s.w+i)).1 (j*s.w+i) (zOf ka kb kc i j) (pOf s.fog t ka kb kc i j)).2
    lia
 ·rintro σ H' ⟨vi,vs,dn,rfl,kp,hvi,hdn⟩
  have ende:Ft way s t ka kb kc (j*s.w+s.w)=Ft way s t ka kb kc (j*s.w+min (z0+(zl+1-(z0:Int)).toNat) s.w):=by
   refine ZeZ (Nat.min_le_right _ _) (Nat.le_refl _) fun i h1 h2 q=>?_
   have:=(rowi i h2).mpr q
   lia
  rw [ende] at k
  exact ⟨_,rfl,k H' dn (kp3.trans kp) hvi hdn⟩
def ZlO (K:PySem.W.Frag) (cCv cFg cTx cCo:Addr):Sp:=fun vs H Q _=>∃ (c ta l:Addr) (how:Nat) (ka kb kc:Co) (t:Sb20.Texture) (N:Nat) (s:Sb20.St) (cl dl:Addr),vs=[.ref c,.ref ta,.int (how:Nat),.ref l]∧Cv K cCv cTx cFg H c N s cl dl∧QW K cTx H [cl,dl] ta t∧Zdi K cCo H l ka kb kc ∧
 ∀ (H':Hp),Kp [cl,dl] H H'→Cv K cCv cTx cFg H' c N (Sb20.triangle s t how ka kb kc).1 cl dl→Q (.int ((Sb20.triangle s t how ka kb kc).2:Nat)) H'
theorem ZhN (a b c:Co):Sb20.area a c b = -Sb20.area a b c:=by
 unfold Sb20.area Sb20.edge
 rw [Int.mul_comm (c.x-a.x),Int.mul_comm (c.y-a.y)]
 lia
theorem Zaw (F:Df K mg "draw_triangle" (top 107) ["canvas","texture","how","corners"])
  (f_Triangle:Mak P w K mg base CX0 4 "Triangle" cTr ["self","corners","texture","how"] (Zbz K cTx cEg cCo cTr))
  (f_area_of:Cal P w K mg base CX0 2 "area_of" ["corners"] (ZdC K cCo))
  (f_draw_row:Cal P w K mg base CX0 7 "draw_row" ["canvas","triangle","j"] (Zkc K cCv cFg cTx cEg cCo cTr))
  (c_ONE_SIDED:Cst mg "ONE_SIDED" (.int 4))
  (b_range:mg "range"=none) (T:Zu K cCv cTx cFg cEg cCo cTr):Cal P w K mg base CX0 8 "draw_triangle" ["canvas","texture","how","corners"] (ZlO K cCv cFg cTx cCo):=by
 refine F.okS (N:=["canvas","texture","how","corners","area","triangle","drawn","j"]) fun S f cdv A outer s H vs Q E hr h=>?_
 obtain ⟨c,ta,l,how,ka,kb,kc,t,N,s,al,dl,rfl,⟨cd,hv⟩,htx,hco,k⟩:=h
 refine ⟨_,(Zc (Zl (i:=4) S.nd rfl (Or.inl rfl) (Zg f_area_of (hr.mono (by decide)) rfl Zi (Za (pv 3) Zb))) (Zc (Yg (PW.pt (ZjP (ZC eqC (pv 4) Zd (ZD _)) (ZfR (PW.pt (Zdy (ZC ltC (pv 4) Zd (ZD _)) (Zba (ZC geC (pv 2) (Zp c_ONE_SIDED rfl) (ZD _)))))))) (Zf (Zm Zd)) ZJ) (Zc (Yg (ZC ltC (pv 4) Zd (ZD _)) (Zf (Zl (i:=3) S.nd rfl (Or.inl rfl) (ZL (Za (Zt (r:=ZE K) ixK (pv 3) Zd (fun _ _=>rfl)) (Za (Zt (r:=ZE K) ixK (pv 3) Zd (fun _ _=>rfl)) (Za (Zt (r:=ZE K) ixK (pv 3) Zd (fun _ _=>rfl)) Zb)))))) ZJ) (Zc (Zl (i:=5) S.nd rfl (Or.inl rfl) (Jf f_Triangle (hr.mono (by decide)) rfl Zi (Za (pv 3) (Za (pv 1) (Za (pv 2) Zb))))) (Zc (Zl (i:=6) S.nd rfl (Or.inl rfl) Zd) (Zc (Xr PassesOwn.never rfl (ZhS rfl b_range (Za (Zo (pv 0) rfl) Zb)) (ZO (i:=7) S.nd rfl (Or.inl rfl)) (Zf (Zl (i:=6) S.nd rfl (Or.inl rfl) (Zj Yh (pv 6) (Zg f_draw_row (hr.mono (by decide)) rfl Zi (Za (pv 0) (Za (pv 5) (Za (pv 7) Zb)))))))) (Zf (Zm (pv 6))))))))),?_⟩
 have k0:=Kp.of_same hv.lists (Zq.refl H)
 refine ⟨_,rfl,l,ka,kb,kc,rfl,hco,?_⟩
 have main:∀ (l':Addr) (k1 k2 k3:Co) (H0:Hp) (va:V),Zq H H0→Zdi K cCo H0 l' k1 k2 k3→0<Sb20.area k1 k2 k3→Sb20.triangle s t how ka kb kc=Sb20.over (how % 4) (Sb20.sample s t k1 k2 k3) s→∀ E1 E2:XK,
   ZbI (JQ (ZcK cTr (Zbz K cTx cEg cCo cTr) [] E1 (ZV (ZH 3) (ZV (ZH 1) (ZV (ZH 2) XW)))) (YF 5)) (ZbI (JQ (tC (.int 0)) (YF 6)) (ZbI (ZmR (Zjc (ZV (Jv K (ZH 0) "height") XW)) (YF 7) (JQ (tOp ZgP (ZH 6) (JJ (Zkc K cCv cFg cTx cEg cCo cTr) [] E2 (ZV (ZH 0) (ZV (ZH 5) (ZV (ZH 7) XW))))) (YF 6))) (ZcF (ZH 6))))
    { nx:=fun _ H'=>Q .non H',rt:=Q } [some (.ref c),some (.ref ta),some (.int (how:Nat)),some (.ref l'),some va,none,none,none] H0:=by
  intro l' k1 k2 k3 H0 va s0 hco0 hpos etri E1 E2
  have hv0:=hv.same s0
  have htx0:=htx.kp (Kp.of_same hv.lists s0)
  refine ⟨_,rfl,_,rfl,_,rfl,fun x dx nx nd ne=>?_⟩
  have sX:Zq H0 (upd (upd H0 dx (.own x)) x (.ins cTr dx [])):=Zr (Zh nd) nx
  have hvX:=hv0.same sX
  have nta:ta≠x:=fun z=>by
   obtain ⟨d1,tl,ps,i1,_⟩:=htx0
   rw [z,nx] at i1;cases i1
  have hcoX:Zdi K cCo (upd (upd H0 dx (.own x)) x (.ins cTr dx [])) l' k1 k2 k3:=by
   obtain ⟨a,b,cc,h1,h2,h3,h4⟩:=hco0
   exact ⟨a,b,cc,sX.seq h1,h2.same sX,h3.same sX,h4.same sX⟩
  refine ⟨x,dx,l',ta,how,k1,k2,k3,t,[al,dl],rfl,Ze,hcoX,htx0.kp (Kp.of_same hv0.lists sX),hvX.lists,nta,fun H1 d hT1 r1=>⟨rfl,?_⟩⟩
  have S1:Zq H0 H1:=XH nx nd r1
  have hv1:=hv0.same S1
  have hw:=hv.wf
  have hh8:=hw.h
  refine ⟨_,rfl,c,cCv,cd.dx,_,_,rfl,hv1.ins,T.Canvas.cl,T.Canvas.n_height,rfl,_,rfl,by lia,by lia,?_⟩
  rw [Int.toNat_natCast]
  refine Zdl (lo:=0) (n:=s.h) (fun j σ H'=>∃ v7:Option V,σ=[some (.ref c),some (.ref ta),some (.int (how:Nat)),some (.ref l'),some va,some (.ref x),some (.int ((Ft (how % 4) s t k1 k2 k3 (j*s.w)).2:Nat)),v7]∧Kp [al,dl] H1 H'∧Cv K cCv cTx cFg H' c N (Ft (how % 4) s t k1 k2 k3 (j*s.w)).1 al dl) ⟨none,?_,Kp.of_same hv1.lists (Zq.refl H1),?_⟩ ?_ ?_
  ·rw [Nat.zero_mul];rfl
  ·rw [Nat.zero_mul];exact ⟨cd,hv1⟩
  ·rintro j σ H' hj ⟨v7,rfl,kp,hvj⟩
   have e0:(0:Int)+(j:Int)=(j:Int):=by lia
   rw [e0]
   refine ⟨_,rfl,_,rfl,_,rfl,_,rfl,c,x,j,k1,k2,k3,t,how % 4,d,N,s,al,dl,rfl,hvj,hT1.kp kp,hpos,⟨hj,Nat.mod_lt _ (by decide)⟩,fun H2 n kp2 hv2 hn2=>?_⟩
   have ej:(j+1)*s.w=j*s.w+s.w:=by rw [Nat.add_mul,Nat.one_mul]
   refine ⟨_,_,_,rfl,rfl,rfl,some (.int (j:Nat)),?_,kp.trans kp2,?_⟩
   ·rw [ej,← hn2,Nat.add_comm n,Int.natCast_add];rfl
   ·rw [ej];exact hv2
  ·rintro σ H' ⟨v7,rfl,kp,hvj⟩
   have efin:Ft (how % 4) s t k1 k2 k3 (s.h*s.w)=Sb20.triangle s t how ka kb kc:=by
    rw [etri,ZbM,Nat.mul_comm]
   rw [efin] at hvj ⊢
   exact ⟨_,rfl,k H' (((Kp.of_same hv.lists s0).trans (Kp.of_same hv0.lists S1)).trans kp) hvj⟩
 have nothing:(Sb20.area ka kb kc=0∨(4≤how∧Sb20.area ka kb kc<0))→Q (.int ((0:Nat):Int)) H:=fun q=>by
  have e:Sb20.triangle s t how ka kb kc=(s,0):=by unfold Sb20.triangle;rw [if_pos q]
  rw [e] at k
  exact k H k0 ⟨cd,hv⟩
 have goes:¬ (Sb20.area ka kb kc=0∨(4≤how∧Sb20.area ka kb kc<0))→∀ E1 E2:XK,ZbI (Zmo (Zfd (tOp ZnD (ZH 4) (tC (.int 0)))) (JQ (ZkO (ZV (tOp (ZE K) (ZH 3) (tC (.int 0))) (ZV (tOp (ZE K) (ZH 3) (tC (.int 2))) (ZV (tOp (ZE K) (ZH 3) (tC (.int 1))) XW)))) (YF 3)) ZjU)
   (ZbI (JQ (ZcK cTr (Zbz K cTx cEg cCo cTr) [] E1 (ZV (ZH 3) (ZV (ZH 1) (ZV (ZH 2) XW)))) (YF 5)) (ZbI (JQ (tC (.int 0)) (YF 6)) (ZbI (ZmR (Zjc (ZV (Jv K (ZH 0) "height") XW)) (YF 7) (JQ (tOp ZgP (ZH 6) (JJ (Zkc K cCv cFg cTx cEg cCo cTr) [] E2 (ZV (ZH 0) (ZV (ZH 5) (ZV (ZH 7) XW))))) (YF 6))) (ZcF (ZH 6)))))
   { nx:=fun _ H'=>Q .non H',rt:=Q } [some (.ref c),some (.ref ta),some (.int (how:Nat)),some (.ref l),some (.int (Sb20.area ka kb kc)),none,none,none] H:=by
  intro hno E1 E2
  refine ⟨_,rfl,_,_,rfl,rfl,fun b1 h1=>⟨_,rfl,Ye (fun c1=>?_) fun c1=>?_⟩⟩
  ·have hneg:=h1.mp c1
   obtain ⟨a,b,cc,hl,ha,hb,hc⟩:=hco
   refine ⟨_,rfl,l,_,_,_,rfl,rfl,hl,rfl,_,rfl,l,_,_,_,rfl,rfl,hl,rfl,_,rfl,l,_,_,_,rfl,rfl,hl,rfl,(by show 3≤sizeLine;decide),fun l2 nl2=>?_⟩
   have sL:=Zh (o:=.lst [.ref a,.ref cc,.ref b]) nl2
   refine main l2 ka kc kb _ _ sL ⟨a,cc,b,SqL.of Ze,ha.same sL,hc.same sL,hb.same sL⟩ (by rw [ZhN];lia) ?_ E1 E2
   unfold Sb20.triangle
   rw [if_neg hno,if_pos hneg]
  ·have hge:¬ Sb20.area ka kb kc<0:=fun z=>c1 (h1.mpr z)
   refine main l ka kb kc H _ (Zq.refl H) hco (by lia) ?_ E1 E2
   unfold Sb20.triangle
   rw [if_neg hno,if_neg hge]
 refine ⟨_,rfl,_,_,rfl,rfl,fun b1 h1=>⟨_,rfl,Ye (fun c1=>?_) fun c1=>?_⟩⟩
 ·exact Zjw (nothing (.inl (h1.mp c1)))
 ·have n1:¬ Sb20.area ka kb kc=0:=fun z=>c1 (h1.mpr z)
  refine ⟨_,rfl,_,_,rfl,rfl,fun b2 h2=>⟨_,rfl,Ye (fun c2=>?_) fun c2=>?_⟩⟩
  ·have hneg:=h2.mp c2
   refine ⟨_,rfl,_,_,rfl,rfl,fun b3 h3=>⟨_,rfl,Ye (fun c3=>?_) fun c3=>?_⟩⟩
   ·have h4:=h3.mp c3
    exact nothing (.inr ⟨by lia,hneg⟩)
   ·have h4:¬ (4:Int)≤(how:Nat):=fun z=>c3 (h3.mpr z)
    exact goes (by lia) _ _
  ·have hge:¬ Sb20.area ka kb kc<0:=fun z=>c2 (h2.mpr z)
   exact ZfI (goes (by lia) _ _)
end
end Sg
namespace Sg
open PySem PySem.Spec PyProof.Rows L2 LX SbM
def Kc (c:Addr) (H H1:Hp):Prop:=∀ b o,H b=some o→b≠c→H1 b=some o
theorem Zly {C C' dx dx':Addr}{fs gs:List (Str×V)}(h:fs.length≠gs.length):HO.ins C dx fs≠HO.ins C' dx' gs:=fun z=>h (congrArg List.length (HO.ins.inj z).2.2)
section
variable {K:PySem.W.Frag}{cCv cTx cFg:Addr}{H H1:Hp}{c:Addr}{dx:Addr}{fs:List (Str×V)}
theorem Kc.other (k:Kc c H H1) (hc:H c=some (.ins cCv dx fs)){b:Addr}{o:HO}(h:H b=some o) (n:∀ C d f,o≠.ins C d f):H1 b=some o:=k _ _ h (Xm h hc (n _ _ _))
theorem Kc.seqT (k:Kc c H H1) (hc:H c=some (.ins cCv dx fs)){b:Addr}{xs:List V}(h:SqT K H b xs):SqT K H1 b xs:=by
 rcases h with (h | ⟨o,h⟩) | h
 ·exact .inl (.inl (k.other hc h fun _ _ _ z=>by cases z))
 ·exact .inl (.inr ⟨o,k.other hc h fun _ _ _ z=>by cases z⟩)
 ·exact .inr h
theorem Kc.pxs (k:Kc c H H1) (hc:H c=some (.ins cCv dx fs)){as:List Addr}{ps:List Px}(h:Zw K H as ps):Zw K H1 as ps:=⟨h.1,fun i a p h1 h2=>⟨k.seqT hc (h.2 i a p h1 h2).1,(h.2 i a p h1 h2).2⟩⟩
theorem Kc.tx (k:Kc c H H1) (hc:H c=some (.ins cCv dx fs)) (hl:fs.length=9){A B:List Addr}{ta:Addr}{t:Sb20.Texture}(h:QW K cTx H A ta t) (hB:∀ (x:Addr) (xs:List V),H x=some (.lst xs)→x∉A→x∉B):QW K cTx H1 B ta t:=by
 obtain ⟨tdx,tl,as,h1,h2,h3,h4,h5,h6⟩:=h
 exact ⟨tdx,tl,as,k _ _ h1 (Xm h1 hc (Zly (by rw [hl];show (3:Nat)≠9;decide))),k.other hc h2 (fun _ _ _ z=>by cases z),hB _ _ h2 h3,k.pxs hc h4,h5,h6⟩
theorem Kc.fog (k:Kc c H H1) (hc:H c=some (.ins cCv dx fs)) (hl:fs.length=9){v:V}{f:Option Sb20.Fog}(h:Xi K cFg H v f):Xi K cFg H1 v f:=by
 cases f with
 | none=>exact h
 | some f =>
  obtain ⟨fa,fdx,ct,h1,h2,h3,h4⟩:=h
  exact ⟨fa,fdx,ct,h1,k _ _ h2 (Xm h2 hc (Zly (by rw [hl];show (3:Nat)≠9;decide))),⟨k.seqT hc h3.1,h3.2⟩,h4⟩
theorem Kc.lst (k:Kc c H H1) (hc:H c=some (.ins cCv dx fs)){A B:List Addr}{m:Addr}{ms:List Int}{n:Nat}(h:LstAt H A m ms n) (hB:∀ (x:Addr) (xs:List V),H x=some (.lst xs)→x∉A→x∉B):LstAt H1 B m ms n :=
 ⟨k.other hc h.1 (fun _ _ _ z=>by cases z),hB _ _ h.1 h.2.1,h.2.2⟩
variable {N:Nat}{s:Sb20.St}{cl dl:Addr}{d:CvD}
theorem YZ.Zls (h:YZ K cCv cTx cFg H c N s cl dl d) (k:Kc c H H1){cl':Addr}{as':List Addr}{cs:List Px}(fr:H cl'=none) (hc1:H1 c=some (.ins cCv d.dx (YY (.int (s.w:Nat)) (.int (s.h:Nat)) (.ref cl') (.ref dl) (.ref d.tx) (.ref d.mx) (.ref d.vw) (.ref d.lt) d.fg)))
  (e1:H1 cl'=some (.lst (as'.map V.ref))) (px:Zw K H1 as' cs) (len:cs.length=s.colours.length):YZ K cCv cTx cFg H1 c N { s with colours:=cs } cl' dl { d with as:=as' }:=by
 have hB:∀ (x:Addr) (xs:List V),H x=some (.lst xs)→x∉[cl,dl]→x∉[cl',dl]:=fun x xs e n z=>by
  simp at z n
  rcases z with rfl | rfl
  ·rw [fr] at e;cases e
  ·exact n.2 rfl
 have hl:(YY (.int (s.w:Nat)) (.int (s.h:Nat)) (.ref cl) (.ref dl) (.ref d.tx) (.ref d.mx) (.ref d.vw) (.ref d.lt) d.fg).length=9:=rfl
 exact ⟨hc1,e1,px,k.other h.ins h.ds (fun _ _ _ z=>by cases z),(fun z=>by rw [z,h.ds] at fr;cases fr),k.other h.ins h.tx (fun _ _ _ z=>by cases z),h.tn,(fun j hj=>by
   have:=h.ta j hj
   show match s.texture j with | none=>_ | some t=>_
   revert this
   cases s.texture j with
   | none=>exact id
   | some t=>rintro ⟨a,h1,h2⟩;exact ⟨a,h1,k.tx h.ins hl h2 hB⟩),k.lst h.ins h.mx hB,k.lst h.ins h.vw hB,k.lst h.ins h.lt hB,k.fog h.ins hl h.fg,⟨h.wf.w,h.wf.h,len.trans h.wf.cl,h.wf.dl,h.wf.tl⟩⟩
end
theorem ZiR {n k:Nat}(hk:0<k) (h:k≤n):HT.sIx n 0 (some (-(k:Int)))=n-k:=by
 show (if -(k:Int)<0 then (-(k:Int)+(n:Int)).toNat else _)=_
 rw [if_pos (by lia)];lia
theorem ZeM {xs:List V}{k:Nat}(hk:0<k) (h:k≤xs.length):YV xs (some (-(k:Int))) none=xs.drop (xs.length-k):=by
 unfold YV
 rw [ZiR hk h,HT.ZeN,List.take_of_length_le (by rw [List.length_drop];lia)]
theorem Zw.sub {K:PySem.W.Frag}{H:Hp}{as:List Addr}{ps:List Px}(h:Zw K H as ps) (i:Nat):Zw K H (as.drop i) (ps.drop i):=by
 refine ⟨by rw [List.length_drop,List.length_drop,h.1],fun j a p h1 h2=>?_⟩
 rw [List.getElem?_drop] at h1 h2
 exact h.2 _ _ _ h1 h2
theorem Zw.tak {K:PySem.W.Frag}{H:Hp}{as:List Addr}{ps:List Px}(h:Zw K H as ps) (i:Nat):Zw K H (as.take i) (ps.take i):=by
 refine ⟨by rw [List.length_take,List.length_take,h.1],fun j a p h1 h2=>?_⟩
 rw [List.getElem?_take] at h1 h2
 split at h1
 ·rename_i hj
  rw [if_pos hj] at h2
  exact h.2 _ _ _ h1 h2
 ·cases h1
theorem Zw.app {K:PySem.W.Frag}{H:Hp}{as bs:List Addr}{ps qs:List Px}(h:Zw K H as ps) (g:Zw K H bs qs):Zw K H (as++bs) (ps++qs):=by
 refine ⟨by rw [List.length_append,List.length_append,h.1,g.1],fun i b q h1 h2=>?_⟩
 by_cases hi:i<as.length
 ·rw [List.getElem?_append_left hi] at h1
  rw [List.getElem?_append_left (by rw [← h.1];exact hi)] at h2
  exact h.2 i b q h1 h2
 ·rw [List.getElem?_append_right (by lia)] at h1
  rw [List.getElem?_append_right (by rw [← h.1];lia),← h.1] at h2
  exact g.2 _ _ _ h1 h2
abbrev Xn (p q:Px):Px:=Sb20.Px.zip Sb20.mean p q
section
variable {P:Program}{w:World}{K:PySem.W.Frag}{mg:Str→Option Value}{base:Heap}{RF NT cCv cTx cFg cEg cCo cTr:Addr}
theorem Zgi {as:List Addr}{i:Nat}{v:V}(h:(as.map V.ref)[i]?=some v):∃ b,as[i]?=some b∧v=V.ref b:=by
 rw [List.getElem?_map] at h
 cases e:as[i]? with
 | none=>rw [e] at h;cases h
 | some b=>rw [e] at h;exact ⟨b,rfl,(Option.some.inj h).symm⟩
theorem ZgF {H Hm H4:Hp}{D t:Addr}{cs:List Addr}{ps:List Px}{p:Px}(hm:Zq Hm H4) (eD:Hm D=some (.lst (cs.map V.ref))) (hp:Zw K Hm cs ps) (ht:Yr K H4 t p) (s:Zq H Hm) (hD:H D=none) :
  Zq H (upd H4 D (.lst (cs.map V.ref++[V.ref t])))∧upd H4 D (.lst (cs.map V.ref++[V.ref t])) D=some (.lst ((cs++[t]).map V.ref))∧Zw K (upd H4 D (.lst (cs.map V.ref++[V.ref t]))) (cs++[t]) (ps++[p]):=by
 have kp:Kp [D] H4 (upd H4 D (.lst (cs.map V.ref++[V.ref t]))):=⟨fun b hb=>by simp at hb;subst hb;exact ⟨_,hm _ _ eD⟩,fun b o e n=>by rw [Zn (fun q=>n (by simp [q]))];exact e⟩
 refine ⟨Zr (s.trans hm) hD,by rw [Ze,List.map_append];rfl,Zw.snoc (kp.pxs (hp.same hm)) (kp.px ht)⟩
def ZfH (K:PySem.W.Frag) (cCv cTx cFg:Addr):Sp:=fun vs H Q _=>∃ (c t:Addr) (p:Px) (by_:Nat) (N:Nat) (s:Sb20.St) (cl dl:Addr),vs=[.ref c,.ref t,.int (by_:Nat)]∧Cv K cCv cTx cFg H c N s cl dl∧Yr K H t p∧by_≤128 ∧
 ∀ (H':Hp) (cl':Addr),Kc c H H'→H cl'=none→Cv K cCv cTx cFg H' c N { s with colours:=s.colours.map fun q=>Sb20.Px.zip (Sb20.mixed by_) q p } cl' dl→Q .non H'
theorem ZaP (F:Df K mg "fade_colours" (top 65) ["canvas","colour","by"])
  (f_mixed_colour:Cal P w K mg base CX0 2 "mixed_colour" ["x","y","k"] (ZiE K)) (T:Zu K cCv cTx cFg cEg cCo cTr):Cal P w K mg base CX0 3 "fade_colours" ["canvas","colour","by"] (ZfH K cCv cTx cFg):=by
 refine F.okS (N:=["canvas","colour","by","old"]) fun S f cdv A outer s H vs Q E hr h=>?_
 obtain ⟨c,t,p,by',N,s,al,dl,rfl,⟨d,hv⟩,ht,hb,k⟩:=h
 refine ⟨_,(Zf (Zy (pv 0) (Qg (own:=[("old",3)]) rfl S.nd (Yu (Zo (pv 0) rfl)) (show Yj ["canvas","colour","by","old"] (Zk (top 65)) _ _ from ⟨rfl,by decide +kernel,by decide +kernel,by decide +kernel,by decide +kernel⟩) (fun _ _ _ _ _=>ZO (i:=3) S.nd rfl (Or.inl rfl)) (fun _ _ _ _ _=>ZY) (fun _ _ _ _ _=>(Zg f_mixed_colour (hr.mono (by decide)) rfl Zi (Za (pv 3) (Za (pv 1) (Za (pv 2) Zb)))))) rfl)),?_⟩
 have cl:=T.Canvas.cl
 refine ⟨_,rfl,c,cCv,d.dx,_,_,rfl,hv.ins,cl,T.Canvas.n_colours,rfl,al,rfl,⟨_,SqL.of hv.cs⟩,fun D hD=>?_⟩
 have hlen:d.as.length≤65536:=by rw [hv.px.1,hv.wf.cl];exact Nat.le_trans (Nat.mul_le_mul hv.wf.w hv.wf.h) (by decide)
 refine YM (K:=K) (a:=al) (xs:=d.as.map V.ref) (fun i Hm=>∃ cs:List Addr,Zq H Hm∧Hm D=some (.lst (cs.map V.ref))∧cs.length=i∧Zw K Hm cs ((s.colours.map fun q=>Sb20.Px.zip (Sb20.mixed by') q p).take i)) ⟨[],Zh hD,Ze,rfl,Zw.nil⟩ ?_ ?_ ?_
 ·rintro i Hm _ ⟨cs,s1,_⟩
  exact s1.seq (SqL.of hv.cs)
 ·rintro i v Hm hi ⟨cs,s1,eD,hl,hP⟩
  obtain ⟨b,hb',rfl⟩:=Zgi hi
  have hil:i<s.colours.length:=by rw [← hv.px.1];exact (List.getElem?_eq_some_iff.mp hb').1
  have hc:s.colours[i]?=some s.colours[i]:=List.getElem?_eq_getElem hil
  have hbp:=(hv.px.2 i b _ hb' hc).same s1
  refine ⟨rfl,YG ⟨_,rfl,_,rfl,_,rfl,b,t,_,p,by',rfl,hbp,ht.same s1,hb,fun H4 t4 s4 n4 e4=>?_⟩⟩
  obtain ⟨g1,g2,g3⟩:=ZgF (p:=Sb20.Px.zip (Sb20.mixed by') s.colours[i] p) s4 eD hP ⟨SqT.of e4,ZbG hbp.2 ht.2 hb⟩ s1 hD
  refine ⟨_,s4 _ _ eD,?_,cs++[t4],g1,g2,by rw [List.length_append,hl];rfl,?_⟩
  ·rw [List.length_map,hl]
   exact Nat.lt_of_lt_of_le (show i<16777216 by have:=hv.px.1;lia) (by decide)
  ·rw [take_snoc (x:=Sb20.Px.zip (Sb20.mixed by') s.colours[i] p) (by rw [List.getElem?_map,hc];rfl)]
   exact g3
 ·rintro Hm ⟨cs,s1,eD,hl,hP⟩
  rw [List.length_map,hv.px.1,List.take_of_length_le (by rw [List.length_map];exact Nat.le_refl _)] at hP
  have nDc:D≠c:=fun z=>by rw [z,hv.ins] at hD;cases hD
  refine ⟨_,rfl,c,cCv,d.dx,_,rfl,s1 _ _ hv.ins,cl,T.Canvas.n_colours,Yx,Zx fun H2 c2 k2=>?_⟩
  have kc:Kc c H H2:=fun b o e n=>k2 _ _ (s1 _ _ e) n
  have kc2:Kc c Hm H2:=k2
  exact k H2 D kc hD ⟨_,hv.Zls kc hD c2 (k2 _ _ eD nDc) (kc2.pxs (s1 _ _ hv.ins) hP) (by rw [List.length_map])⟩
def ZdW (K:PySem.W.Frag):Sp:=fun vs H Q _=>∃ (a b:Addr) (as bs:List Addr) (ps qs:List Px),vs=[.ref a,.ref b]∧SqL K H a (as.map V.ref)∧SqL K H b (bs.map V.ref)∧Zw K H as ps∧Zw K H bs qs∧ps.length=qs.length∧ps.length≤65536 ∧
 ∀ (H':Hp) (l:Addr) (cs:List Addr),Zq H H'→H l=none→H' l=some (.lst (cs.map V.ref))→Zw K H' cs (List.zipWith Xn ps qs)→Q (.ref l) H'
theorem Ziv (F:Df K mg "means" (top 66) ["first","second"])
  (f_mean_colour:Cal P w K mg base CX0 1 "mean_colour" ["x","y"] (ZjY K))
  (b_zip:mg "zip"=none):Cal P w K mg base CX0 2 "means" ["first","second"] (ZdW K):=by
 refine F.okS (N:=["first","second","x","y"]) fun S f cdv A outer s H vs Q E hr h=>?_
 obtain ⟨a,b,as,bs,ps,qs,rfl,ha,hb,hP,hQ,hl,h16,k⟩:=h
 refine ⟨_,(Zf (Zm (Qg (own:=[("x",2),("y",3)]) rfl S.nd (Zep rfl b_zip (Za (pv 0) (Za (pv 1) Zb))) (show Yj ["first","second","x","y"] (Zk (top 66)) _ _ from ⟨rfl,by decide +kernel,by decide +kernel,by decide +kernel,by decide +kernel⟩) (fun _ _ _ _ _=>Jh (i:=2) (j:=3) rfl S.nd rfl rfl (Or.inl rfl) (Or.inl rfl) (Or.inr rfl) (Or.inr rfl) rfl) (fun _ _ _ _ _=>ZY) (fun _ _ _ _ _=>(Zg f_mean_colour (hr.mono (by decide)) rfl Zi (Za (pv 2) (Za (pv 3) Zb))))))),?_⟩
 refine ⟨_,rfl,_,rfl,a,b,_,_,rfl,ha,hb,fun D hD=>?_⟩
 refine Zjk (K:=K) (a:=a) (b:=b) (xs:=as.map V.ref) (ys:=bs.map V.ref) (n:=ps.length) (p:=2) (q:=3) (fun m Hm=>∃ cs:List Addr,Zq H Hm∧Hm D=some (.lst (cs.map V.ref))∧cs.length=m∧Zw K Hm cs ((List.zipWith Xn ps qs).take m)) (by rw [List.length_map,hP.1]) (by rw [List.length_map,hQ.1,hl]) ⟨[],Zh hD,Ze,rfl,Zw.nil⟩ ?_ ?_ ?_
 ·rintro m Hm _ ⟨cs,s1,_⟩
  exact ⟨s1.seq ha,s1.seq hb⟩
 ·rintro m Hm Tp x y hm hx hy ⟨cs,s1,eD,hcl,hC⟩ hT
  obtain ⟨ax,hax,rfl⟩:=Zgi hx
  obtain ⟨bx,hbx,rfl⟩:=Zgi hy
  have hp:ps[m]?=some ps[m]:=List.getElem?_eq_getElem hm
  have hq:qs[m]?=some (qs[m]'(by lia)):=List.getElem?_eq_getElem (by lia)
  have sT:=Zh (o:=.tup [.ref ax,.ref bx]) hT
  have s2:=s1.trans sT
  have px:=(hP.2 m ax _ hax hp).same s2
  have qx:=(hQ.2 m bx _ hbx hq).same s2
  have eD2:=sT _ _ eD
  refine ⟨rfl,_,rfl,_,rfl,ax,bx,_,_,rfl,px,qx,fun H4 t4 s4 n4 e4=>?_⟩
  obtain ⟨g1,g2,g3⟩:=ZgF (p:=Xn ps[m] (qs[m]'(by lia))) s4 eD2 (hC.same sT) ⟨SqT.of e4,ZhW px.2 qx.2⟩ s2 hD
  refine ⟨_,s4 _ _ eD2,?_,cs++[t4],g1,g2,by rw [List.length_append,hcl];rfl,?_⟩
  ·rw [List.length_map,hcl]
   exact Nat.lt_of_lt_of_le (show m<16777216 by lia) (by decide)
  ·rw [take_snoc (x:=Xn ps[m] (qs[m]'(by lia))) (by rw [List.getElem?_zipWith,hp,hq])]
   exact g3
 ·rintro Hm ⟨cs,s1,eD,hcl,hC⟩
  rw [List.take_of_length_le (by rw [List.length_zipWith];lia)] at hC
  exact k Hm D cs s1 hD eD hC
end
end Sg
namespace Sg
open PySem PySem.Spec PyProof.Rows L2 LX SbM
def Yk (s:Sb20.St):List Px:=(List.range (s.w*s.h)).map fun k=>Xn (s.colour (k % s.w) (k / s.w)) (s.colour (k % s.w+1) (k / s.w))
theorem YA (s:Sb20.St):(Yk s).length=s.w*s.h:=by unfold Yk;rw [List.length_map,List.length_range]
theorem Zao {s:Sb20.St}{i j:Nat}(hi:i<s.w) (hj:j<s.h):(Yk s)[j*s.w+i]?=some (Xn (s.colour i j) (s.colour (i+1) j)):=by
 unfold Yk
 have e1:(j*s.w+i) % s.w=i:=by rw [Nat.add_comm,Nat.add_mul_mod_self_right,Nat.mod_eq_of_lt hi]
 have e2:(j*s.w+i) / s.w=j:=by rw [Nat.add_comm,Nat.add_mul_div_right _ _ (by lia),Nat.div_eq_of_lt hi,Nat.zero_add]
 rw [List.getElem?_map,List.getElem?_range (place_lt hi hj)]
 show some (Xn (s.colour ((j*s.w+i) % s.w) ((j*s.w+i) / s.w)) (s.colour ((j*s.w+i) % s.w+1) ((j*s.w+i) / s.w)))=_
 rw [e1,e2]
theorem Zgo {s:Sb20.St}(hc:s.colours.length=s.w*s.h){n:Nat}(hn:n<s.h) (hw:0<s.w) :
  List.zipWith Xn ((s.colours.drop (n*s.w)).take s.w) (((s.colours.drop (n*s.w)).take s.w).drop 1++((s.colours.drop (n*s.w)).take s.w).drop (s.w-1))=((Yk s).drop (n*s.w)).take s.w:=by
 have hle:n*s.w+s.w≤s.w*s.h:=by
  have:(n+1)*s.w≤s.h*s.w:=Nat.mul_le_mul_right _ hn
  rw [Nat.add_mul,Nat.one_mul] at this
  rw [Nat.mul_comm s.w s.h];exact this
 have hR:∀ i,i<s.w→((s.colours.drop (n*s.w)).take s.w)[i]?=some (s.colours.getD (n*s.w+i) px0):=fun i hi=>by
  rw [List.getElem?_take,if_pos hi,List.getElem?_drop]
  exact at_getD _ (by rw [hc];lia)
 have hRl:((s.colours.drop (n*s.w)).take s.w).length=s.w:=by rw [List.length_take,List.length_drop,hc];lia
 apply List.ext_getElem?
 intro i
 by_cases hi:i<s.w
 ·rw [List.getElem?_zipWith,hR i hi,List.getElem?_take,if_pos hi,List.getElem?_drop,Zao hi hn]
  have e1:s.colour i n=s.colours.getD (n*s.w+i) px0:=by
   unfold Sb20.St.colour
   rw [Nat.min_eq_left (show n≤s.h-1 by lia),Nat.min_eq_left (show i≤s.w-1 by lia)]
  rw [e1]
  by_cases h1:i+1<s.w
  ·have e2:s.colour (i+1) n=s.colours.getD (n*s.w+(i+1)) px0:=by
    unfold Sb20.St.colour
    rw [Nat.min_eq_left (show n≤s.h-1 by lia),Nat.min_eq_left (show i+1≤s.w-1 by lia)]
   rw [e2,List.getElem?_append_left (by rw [List.length_drop,hRl];lia),List.getElem?_drop,Nat.add_comm 1 i,hR (i+1) h1]
  ·have e2:s.colour (i+1) n=s.colours.getD (n*s.w+i) px0:=by
    unfold Sb20.St.colour
    rw [Nat.min_eq_left (show n≤s.h-1 by lia),Nat.min_eq_right (show s.w-1≤i+1 by lia),show s.w-1=i by lia]
   rw [e2,List.getElem?_append_right (by rw [List.length_drop,hRl];lia),List.getElem?_drop,List.length_drop,hRl,show s.w-1+(i-(s.w-1))=i by lia,hR i hi]
 ·rw [List.getElem?_eq_none (by rw [List.length_zipWith,hRl];lia),List.getElem?_eq_none (by rw [List.length_take];lia)]
theorem ZfO {s:Sb20.St}(hw:0<s.w) (hh:0<s.h):List.zipWith Xn (Yk s) ((Yk s).drop s.w++(Yk s).drop ((Yk s).length-s.w))=Sb20.softened s:=by
 have hl:=YA s
 have hwh:s.w≤s.w*s.h:=Nat.le_mul_of_pos_right _ hh
 apply List.ext_getElem?
 intro k
 by_cases hk:k<s.w*s.h
 ·have hi:=Nat.mod_lt k hw
  have hj:k / s.w<s.h:=by rw [Nat.div_lt_iff_lt_mul hw,Nat.mul_comm];exact hk
  have hkd:k / s.w*s.w+k % s.w=k:=Nat.div_add_mod' k s.w
  have rhs:(Sb20.softened s)[k]?=some (Xn (Xn (s.colour (k % s.w) (k / s.w)) (s.colour (k % s.w+1) (k / s.w))) (Xn (s.colour (k % s.w) (k / s.w+1)) (s.colour (k % s.w+1) (k / s.w+1)))):=by
   unfold Sb20.softened
   rw [List.getElem?_map,List.getElem?_range hk];rfl
  have a1:(Yk s)[k]?=some (Xn (s.colour (k % s.w) (k / s.w)) (s.colour (k % s.w+1) (k / s.w))):=by
   have:=Zao hi hj
   rwa [hkd] at this
  rw [rhs,List.getElem?_zipWith,a1]
  generalize k % s.w=i at *
  generalize k / s.w=j at *
  by_cases h1:j+1<s.h
  ·have a2:(Yk s)[s.w+k]?=some (Xn (s.colour i (j+1)) (s.colour (i+1) (j+1))):=by
    have:=Zao hi h1
    rwa [show (j+1)*s.w+i=s.w+k by rw [Nat.add_mul,Nat.one_mul];lia] at this
   have hlt:s.w+k<s.w*s.h:=by rw [← hl];exact (List.getElem?_eq_some_iff.mp a2).1
   rw [List.getElem?_append_left (by rw [List.length_drop,hl];lia),List.getElem?_drop,a2]
  ·have ej:j+1=s.h:=by lia
   have hge:s.w*s.h≤s.w+k:=by
    rw [← ej,Nat.mul_add,Nat.mul_one,Nat.mul_comm s.w j];lia
   rw [List.getElem?_append_right (by rw [List.length_drop,hl];lia),List.getElem?_drop,List.length_drop,hl,show s.w*s.h-s.w+(k-(s.w*s.h-s.w))=k by lia,a1]
   have c1:∀ x,s.colour x (j+1)=s.colour x j:=fun x=>by
    unfold Sb20.St.colour
    rw [Nat.min_eq_right (show s.h-1≤j+1 by lia),Nat.min_eq_left (show j≤s.h-1 by lia),show s.h-1=j by lia]
   rw [c1,c1]
 ·rw [List.getElem?_eq_none (by rw [List.length_zipWith,hl];lia),List.getElem?_eq_none (by unfold Sb20.softened;rw [List.length_map,List.length_range];lia)]
theorem ZdL (s:Sb20.St):(Sb20.softened s).length=s.w*s.h:=by unfold Sb20.softened;rw [List.length_map,List.length_range]
section
variable {P:Program}{w:World}{K:PySem.W.Frag}{mg:Str→Option Value}{base:Heap}{RF NT cCv cTx cFg cEg cCo cTr:Addr}
def ZfL (K:PySem.W.Frag) (cCv cTx cFg:Addr):Sp:=fun vs H Q _=>∃ (c:Addr) (N:Nat) (s:Sb20.St) (cl dl:Addr),vs=[.ref c]∧Cv K cCv cTx cFg H c N s cl dl∧(0<s.w∧0<s.h) ∧
 ∀ (H':Hp) (cl':Addr),Kc c H H'→H cl'=none→Cv K cCv cTx cFg H' c N { s with colours:=Sb20.softened s } cl' dl→Q .non H'
theorem JF (F:Df K mg "soften_colours" (top 67) ["canvas"])
  (f_means:Cal P w K mg base CX0 2 "means" ["first","second"] (ZdW K))
  (b_len:mg "len"=none)
  (b_range:mg "range"=none) (T:Zu K cCv cTx cFg cEg cCo cTr):Cal P w K mg base CX0 3 "soften_colours" ["canvas"] (ZfL K cCv cTx cFg):=by
 refine F.okS (N:=["canvas","width","across","start","row"]) fun S f cdv A outer s H vs Q E hr h=>?_
 obtain ⟨c,N,s,al,dl,rfl,⟨d,hv⟩,⟨hw,hh⟩,k⟩:=h
 refine ⟨_,(Zc (Zl (i:=1) S.nd rfl (Or.inl rfl) (Zo (pv 0) rfl)) (Zc (Zl (i:=2) S.nd rfl (Or.inl rfl) (ZL Zb)) (Zc (Xr PassesOwn.never rfl (Xs rfl b_range (Za Zd (Za (ZP (r:=Zfj K) Zgt (by rfl) b_len PySem.boot_len (Za (Zo (pv 0) rfl) Zb)) (Za (pv 1) Zb)))) (ZO (i:=3) S.nd rfl (Or.inl rfl)) (Zc (Zl (i:=4) S.nd rfl (Or.inl rfl) (ZT (r:=Qj K) slK (Zo (pv 0) rfl) (ZG (pv 3)) (ZG (Zj Yh (pv 3) (pv 1))))) (Zf (ZU (Qn PySem.F.plainAttrs_list PySem.F.slot_list_extend PySem.F.type_list_extend Xy (pv 2) (Za (Zg f_means (hr.mono (by decide)) rfl Zi (Za (pv 4) (Za (Zj Zah (ZT (r:=Qj K) slK (pv 4) (ZG Zd) Xp) (ZT (r:=Qj K) slK (pv 4) (ZG (YJ Qk Zd)) Xp)) Zb))) Zb)))))) (Zf (Zy (pv 0) (Zg f_means (hr.mono (by decide)) rfl Zi (Za (pv 2) (Za (Zj Zah (ZT (r:=Qj K) slK (pv 2) (ZG (pv 1)) Xp) (ZT (r:=Qj K) slK (pv 2) (ZG (YJ Qk (pv 1))) Xp)) Zb))) rfl))))),?_⟩
 have cl:=T.Canvas.cl
 have hwf:=hv.wf
 have hw8:=hwf.w
 have hh8:=hwf.h
 have h16:s.w*s.h≤65536:=Nat.le_trans (Nat.mul_le_mul hw8 hh8) (by decide)
 have hasl:d.as.length=s.w*s.h:=hv.px.1.trans hwf.cl
 refine ⟨_,rfl,c,cCv,d.dx,_,_,rfl,hv.ins,cl,T.Canvas.n_width,rfl,?_⟩
 refine ⟨(by show 0≤sizeLine;decide),fun ac hac=>?_⟩
 have s0:=Zh (o:=.lst []) hac
 have elen:(((d.as.map V.ref).length:Nat):Int)=((s.w*s.h:Nat):Int):=by rw [List.length_map,hasl]
 refine ⟨_,rfl,c,cCv,d.dx,_,_,rfl,s0 _ _ hv.ins,cl,T.Canvas.n_colours,rfl,al,_,_,rfl,.inl (SqL.of (s0 _ _ hv.cs)),elen,_,rfl,_,_,_,s.h,rfl,JN s.w s.h hw (by lia) (by lia),?_⟩
 refine Zci (lo:=0) (c:=(s.w:Int)) (n:=s.h) (fun n σ H'=>∃ (v3 v4:Option V) (cs:List Addr),σ=[some (.ref c),some (.int (s.w:Nat)),some (.ref ac),v3,v4]∧Zq H H'∧H' ac=some (.lst (cs.map V.ref))∧Zw K H' cs ((Yk s).take (n*s.w))) ⟨none,none,[],rfl,s0,Ze,by rw [Nat.zero_mul];exact Zw.nil⟩ ?_ ?_
 ·rintro n σ H' hn ⟨v3,v4,cs,rfl,s1,eac,hC⟩
  have hle:n*s.w+s.w≤s.w*s.h:=by
   have:(n+1)*s.w≤s.h*s.w:=Nat.mul_le_mul_right _ hn
   rw [Nat.add_mul,Nat.one_mul] at this
   rw [Nat.mul_comm s.w s.h];exact this
  have en:(0:Int)+((n:Nat):Int)*(s.w:Int)=((n*s.w:Nat):Int):=by rw [Int.natCast_mul];lia
  rw [en]
  have e2:((n*s.w:Nat):Int)+(s.w:Int)=((n*s.w+s.w:Nat):Int):=by lia
  refine ⟨_,rfl,c,cCv,d.dx,_,_,rfl,s1 _ _ hv.ins,cl,T.Canvas.n_colours,rfl,_,rfl,_,rfl,_,rfl,_,rfl,_,_,_,rfl,rfl,e2,_,rfl,al,_,rfl,SqL.of (s1 _ _ hv.cs),fun r hr=>?_⟩
  have ecut:YV (d.as.map V.ref) (some ((n*s.w:Nat):Int)) (some ((n*s.w+s.w:Nat):Int))=((d.as.drop (n*s.w)).take s.w).map V.ref:=by
   rw [Xh (by lia) (by rw [List.length_map,hasl];exact hle),show n*s.w+s.w-n*s.w=s.w by lia,List.map_take,List.map_drop]
  rw [ecut]
  generalize hrow:(d.as.drop (n*s.w)).take s.w=row at *
  have hrl:row.length=s.w:=by rw [← hrow,List.length_take,List.length_drop,hasl];lia
  have sr:=Zh (o:=.lst (row.map V.ref)) hr
  have s2:=s1.trans sr
  have er:upd H' r (.lst (row.map V.ref)) r=some (.lst (row.map V.ref)):=Ze
  have hrp:Zw K (upd H' r (.lst (row.map V.ref))) row ((s.colours.drop (n*s.w)).take s.w):=by
   have:=((hv.px.same s2).sub (n*s.w)).tak s.w
   rwa [hrow] at this
  have eac2:=sr _ _ eac
  have hC2:=hC.same sr
  generalize upd H' r (.lst (row.map V.ref))=H2 at *
  have ec1:YV (row.map V.ref) (some 1) none=(row.drop 1).map V.ref:=by
   have:=ZbZ (xs:=row.map V.ref) (i:=1) (by rw [List.length_map,hrl];lia)
   rw [List.map_drop];exact this
  have ec2:YV (row.map V.ref) (some (-1)) none=(row.drop (s.w-1)).map V.ref:=by
   have:=ZeM (xs:=row.map V.ref) (k:=1) (by decide) (by rw [List.length_map,hrl];lia)
   rw [List.length_map,hrl] at this
   rw [List.map_drop];exact this
  refine ⟨_,rfl,.inl ⟨rfl,_,SqL.of eac2⟩,_,rfl,_,rfl,1,rfl,r,_,rfl,SqL.of er,fun q1 hq1=>?_⟩
  rw [ec1]
  have s3:=Zh (o:=.lst ((row.drop 1).map V.ref)) hq1
  refine ⟨_,rfl,_,_,rfl,rfl,_,rfl,r,_,rfl,SqL.of (s3 _ _ er),fun q2 hq2=>?_⟩
  rw [ec2]
  have s4:=Zr (o:=.lst ((row.drop (s.w-1)).map V.ref)) s3 (s3.free hq2)
  refine ⟨q1,q2,_,_,rfl,rfl,Zh hq2 _ _ Ze,Ze,?_,fun q3 hq3=>?_⟩
  ·rw [List.length_map,List.length_map,List.length_drop,List.length_drop,hrl]
   exact Nat.le_trans (show s.w-1+(s.w-(s.w-1))≤1000 by lia) (by decide)
  have s5:=Zr (o:=.lst ((row.drop 1).map V.ref++(row.drop (s.w-1)).map V.ref)) s4 (s4.free hq3)
  have eq3:upd (upd (upd H2 q1 (.lst ((row.drop 1).map V.ref))) q2 (.lst ((row.drop (s.w-1)).map V.ref))) q3 (.lst ((row.drop 1).map V.ref++(row.drop (s.w-1)).map V.ref)) q3=some (.lst ((row.drop 1++row.drop (s.w-1)).map V.ref)):=by rw [Ze,List.map_append]
  generalize upd (upd (upd H2 q1 (.lst ((row.drop 1).map V.ref))) q2 (.lst ((row.drop (s.w-1)).map V.ref))) q3 (.lst ((row.drop 1).map V.ref++(row.drop (s.w-1)).map V.ref))=H3 at *
  have hrp3:=hrp.same s5
  have hCl:((s.colours.drop (n*s.w)).take s.w).length=s.w:=by rw [← hrp.1,hrl]
  refine ⟨r,q3,row,_,_,_,rfl,SqL.of (s5 _ _ er),SqL.of eq3,hrp3,(hrp3.sub 1).app (hrp3.sub (s.w-1)),?_,?_,fun H4 m ms s6 n6 e6 hm=>?_⟩
  ·rw [List.length_append,List.length_drop,List.length_drop,hCl];lia
  ·rw [hCl];lia
  rw [Zgo hwf.cl hn hw] at hm
  have eac4:=s6 _ _ (s5 _ _ eac2)
  have hC4:=(hC2.same s5).same s6
  have sH4:=(s2.trans s5).trans s6
  have hml:=hm.1
  rw [List.length_take,List.length_drop,YA] at hml
  have hcl:=hC.1
  rw [List.length_take,YA] at hcl
  refine ⟨ac,m,_,_,rfl,rfl,eac4,e6,?_,?_⟩
  ·rw [List.length_map,List.length_map]
   exact Nat.le_trans (show cs.length+ms.length≤16777216 by lia) (by decide)
  have kp:Kp [ac] H4 (upd H4 ac (.lst (cs.map V.ref++ms.map V.ref))):=⟨fun b hb=>by simp at hb;subst hb;exact ⟨_,eac4⟩,fun b o e nn=>by rw [Zn (fun q=>nn (by simp [q]))];exact e⟩
  refine ⟨some (.int ((n*s.w:Nat):Int)),some (.ref r),cs++ms,rfl,Zr sH4 hac,?_,?_⟩
  ·rw [Ze,List.map_append]
  ·rw [show (n+1)*s.w=n*s.w+s.w by rw [Nat.add_mul,Nat.one_mul],List.take_add]
   exact (kp.pxs hC4).app (kp.pxs hm)
 ·rintro σ H' ⟨v3,v4,cs,rfl,s1,eac,hC⟩
  rw [List.take_of_length_le (by rw [YA,Nat.mul_comm];exact Nat.le_refl _)] at hC
  have hcl:cs.length=s.w*s.h:=hC.1.trans (YA s)
  have hwh:s.w≤s.w*s.h:=Nat.le_mul_of_pos_right _ hh
  have ec1:YV (cs.map V.ref) (some (s.w:Int)) none=(cs.drop s.w).map V.ref:=by
   rw [ZbZ (by rw [List.length_map,hcl];exact hwh),List.map_drop]
  have ec2:YV (cs.map V.ref) (some (-(s.w:Int))) none=(cs.drop (cs.length-s.w)).map V.ref:=by
   rw [ZeM hw (by rw [List.length_map,hcl];exact hwh),List.length_map,List.map_drop]
  refine ⟨_,rfl,_,rfl,_,rfl,_,rfl,ac,_,rfl,SqL.of eac,fun q1 hq1=>?_⟩
  rw [ec1]
  have s3:=Zh (o:=.lst ((cs.drop s.w).map V.ref)) hq1
  refine ⟨_,rfl,_,rfl,_,_,rfl,rfl,_,rfl,ac,_,rfl,SqL.of (s3 _ _ eac),fun q2 hq2=>?_⟩
  rw [ec2]
  have s4:=Zr (o:=.lst ((cs.drop (cs.length-s.w)).map V.ref)) s3 (s3.free hq2)
  refine ⟨q1,q2,_,_,rfl,rfl,Zh hq2 _ _ Ze,Ze,?_,fun q3 hq3=>?_⟩
  ·rw [List.length_map,List.length_map,List.length_drop,List.length_drop]
   exact Nat.le_trans (show cs.length-s.w+(cs.length-(cs.length-s.w))≤16777216 by lia) (by decide)
  have s5:=Zr (o:=.lst ((cs.drop s.w).map V.ref++(cs.drop (cs.length-s.w)).map V.ref)) s4 (s4.free hq3)
  have eq3:upd (upd (upd H' q1 (.lst ((cs.drop s.w).map V.ref))) q2 (.lst ((cs.drop (cs.length-s.w)).map V.ref))) q3 (.lst ((cs.drop s.w).map V.ref++(cs.drop (cs.length-s.w)).map V.ref)) q3=some (.lst ((cs.drop s.w++cs.drop (cs.length-s.w)).map V.ref)):=by rw [Ze,List.map_append]
  generalize upd (upd (upd H' q1 (.lst ((cs.drop s.w).map V.ref))) q2 (.lst ((cs.drop (cs.length-s.w)).map V.ref))) q3 (.lst ((cs.drop s.w).map V.ref++(cs.drop (cs.length-s.w)).map V.ref))=H3 at *
  have hC3:=hC.same s5
  refine ⟨ac,q3,cs,_,_,_,rfl,SqL.of (s5 _ _ eac),SqL.of eq3,hC3,(hC3.sub s.w).app (hC3.sub (cs.length-s.w)),?_,?_,fun H4 m ms s6 n6 e6 hm=>?_⟩
  ·rw [List.length_append,List.length_drop,List.length_drop,YA,hcl];lia
  ·rw [YA];exact h16
  rw [hC.1,ZfO hw hh] at hm
  have sH4:=(s1.trans s5).trans s6
  have fm:H m=none:=(s1.trans s5).free n6
  have nmc:m≠c:=fun z=>by rw [z,hv.ins] at fm;cases fm
  refine ⟨_,rfl,c,cCv,d.dx,_,rfl,sH4 _ _ hv.ins,cl,T.Canvas.n_colours,Yx,Zx fun H5 c5 k5=>?_⟩
  have kc:Kc c H H5:=fun b o e nn=>k5 _ _ (sH4 _ _ e) nn
  have kc2:Kc c H4 H5:=k5
  exact k H5 m kc fm ⟨_,hv.Zls kc fm c5 (k5 _ _ e6 nmc) (kc2.pxs (sH4 _ _ hv.ins) hm) (by rw [ZdL,hwf.cl])⟩
end
end Sg
namespace Sg
open PySem PySem.Spec PyProof.Rows L2 LX SbM
theorem pairs_at:∀ {n i:Nat}{qs:List Int},qs.length=2*n→i<n→∃ x y,(Sb20.pairs qs)[i]?=some (x,y)∧qs[2*i]?=some x∧qs[2*i+1]?=some y
 | 0,i,qs,_,h=>by lia
 | n+1,0,x::y::l,h,_=>⟨x,y,rfl,rfl,rfl⟩
 | n+1,i+1,x::y::l,h,hi=>by
  obtain ⟨x',y',h1,h2,h3⟩:=pairs_at (n:=n) (i:=i) (qs:=l) (by simp at h;lia) (by lia)
  refine ⟨x',y',h1,?_,?_⟩
  ·rw [show 2*(i+1)=2*i+1+1 by lia];exact h2
  ·rw [show 2*(i+1)+1=2*i+1+1+1 by lia];exact h3
 | n+1,_,[],h,_=>by simp at h
 | n+1,_,[_],h,_=>by simp at h;lia
theorem pairs_len:∀ {n:Nat}{qs:List Int},qs.length=2*n→(Sb20.pairs qs).length=n
 | 0,[],_=>rfl
 | n+1,x::y::l,h=>by
  show (Sb20.pairs l).length+1=n+1
  rw [pairs_len (n:=n) (by simp at h;lia)]
 | n+1,[],h=>by simp at h
 | n+1,[_],h=>by simp at h;lia
 | 0,_::_,h=>by simp at h
def marked (p:Px) (s:Sb20.St) (qs:List (Int×Int)):Sb20.St×Nat:=qs.foldl (Sb20.mark p) (s,0)
theorem ZeD (p:Px) (s:Sb20.St) (qs:List (Int×Int)) (q:Int×Int):marked p s (qs++[q])=Sb20.mark p (marked p s qs) q:=by unfold marked;rw [List.foldl_append];rfl
theorem ZcR (p:Px):∀ (qs:List (Int×Int)) (x:Sb20.St×Nat),∃ c,(qs.foldl (Sb20.mark p) x).1={ x.1 with colours:=c }∧c.length=x.1.colours.length
 | [],x=>⟨_,rfl,rfl⟩
 | q::qs,x=>by
  obtain ⟨c,e,l⟩:=ZcR p qs (Sb20.mark p x q)
  show ∃ c,(qs.foldl (Sb20.mark p) (Sb20.mark p x q)).1=_∧_
  have hm:∃ c,(Sb20.mark p x q).1={ x.1 with colours:=c }∧c.length=x.1.colours.length:=by
   unfold Sb20.mark
   simp only
   split
   ·exact ⟨_,rfl,by rw [List.length_set]⟩
   ·exact ⟨_,rfl,rfl⟩
  obtain ⟨c',e',l'⟩:=hm
  refine ⟨c,?_,?_⟩
  ·rw [e,e']
  ·rw [l,e'];exact l'
theorem Zca (p:Px) (s:Sb20.St) (qs:List (Int×Int)):∃ c,(marked p s qs).1={ s with colours:=c }∧c.length=s.colours.length:=ZcR p qs (s,0)
section
variable {P:Program}{w:World}{K:PySem.W.Frag}{mg:Str→Option Value}{base:Heap}{RF NT cCv cTx cFg cEg cCo cTr:Addr}
def Zft (K:PySem.W.Frag) (cCv cTx cFg:Addr):Sp:=fun vs H Q _=>∃ (c l t:Addr) (p:Px) (qs:List Int) (n:Nat) (N:Nat) (s:Sb20.St) (cl dl:Addr),vs=[.ref c,.ref l,.ref t]∧Cv K cCv cTx cFg H c N s cl dl∧H l=some (.lst ((qs.map fun q=>Sb20.near q (2^1074)).map V.int))∧l∉[cl,dl]∧Yr K H t p∧qs.length=2*n∧n≤256∧(∀ q∈qs,Sm (Sb20.near q (2^1074))) ∧
 ∀ (H':Hp),Kp [cl,dl] H H'→Cv K cCv cTx cFg H' c N (marked p s (Sb20.pairs qs)).1 cl dl→Q (.int ((marked p s (Sb20.pairs qs)).2:Nat)) H'
theorem Zcj (F:Df K mg "mark_pixels" (top 68) ["canvas","numbers","colour"])
  (f_has_pixel:Mth P w K mg base CX0 1 cCv "has_pixel" ["self","x","y"] (ZgH cCv))
  (f_place_of:Mth P w K mg base CX0 1 cCv "place_of" ["self","x","y"] (XR cCv))
  (b_len:mg "len"=none)
  (b_range:mg "range"=none) (T:Zu K cCv cTx cFg cEg cCo cTr):Cal P w K mg base CX0 2 "mark_pixels" ["canvas","numbers","colour"] (Zft K cCv cTx cFg):=by
 refine F.okS (N:=["canvas","numbers","colour","marked","start","x","y"]) fun S f cdv A outer s H vs Q E hr h=>?_
 obtain ⟨c,l,t,p,qs,n,N,s,al,dl,rfl,⟨d,hv⟩,hl,nl,hp,hlen,hn,hsm,k⟩:=h
 refine ⟨_,(Zc (Zl (i:=3) S.nd rfl (Or.inl rfl) Zd) (Zc (Xr PassesOwn.never rfl (Xs rfl b_range (Za Zd (Za (ZP (r:=Zfj K) Zgt (by rfl) b_len PySem.boot_len (Za (pv 1) Zb)) (Za Zd Zb)))) (ZO (i:=4) S.nd rfl (Or.inl rfl)) (Zc (Zl (i:=5) S.nd rfl (Or.inl rfl) (Zt (r:=ZE K) ixK (pv 1) (pv 4) (fun _ _=>rfl))) (Zc (Zl (i:=6) S.nd rfl (Or.inl rfl) (Zt (r:=ZE K) ixK (pv 1) (Zj Yh (pv 4) Zd) (fun _ _=>rfl))) (Zf (Yg (XU (YE f_has_pixel (hr.mono (by decide)) Zi (pv 0) (Za (pv 5) (Za (pv 6) Zb)))) (Zc (Zgb (pv 2) (ZfW (Zo (pv 0) rfl) (YE f_place_of (hr.mono (by decide)) Zi (pv 0) (Za (pv 5) (Za (pv 6) Zb))) set_list)) (Zf (Zl (i:=3) S.nd rfl (Or.inl rfl) (Zj Yh (pv 3) Zd)))) ZJ))))) (Zf (Zm (pv 3))))),?_⟩
 have cl:=T.Canvas.cl
 have elen:((((qs.map fun q=>Sb20.near q (2^1074)).map V.int).length:Nat):Int)=((2*n:Nat):Int):=by rw [List.length_map,List.length_map,hlen]
 refine ⟨_,rfl,l,_,_,rfl,.inl (SqL.of hl),elen,_,_,_,n,rfl,JN 2 n (by decide) (by decide) (by lia),?_⟩
 refine Zci (lo:=0) (c:=2) (n:=n) (fun i σ H'=>∃ (v4 v5 v6:Option V),σ=[some (.ref c),some (.ref l),some (.ref t),some (.int ((marked p s ((Sb20.pairs qs).take i)).2:Nat)),v4,v5,v6]∧Kp [al,dl] H H'∧Cv K cCv cTx cFg H' c N (marked p s ((Sb20.pairs qs).take i)).1 al dl) ⟨none,none,none,rfl,Kp.of_same hv.lists (Zq.refl H),d,hv⟩ ?_ ?_
 ·rintro i σ H' hi ⟨v4,v5,v6,rfl,kp,⟨di,hvi⟩⟩
  obtain ⟨x,y,e1,e2,e3⟩:=pairs_at hlen hi
  have ei:(0:Int)+((i:Nat):Int)*2=((2*i:Nat):Int):=by lia
  rw [ei]
  have ei1:((2*i:Nat):Int)+1=((2*i+1:Nat):Int):=by lia
  have hl':=kp.2 _ _ hl nl
  have ax:atI ((qs.map fun q=>Sb20.near q (2^1074)).map V.int) ((2*i:Nat):Int)=some (.int (Sb20.near x (2^1074))):=Ys (by rw [List.getElem?_map,e2];rfl)
  have ay:atI ((qs.map fun q=>Sb20.near q (2^1074)).map V.int) ((2*i+1:Nat):Int)=some (.int (Sb20.near y (2^1074))):=Ys (by rw [List.getElem?_map,e3];rfl)
  have smx:=hsm x (List.mem_of_getElem? e2)
  have smy:=hsm y (List.mem_of_getElem? e3)
  obtain ⟨cc,ek,lk⟩:=Zca p s ((Sb20.pairs qs).take i)
  have sn:marked p s ((Sb20.pairs qs).take (i+1))=Sb20.mark p (marked p s ((Sb20.pairs qs).take i)) (x,y):=by rw [take_snoc e1,ZeD]
  rw [sn]
  generalize marked p s ((Sb20.pairs qs).take i)=st at *
  have sw:st.1.w=s.w:=by rw [ek]
  have sh:st.1.h=s.h:=by rw [ek]
  have hw8:=hvi.wf.w
  have hh8:=hvi.wf.h
  refine ⟨_,rfl,_,rfl,l,_,_,_,rfl,rfl,SqL.of hl',ax,?_⟩
  refine ⟨_,rfl,_,rfl,_,_,_,rfl,rfl,ei1,l,_,_,_,rfl,rfl,SqL.of hl',ay,?_⟩
  refine ⟨_,rfl,c,di.dx,_,rfl,hvi.ins,rfl,_,rfl,_,rfl,c,di.dx,_,st.1.w,st.1.h,_,_,rfl,hvi.ins,rfl,rfl,fun b1 h1=>⟨_,rfl,Ye (fun c1=>?_) fun c1=>?_⟩⟩
  ·have q:=h1.mp c1
   have em:Sb20.mark p st (x,y)=({ st.1 with colours:=st.1.colours.set ((Sb20.near y (2^1074)).toNat * st.1.w+(Sb20.near x (2^1074)).toNat) p },st.2+1):=by
    unfold Sb20.mark
    simp only
    rw [if_pos ⟨q.1.1,q.1.2,q.2.1,q.2.2⟩]
   rw [em]
   obtain ⟨X,hX⟩:=Int.eq_ofNat_of_zero_le q.1.1
   obtain ⟨Y,hY⟩:=Int.eq_ofNat_of_zero_le q.2.1
   rw [hX,hY] at q ⊢
   rw [hY] at smy
   rw [Int.toNat_natCast,Int.toNat_natCast]
   have hlt:Y*st.1.w+X<st.1.w*st.1.h:=place_lt (by lia) (by lia)
   have ep:(Y:Int)*(st.1.w:Int)+(X:Int)=((Y*st.1.w+X:Nat):Int):=by rw [Int.natCast_add,Int.natCast_mul]
   have hla:Y*st.1.w+X<di.as.length:=by rw [hvi.px.1,hvi.wf.cl];exact hlt
   refine ⟨_,rfl,_,rfl,c,cCv,di.dx,_,_,rfl,hvi.ins,cl,T.Canvas.n_colours,rfl,_,rfl,c,di.dx,_,rfl,hvi.ins,rfl,_,rfl,_,rfl,c,di.dx,_,st.1.w,(X:Int),(Y:Int),_,rfl,hvi.ins,rfl,⟨hw8,smy⟩,ep,al,_,_,Y*st.1.w+X,rfl,rfl,hvi.cs,Zdw (by rw [List.length_map];exact hla),?_⟩
   rw [map_set V.ref]
   have kp1:Kp [al,dl] H' (upd H' al (.lst ((di.as.set (Y*st.1.w+X) t).map V.ref))):=⟨hvi.lists,fun b o e nn=>by rw [Zn (fun q=>nn (by simp [q]))];exact e⟩
   have hpt:=kp1.px (kp.px hp)
   have hv2:=hvi.draw kp1 Ze ((kp1.pxs hvi.px).set (k:=Y*st.1.w+X) hpt) (by rw [Zn (Ne.symm hvi.ne)];exact hvi.ds) (by rw [List.length_set]) rfl
   exact ⟨_,rfl,_,_,_,rfl,rfl,rfl,some (.int ((2*i:Nat):Int)),some (.int (X:Int)),some (.int (Y:Int)),rfl,kp.trans kp1,_,hv2⟩
  ·have em:Sb20.mark p st (x,y)=st:=by
    unfold Sb20.mark
    simp only
    rw [if_neg (fun z=>c1 (h1.mpr ⟨⟨z.1,z.2.1⟩,z.2.2.1,z.2.2.2⟩))]
   rw [em]
   exact ⟨some (.int ((2*i:Nat):Int)),some (.int (Sb20.near x (2^1074))),some (.int (Sb20.near y (2^1074))),rfl,kp,di,hvi⟩
 ·rintro σ H' ⟨v4,v5,v6,rfl,kp,hvi⟩
  rw [List.take_of_length_le (by rw [pairs_len hlen];exact Nat.le_refl _)] at hvi ⊢
  exact ⟨_,rfl,k H' kp hvi⟩
end
end Sg
namespace Sg
open PySem PySem.Spec PyProof.Rows L2 LX SbM
abbrev JU:=Sb20.Call
def Xq (a:Sb20.Ans):List Int:=a.value::(a.bytes.map (fun (b:Nat)=>(b:Int))++a.singles)
def rawOf (n:Int) (hr:Bool) (ws rw:List Int):List (List Int):=if hr=true then [n::ws,rw] else [n::ws]
structure Yn (n:Int) (hr:Bool) (ws rw:List Int) (call:JU):Prop where
 asked:Sb20Neutral.asked1 (rawOf n hr ws rw)=true
 call:Sb20Neutral.callOf (rawOf n hr ws rw)=some call
 row:rw.length≤4096
theorem XG {z:Int}{n:Nat}(h:Sb20Neutral.natural z n=true):∃ m:Nat,z=(m:Int)∧m<2^n:=by
 unfold Sb20Neutral.natural at h
 simp only [Bool.and_eq_true,decide_eq_true_eq] at h
 obtain ⟨m,rfl⟩:=Int.eq_ofNat_of_zero_le h.1
 refine ⟨m,rfl,?_⟩
 have e:((2^n:Nat):Int)=2^n:=by simp
 lia
theorem YX {n:Nat}:∀ {l:List Int},(l.all fun z=>Sb20Neutral.natural z n)=true→∃ bs:List Nat,l=bs.map (fun (b:Nat)=>(b:Int))∧Sb20Neutral.nats l=bs∧bs.length=l.length∧∀ b∈bs,b<2^n
 | [],_=>⟨[],rfl,rfl,rfl,by simp⟩
 | z::l,h=>by
  rw [List.all_cons,Bool.and_eq_true] at h
  obtain ⟨m,rfl,hm⟩:=XG h.1
  obtain ⟨bs,rfl,e2,e3,hb⟩:=YX h.2
  refine ⟨m::bs,rfl,?_,by simp,?_⟩
  ·show (m:Int).toNat::Sb20Neutral.nats (bs.map fun (b:Nat)=>(b:Int))=_
   rw [e2,Int.toNat_natCast]
  ·intro b hb'
   simp at hb'
   rcases hb' with rfl | h'
   ·exact hm
   ·exact hb b h'
theorem JW (bs:List Nat):(bs.map (fun (b:Nat)=>(b:Int))).map V.int=vn bs:=by unfold vn;rw [List.map_map];rfl
section
variable {ws rw:List Int}{call:JU}
theorem sh0 (h:Yn 0 false ws rw call):∃ a b,ws=[a,b]∧call=.init a b:=by
 obtain ⟨h1,h2,_⟩:=h
 match ws,h1,h2 with
 | [a,b],h1,h2=>exact ⟨a,b,rfl,(Option.some.inj h2).symm⟩
 | [],h1,_=>cases h1
 | [_],h1,_=>cases h1
 | _::_::_::_,h1,_=>cases h1
theorem sh1 (h:Yn 1 false ws rw call):∃ p d:Nat,ws=[(p:Int),(d:Int)]∧(p<2^32∧d<2^32)∧call=.clear p d:=by
 obtain ⟨h1,h2,_⟩:=h
 match ws,h1,h2 with
 | [a,b],h1,h2 =>
  have h1:(Sb20Neutral.natural a 32&&Sb20Neutral.natural b 32)=true:=h1
  rw [Bool.and_eq_true] at h1
  obtain ⟨p,rfl,hp⟩:=XG h1.1
  obtain ⟨d,rfl,hd⟩:=XG h1.2
  exact ⟨p,d,rfl,⟨hp,hd⟩,(Option.some.inj h2).symm⟩
 | [],h1,_=>cases h1
 | [_],h1,_=>cases h1
 | _::_::_::_,h1,_=>cases h1
theorem sh2 (h:Yn 2 true ws rw call):∃ (k log:Int) (bs:List Nat),ws=[k,log]∧rw=bs.map (fun (b:Nat)=>(b:Int))∧call=.texture k log bs∧(∀ b∈bs,b<256)∧bs.length≤4096∧(0≤k∧k≤7∧0≤log∧log≤6→bs.length=4*(2^log.toNat * 2^log.toNat)):=by
 obtain ⟨h1,h2,h3⟩:=h
 match ws,h1,h2 with
 | [a,b],h1,h2 =>
  have h1:((rw.all (fun (z:Int)=>Sb20Neutral.natural z 8)&&decide ((rw.length:Int)=Sb20Neutral.square a b))&&(Sb20Neutral.whole32 a&&Sb20Neutral.whole32 b))=true:=h1
  rw [Bool.and_eq_true,Bool.and_eq_true,decide_eq_true_eq] at h1
  obtain ⟨bs,e1,e2,e3,e4⟩:=YX h1.1.1
  refine ⟨a,b,bs,rfl,e1,?_,e4,by lia,fun q=>?_⟩
  ·have:some (Sb20.Call.texture a b (Sb20Neutral.nats rw))=some call:=h2
   rw [e2] at this
   exact (Option.some.inj this).symm
  ·have:=h1.1.2
   unfold Sb20Neutral.square at this
   rw [if_pos q] at this
   have e:(4*(2^b.toNat * 2^b.toNat):Int)=((4*(2^b.toNat * 2^b.toNat):Nat):Int):=by simp
   rw [e] at this
   lia
 | [],h1,_=>cases h1
 | [_],h1,_=>cases h1
 | _::_::_::_,h1,_=>cases h1
theorem ZaY {l:List Int}{n:Int}(h:Sb20Neutral.long l n n n=true):(l.length:Int)=n:=by
 unfold Sb20Neutral.long at h
 rw [decide_eq_true_eq,if_pos ⟨Int.le_refl _,Int.le_refl _⟩] at h
 exact h
theorem sh3 (h:Yn 3 true ws rw call):∃ bs:List Nat,rw=bs.map (fun (b:Nat)=>(b:Int))∧call=.matrix bs∧bs.length=16∧∀ b∈bs,b<2^32:=by
 obtain ⟨h1,h2,_⟩:=h
 match ws,h1,h2 with
 | [],h1,h2 =>
  have h1:(rw.all (fun (z:Int)=>Sb20Neutral.natural z 32)&&Sb20Neutral.long rw 16 16 16)=true:=h1
  rw [Bool.and_eq_true] at h1
  obtain ⟨bs,e1,e2,e3,e4⟩:=YX h1.1
  have:=ZaY h1.2
  refine ⟨bs,e1,?_,by lia,e4⟩
  have:some (Sb20.Call.matrix (Sb20Neutral.nats rw))=some call:=h2
  rw [e2] at this
  exact (Option.some.inj this).symm
 | _::_,h1,_=>cases h1
theorem sh4 (h:Yn 4 true ws rw call):∃ bs:List Nat,rw=bs.map (fun (b:Nat)=>(b:Int))∧call=.view bs∧bs.length=4∧∀ b∈bs,b<2^32:=by
 obtain ⟨h1,h2,_⟩:=h
 match ws,h1,h2 with
 | [],h1,h2 =>
  have h1:(rw.all (fun (z:Int)=>Sb20Neutral.natural z 32)&&Sb20Neutral.long rw 4 4 4)=true:=h1
  rw [Bool.and_eq_true] at h1
  obtain ⟨bs,e1,e2,e3,e4⟩:=YX h1.1
  have:=ZaY h1.2
  refine ⟨bs,e1,?_,by lia,e4⟩
  have:some (Sb20.Call.view (Sb20Neutral.nats rw))=some call:=h2
  rw [e2] at this
  exact (Option.some.inj this).symm
 | _::_,h1,_=>cases h1
theorem sh6 (h:Yn 6 true ws rw call):∃ bs:List Nat,rw=bs.map (fun (b:Nat)=>(b:Int))∧call=.light bs∧bs.length=3∧∀ b∈bs,b<2^32:=by
 obtain ⟨h1,h2,_⟩:=h
 match ws,h1,h2 with
 | [],h1,h2 =>
  have h1:(rw.all (fun (z:Int)=>Sb20Neutral.natural z 32)&&Sb20Neutral.long rw 3 3 3)=true:=h1
  rw [Bool.and_eq_true] at h1
  obtain ⟨bs,e1,e2,e3,e4⟩:=YX h1.1
  have:=ZaY h1.2
  refine ⟨bs,e1,?_,by lia,e4⟩
  have:some (Sb20.Call.light (Sb20Neutral.nats rw))=some call:=h2
  rw [e2] at this
  exact (Option.some.inj this).symm
 | _::_,h1,_=>cases h1
theorem sh5 (h:Yn 5 true ws rw call):∃ (n:Int) (bs:List Nat),ws=[n]∧rw=bs.map (fun (b:Nat)=>(b:Int))∧call=.points n bs∧(∀ b∈bs,b<2^32)∧bs.length≤768∧(0≤n∧n≤256→bs.length=3*n.toNat):=by
 obtain ⟨h1,h2,_⟩:=h
 match ws,h1,h2 with
 | [n],h1,h2 =>
  have h1:((rw.all (fun (z:Int)=>Sb20Neutral.natural z 32)&&Sb20Neutral.long rw (3*n) 0 768)&&Sb20Neutral.whole32 n)=true:=h1
  rw [Bool.and_eq_true,Bool.and_eq_true] at h1
  obtain ⟨bs,e1,e2,e3,e4⟩:=YX h1.1.1
  have hl:=h1.1.2
  unfold Sb20Neutral.long at hl
  rw [decide_eq_true_eq] at hl
  refine ⟨n,bs,rfl,e1,?_,e4,?_,fun q=>?_⟩
  ·have:some (Sb20.Call.points n (Sb20Neutral.nats rw))=some call:=h2
   rw [e2] at this
   exact (Option.some.inj this).symm
  ·split at hl <;> lia
  ·rw [if_pos (by lia)] at hl;lia
 | [],h1,_=>cases h1
 | _::_::_,h1,_=>cases h1
theorem sh7 (h:Yn 7 true ws rw call):∃ (n:Int) (bs:List Nat),ws=[n]∧rw=bs.map (fun (b:Nat)=>(b:Int))∧call=.normals n bs∧(∀ b∈bs,b<2^32)∧bs.length≤768∧(0≤n∧n≤256→bs.length=3*n.toNat):=by
 obtain ⟨h1,h2,_⟩:=h
 match ws,h1,h2 with
 | [n],h1,h2 =>
  have h1:((rw.all (fun (z:Int)=>Sb20Neutral.natural z 32)&&Sb20Neutral.long rw (3*n) 0 768)&&Sb20Neutral.whole32 n)=true:=h1
  rw [Bool.and_eq_true,Bool.and_eq_true] at h1
  obtain ⟨bs,e1,e2,e3,e4⟩:=YX h1.1.1
  have hl:=h1.1.2
  unfold Sb20Neutral.long at hl
  rw [decide_eq_true_eq] at hl
  refine ⟨n,bs,rfl,e1,?_,e4,?_,fun q=>?_⟩
  ·have:some (Sb20.Call.normals n (Sb20Neutral.nats rw))=some call:=h2
   rw [e2] at this
   exact (Option.some.inj this).symm
  ·split at hl <;> lia
  ·rw [if_pos (by lia)] at hl;lia
 | [],h1,_=>cases h1
 | _::_::_,h1,_=>cases h1
theorem sh8 (h:Yn 8 false ws rw call):∃ p a b:Nat,ws=[(p:Int),(a:Int),(b:Int)]∧(p<2^32∧a<2^32∧b<2^32)∧call=.fog p a b:=by
 obtain ⟨h1,h2,_⟩:=h
 match ws,h1,h2 with
 | [x,y,z],h1,h2 =>
  have h1:(Sb20Neutral.natural x 32&&(Sb20Neutral.natural y 32&&Sb20Neutral.natural z 32))=true:=h1
  rw [Bool.and_eq_true,Bool.and_eq_true] at h1
  obtain ⟨p,rfl,hp⟩:=XG h1.1
  obtain ⟨a,rfl,ha⟩:=XG h1.2.1
  obtain ⟨b,rfl,hb⟩:=XG h1.2.2
  exact ⟨p,a,b,rfl,⟨hp,ha,hb⟩,(Option.some.inj h2).symm⟩
 | [],h1,_=>cases h1
 | [_],h1,_=>cases h1
 | [_,_],h1,_=>cases h1
 | _::_::_::_::_,h1,_=>cases h1
theorem sh9 (h:Yn 9 true ws rw call):∃ (k how:Int) (bs:List Nat),ws=[k,how]∧rw=bs.map (fun (b:Nat)=>(b:Int))∧call=.triangle k how bs∧(∀ b∈bs,b<2^32)∧bs.length=21:=by
 obtain ⟨h1,h2,_⟩:=h
 match ws,h1,h2 with
 | [a,b],h1,h2 =>
  have h1:((rw.all (fun (z:Int)=>Sb20Neutral.natural z 32)&&Sb20Neutral.long rw 21 21 21)&&(Sb20Neutral.whole32 a&&Sb20Neutral.whole32 b))=true:=h1
  rw [Bool.and_eq_true,Bool.and_eq_true] at h1
  obtain ⟨bs,e1,e2,e3,e4⟩:=YX h1.1.1
  have:=ZaY h1.1.2
  refine ⟨a,b,bs,rfl,e1,?_,e4,by lia⟩
  have:some (Sb20.Call.triangle a b (Sb20Neutral.nats rw))=some call:=h2
  rw [e2] at this
  exact (Option.some.inj this).symm
 | [],h1,_=>cases h1
 | [_],h1,_=>cases h1
 | _::_::_::_,h1,_=>cases h1
theorem Zob (h:Yn 10 false ws rw call):∃ (k how x y:Int) (z:Nat),ws=[k,how,x,y,(z:Int)]∧z<2^32∧call=.sprite k how x y z:=by
 obtain ⟨h1,h2,_⟩:=h
 match ws,h1,h2 with
 | [a,b,c,d,e],h1,h2 =>
  have h1:(Sb20Neutral.whole32 a&&(Sb20Neutral.whole32 b&&(Sb20Neutral.whole32 c&&(Sb20Neutral.whole32 d&&Sb20Neutral.natural e 32))))=true:=h1
  simp only [Bool.and_eq_true] at h1
  obtain ⟨z,rfl,hz⟩:=XG h1.2.2.2.2
  exact ⟨a,b,c,d,z,rfl,hz,(Option.some.inj h2).symm⟩
 | [],h1,_=>cases h1
 | [_],h1,_=>cases h1
 | [_,_],h1,_=>cases h1
 | [_,_,_],h1,_=>cases h1
 | [_,_,_,_],h1,_=>cases h1
 | _::_::_::_::_::_::_,h1,_=>cases h1
theorem ZnV (h:Yn 11 false ws rw call):∃ (p:Nat) (by_:Int),ws=[(p:Int),by_]∧p<2^32∧call=.fade p by_:=by
 obtain ⟨h1,h2,_⟩:=h
 match ws,h1,h2 with
 | [a,b],h1,h2 =>
  have h1:(Sb20Neutral.natural a 32&&Sb20Neutral.whole32 b)=true:=h1
  rw [Bool.and_eq_true] at h1
  obtain ⟨p,rfl,hp⟩:=XG h1.1
  exact ⟨p,b,rfl,hp,(Option.some.inj h2).symm⟩
 | [],h1,_=>cases h1
 | [_],h1,_=>cases h1
 | _::_::_::_,h1,_=>cases h1
theorem Zoi (h:Yn 12 false ws rw call):call=.soften:=by
 obtain ⟨h1,h2,_⟩:=h
 match ws,h1,h2 with
 | [],h1,h2=>exact (Option.some.inj h2).symm
 | _::_,h1,_=>cases h1
theorem Zoj (h:Yn 13 true ws rw call):∃ (n:Int) (p:Nat) (bs:List Nat),ws=[n,(p:Int)]∧p<2^32∧rw=bs.map (fun (b:Nat)=>(b:Int))∧call=.marks n bs p∧(∀ b∈bs,b<2^64)∧bs.length≤512∧(0≤n∧n≤256→bs.length=2*n.toNat):=by
 obtain ⟨h1,h2,_⟩:=h
 match ws,h1,h2 with
 | [n,b],h1,h2 =>
  have h1:((rw.all (fun (z:Int)=>Sb20Neutral.natural z 64)&&Sb20Neutral.long rw (2*n) 0 512)&&(Sb20Neutral.whole32 n&&Sb20Neutral.natural b 32))=true:=h1
  simp only [Bool.and_eq_true] at h1
  obtain ⟨bs,e1,e2,e3,e4⟩:=YX h1.1.1
  obtain ⟨p,rfl,hp⟩:=XG h1.2.2
  have hl:=h1.1.2
  unfold Sb20Neutral.long at hl
  rw [decide_eq_true_eq] at hl
  refine ⟨n,p,bs,rfl,hp,e1,?_,e4,?_,fun q=>?_⟩
  ·have:some (Sb20.Call.marks n (Sb20Neutral.nats rw) p)=some call:=h2
   rw [e2] at this
   exact (Option.some.inj this).symm
  ·split at hl <;> lia
  ·rw [if_pos (by lia)] at hl;lia
 | [],h1,_=>cases h1
 | [_],h1,_=>cases h1
 | _::_::_::_,h1,_=>cases h1
theorem ZnO (h:Yn 14 false ws rw call):∃ y,ws=[y]∧call=.read y:=by
 obtain ⟨h1,h2,_⟩:=h
 match ws,h1,h2 with
 | [y],h1,h2=>exact ⟨y,rfl,(Option.some.inj h2).symm⟩
 | [],h1,_=>cases h1
 | _::_::_,h1,_=>cases h1
theorem ZnU (h:Yn 15 false ws rw call):∃ x y,ws=[x,y]∧call=.depth x y:=by
 obtain ⟨h1,h2,_⟩:=h
 match ws,h1,h2 with
 | [a,b],h1,h2=>exact ⟨a,b,rfl,(Option.some.inj h2).symm⟩
 | [],h1,_=>cases h1
 | [_],h1,_=>cases h1
 | _::_::_::_,h1,_=>cases h1
end
def Fr (c cl dl:Addr) (H H':Hp) (cl' dl':Addr):Prop:=(∀ b o,H b=some o→b≠c→b∉[cl,dl]→(∀ kvs,o≠.dK kvs)→H' b=some o)∧(cl'=cl∨H cl'=none)∧(dl'=dl∨H dl'=none)
theorem Fr.same {c cl dl:Addr}{H H':Hp}(s:Zq H H'):Fr c cl dl H H' cl dl:=⟨fun b o e _ _ _=>s _ _ e,.inl rfl,.inl rfl⟩
theorem Fr.kp {c cl dl:Addr}{H H':Hp}(s:Kp [cl,dl] H H'):Fr c cl dl H H' cl dl:=⟨fun b o e _ n _=>s.2 _ _ e n,.inl rfl,.inl rfl⟩
theorem Fr.more {c cl dl cl' dl':Addr}{H H' H'':Hp}(f:Fr c cl dl H H' cl' dl') (s:Zq H' H''):Fr c cl dl H H'' cl' dl':=⟨fun b o e n m d=>s _ _ (f.1 b o e n m d),f.2⟩
theorem Fr.pre {c cl dl cl' dl':Addr}{H H' H'':Hp}(s:Zq H H') (f:Fr c cl dl H' H'' cl' dl'):Fr c cl dl H H'' cl' dl':=⟨fun b o e n m d=>f.1 b o (s _ _ e) n m d,f.2.1.imp id s.free,f.2.2.imp id s.free⟩
abbrev act:=Sb20Neutral.act
def Zv (K:PySem.W.Frag) (cCv cTx cFg RF NT:Addr) (n:Int) (hr:Bool):Sp:=fun vs H Q E=>∃ (c wa ra:Addr) (N:Nat) (s:Sb20.St) (cl dl:Addr) (ws rw:List Int) (call:JU),vs=[.ref c,.ref wa,.ref ra]∧Cv K cCv cTx cFg H c N s cl dl∧SqL K H wa (ws.map V.int)∧SqL K H ra (rw.map V.int)∧Yn n hr ws rw call∧(n≠0→0<s.w∧0<s.h)∧N<200 ∧
 (∀ (H':Hp) (l cl' dl':Addr),Fr c cl dl H H' cl' dl'→Cv K cCv cTx cFg H' c (N+1) (act s call).1 cl' dl'→H l=none→H' l=some (.lst ((Xq (act s call).2).map V.int))→Q (.ref l) H') ∧
 (∀ H':Hp,Zq H H'→act s call=(s,Sb20.says (-1))→E (.ref RF) none H')∧(∀ H':Hp,Zq H H'→act s call=(s,Sb20.says (-2))→E (.ref NT) none H')
theorem ZR {s:Sb20.St}{call:JU}(h:Sb20.fits call=false):act s call=(s,Sb20.says (-1)):=by
 show Sb20Neutral.act s call=_
 unfold Sb20Neutral.act
 rw [if_pos h]
theorem ZX {s:Sb20.St}{call:JU}{x:Sb20.St×Sb20.Ans}(h:Sb20.fits call=true) (hd:Sb20Neutral.does s call=some x):act s call=x:=by
 show Sb20Neutral.act s call=_
 unfold Sb20Neutral.act
 rw [if_neg (by rw [h];decide),hd]
theorem JD {s:Sb20.St}{call:JU}(h:Sb20.fits call=true) (hd:Sb20Neutral.does s call=none):act s call=Sb20Neutral.many s call:=by
 show Sb20Neutral.act s call=_
 unfold Sb20Neutral.act
 rw [if_neg (by rw [h];decide),hd]
theorem ZA (lo x hi:Int):Sb20.within lo x hi=true↔lo≤x∧x≤hi:=by unfold Sb20.within;simp
theorem ZN {lo x hi:Int}(h:¬ (lo≤x∧x≤hi)):Sb20.within lo x hi=false:=by
 cases e:Sb20.within lo x hi with
 | false=>rfl
 | true=>exact absurd ((ZA _ _ _).mp e) h
section
variable {K:PySem.W.Frag}{cCv cTx cFg:Addr}{H H1:Hp}{c:Addr}{N:Nat}{s:Sb20.St}{cl dl:Addr}{d:CvD}
theorem YZ.refill (h:YZ K cCv cTx cFg H c N s cl dl d) (k:Kc c H H1){cl' dl':Addr}{as':List Addr}{cs:List Px}{ds:List Int}(fr:H cl'=none) (fr2:H dl'=none) (ne:cl'≠dl') (hc1:H1 c=some (.ins cCv d.dx (YY (.int (s.w:Nat)) (.int (s.h:Nat)) (.ref cl') (.ref dl') (.ref d.tx) (.ref d.mx) (.ref d.vw) (.ref d.lt) d.fg)))
  (e1:H1 cl'=some (.lst (as'.map V.ref))) (px:Zw K H1 as' cs) (e2:H1 dl'=some (.lst (ds.map V.int))) (len:cs.length=s.colours.length) (len2:ds.length=s.depths.length):YZ K cCv cTx cFg H1 c N { s with colours:=cs,depths:=ds } cl' dl' { d with as:=as' }:=by
 have hB:∀ (x:Addr) (xs:List V),H x=some (.lst xs)→x∉[cl,dl]→x∉[cl',dl']:=fun x xs e n z=>by
  simp at z
  rcases z with rfl | rfl
  ·rw [fr] at e;cases e
  ·rw [fr2] at e;cases e
 have hl:(YY (.int (s.w:Nat)) (.int (s.h:Nat)) (.ref cl) (.ref dl) (.ref d.tx) (.ref d.mx) (.ref d.vw) (.ref d.lt) d.fg).length=9:=rfl
 exact ⟨hc1,e1,px,e2,ne,k.other h.ins h.tx (fun _ _ _ z=>by cases z),h.tn,(fun j hj=>by
   have:=h.ta j hj
   show match s.texture j with | none=>_ | some t=>_
   revert this
   cases s.texture j with
   | none=>exact id
   | some t=>rintro ⟨a,h1,h2⟩;exact ⟨a,h1,k.tx h.ins hl h2 hB⟩),k.lst h.ins h.mx hB,k.lst h.ins h.vw hB,k.lst h.ins h.lt hB,k.fog h.ins hl h.fg,⟨h.wf.w,h.wf.h,len.trans h.wf.cl,len2.trans h.wf.dl,h.wf.tl⟩⟩
theorem YZ.reset (h:YZ K cCv cTx cFg H c N s cl dl d) (k:Kc c H H1){mx vw lt:Addr}{fg:V}{ms vs ls:List Int}{f:Option Sb20.Fog}(hc1:H1 c=some (.ins cCv d.dx (YY (.int (s.w:Nat)) (.int (s.h:Nat)) (.ref cl) (.ref dl) (.ref d.tx) (.ref mx) (.ref vw) (.ref lt) fg)))
  (hm:LstAt H1 [cl,dl] mx ms 16) (hv:LstAt H1 [cl,dl] vw vs 4) (hl':LstAt H1 [cl,dl] lt ls 3) (hf:Xi K cFg H1 fg f):YZ K cCv cTx cFg H1 c N { s with matrix:=ms,view:=vs,light:=ls,fog:=f } cl dl { d with mx:=mx,vw:=vw,lt:=lt,fg:=fg }:=by
 have hB:∀ (x:Addr) (xs:List V),H x=some (.lst xs)→x∉[cl,dl]→x∉[cl,dl]:=fun x xs e n=>n
 have hl:(YY (.int (s.w:Nat)) (.int (s.h:Nat)) (.ref cl) (.ref dl) (.ref d.tx) (.ref d.mx) (.ref d.vw) (.ref d.lt) d.fg).length=9:=rfl
 exact ⟨hc1,k.other h.ins h.cs (fun _ _ _ z=>by cases z),k.pxs h.ins h.px,k.other h.ins h.ds (fun _ _ _ z=>by cases z),h.ne,k.other h.ins h.tx (fun _ _ _ z=>by cases z),h.tn,(fun j hj=>by
   have:=h.ta j hj
   show match s.texture j with | none=>_ | some t=>_
   revert this
   cases s.texture j with
   | none=>exact id
   | some t=>rintro ⟨a,h1,h2⟩;exact ⟨a,h1,k.tx h.ins hl h2 hB⟩),hm,hv,hl',hf,⟨h.wf.w,h.wf.h,h.wf.cl,h.wf.dl,h.wf.tl⟩⟩
theorem YZ.Znt (h:YZ K cCv cTx cFg H c N s cl dl d){k:Nat}(hk:k<8){a:Addr}{t:Sb20.Texture}(ht:QW K cTx H [cl,dl] a t):YZ K cCv cTx cFg (upd H d.tx (.dK (putK d.kvs (Sum.inl (k:Int)) (.ref a)))) c (N+1) { s with textures:=s.textures.set k (some t) } cl dl { d with kvs:=putK d.kvs (Sum.inl (k:Int)) (.ref a) }:=by
 have keep:∀ b o,H b=some o→(∀ kvs,o≠.dK kvs)→upd H d.tx (.dK (putK d.kvs (Sum.inl (k:Int)) (.ref a))) b=some o:=fun b o e n=>by rw [Zn (Xm e h.tx (n _))];exact e
 have seqT:∀ (b:Addr) (xs:List V),SqT K H b xs→SqT K (upd H d.tx (.dK (putK d.kvs (Sum.inl (k:Int)) (.ref a)))) b xs:=fun b xs q=>by
  rcases q with (q | ⟨o,q⟩) | q
  ·exact .inl (.inl (keep _ _ q fun _ z=>by cases z))
  ·exact .inl (.inr ⟨o,keep _ _ q fun _ z=>by cases z⟩)
  ·exact .inr q
 have pxs:∀ {as:List Addr}{ps:List Px},Zw K H as ps→Zw K (upd H d.tx (.dK (putK d.kvs (Sum.inl (k:Int)) (.ref a)))) as ps:=fun q=>⟨q.1,fun i x p h1 h2=>⟨seqT _ _ (q.2 i x p h1 h2).1,(q.2 i x p h1 h2).2⟩⟩
 have txs:∀ {x:Addr}{t':Sb20.Texture},QW K cTx H [cl,dl] x t'→QW K cTx (upd H d.tx (.dK (putK d.kvs (Sum.inl (k:Int)) (.ref a)))) [cl,dl] x t':=fun q=>by
  obtain ⟨tdx,tl,as,h1,h2,h3,h4,h5,h6⟩:=q
  exact ⟨tdx,tl,as,keep _ _ h1 (fun _ z=>by cases z),keep _ _ h2 (fun _ z=>by cases z),h3,pxs h4,h5,h6⟩
 have lst:∀ {m:Addr}{ms:List Int}{n:Nat},LstAt H [cl,dl] m ms n→LstAt (upd H d.tx (.dK (putK d.kvs (Sum.inl (k:Int)) (.ref a)))) [cl,dl] m ms n:=fun q=>⟨keep _ _ q.1 (fun _ z=>by cases z),q.2⟩
 have hlen:(putK d.kvs (Sum.inl (k:Int)) (.ref a)).length≤d.kvs.length+1:=by
  unfold putK
  split
  ·rw [List.length_map];lia
  ·rw [List.length_append];simp
 refine ⟨keep _ _ h.ins (fun _ z=>by cases z),keep _ _ h.cs (fun _ z=>by cases z),pxs h.px,keep _ _ h.ds (fun _ z=>by cases z),h.ne,Ze,Nat.le_trans hlen (Nat.succ_le_succ h.tn),fun j hj=>?_,lst h.mx,lst h.vw,lst h.lt,?_,⟨h.wf.w,h.wf.h,h.wf.cl,h.wf.dl,by rw [List.length_set];exact h.wf.tl⟩⟩
 ·have old:=h.ta j hj
  have hv:=Zjy d.kvs (Sum.inl (k:Int)) (Sum.inl (j:Int)) (V.ref a)
  by_cases e:j=k
  ·subst e
   rw [if_pos rfl] at hv
   have et:({ s with textures:=s.textures.set j (some t) }:Sb20.St).texture j=some t:=by
    unfold Sb20.St.texture
    simp only
    rw [List.getElem?_set_self (by rw [h.wf.tl];exact hj)];rfl
   rw [et]
   exact ⟨a,hv,txs ht⟩
  ·rw [if_neg (fun z=>e (by have:=Sum.inl.inj z;lia))] at hv
   have et:({ s with textures:=s.textures.set k (some t) }:Sb20.St).texture j=s.texture j:=by
    unfold Sb20.St.texture
    simp only
    rw [List.getElem?_set_ne (Ne.symm e)]
   rw [et]
   revert old
   cases s.texture j with
   | none=>intro q;exact hv.trans q
   | some t'=>rintro ⟨x,q1,q2⟩;exact ⟨x,hv.trans q1,txs q2⟩
 ·have hf:=h.fg
  show Xi _ _ _ d.fg s.fog
  cases e:s.fog with
  | none=>rw [e] at hf;exact hf
  | some f =>
   rw [e] at hf
   obtain ⟨fa,fdx,ct,h1,h2,h3,h4⟩:=hf
   exact ⟨fa,fdx,ct,h1,keep _ _ h2 (fun _ z=>by cases z),⟨seqT _ _ h3.1,h3.2⟩,h4⟩
end
end Sg
namespace Sg
open PySem PySem.Spec PyProof.Rows L2 LX SbM
theorem Jw {α β:Type}{f g:α→List β}:∀ {l:List α},(∀ p∈l,f p=g p)→l.flatMap f=l.flatMap g
 | [],_=>rfl
 | a::l,h=>by rw [List.flatMap_cons,List.flatMap_cons,h a (by simp),Jw fun p hp=>h p (by simp [hp])]
theorem Jr:∀ {gs:List Int}{p:Int×Int×Int},p∈Sb20.threes gs→p.1∈gs∧p.2.1∈gs∧p.2.2∈gs
 | x::y::z::r,p,h=>by
  have h:p∈(x,y,z)::Sb20.threes r:=h
  rcases List.mem_cons.mp h with rfl | h
  ·simp
  ·obtain ⟨a,b,c⟩:=Jr h
   simp [a,b,c]
 | [],p,h=>by cases h
 | [_],p,h=>by cases h
 | [_,_],p,h=>by cases h
theorem QH {bs:List Nat}{lo hi:Int}{k:Nat}(h:Sb20.ranges lo hi bs=true) (h1:Bd k lo) (h2:Bd k hi):∀ x∈Sb20.plain bs,Bd k x:=by
 intro x hx
 unfold Sb20.plain at hx
 obtain ⟨b,hb,rfl⟩:=List.mem_map.mp hx
 exact Qs (List.all_eq_true.mp h b hb) h1 h2
theorem YL:Bd 171 Sb20.BIG∧Bd 171 (-Sb20.BIG):=by unfold Bd;exact ⟨by decide,by decide⟩
theorem ZiU:Bd 171 Sb20.ONE∧Bd 171 (-Sb20.ONE):=by unfold Bd;exact ⟨by decide,by decide⟩
theorem ZnE:Bd 171 (1024*Sb20.ONE)∧Bd 171 (-(1024*Sb20.ONE)):=by unfold Bd;exact ⟨by decide,by decide⟩
section
variable {P:Program}{w:World}{K:PySem.W.Frag}{mg:Str→Option Value}{base:Heap}{RF NT cCv cTx cFg cEg cCo cTr:Addr}
theorem ZdK (F:Df K mg "call_init" (top 125) ["canvas","wholes","row"])
  (f_renew:Mth P w K mg base CX0 3 cCv "renew" ["self","width","height"] (ZaV K cCv cTx cFg))
  (f_whole_within:Cal P w K mg base (CXR P w) 1 "whole_within" ["number","low","high"] (Yv RF))
  (c_WIDEST:Cst mg "WIDEST" (.int 256)) (T:Zu K cCv cTx cFg cEg cCo cTr):Cal P w K mg base (CXR P w) 4 "call_init" ["canvas","wholes","row"] (Zv K cCv cTx cFg RF NT 0 false):=by
 refine F.YT (N:=["canvas","wholes","row","width","height"]) fun S f cdv A outer s H vs Q E hr h=>?_
 obtain ⟨c,wa,ra,N,s,al,dl,ws,rw',call,rfl,⟨d,hv⟩,hws,hrw,hok,hlive,hN,k,kR,kT⟩:=h
 refine ⟨_,(Zc (Zl (i:=3) S.nd rfl (Or.inl rfl) (Zg f_whole_within (hr.mono (by decide)) rfl ZM (Za (Zt (r:=ZE K) ixK (pv 1) Zd (fun _ _=>rfl)) (Za Zd (Za (Zp c_WIDEST rfl) Zb))))) (Zc (Zl (i:=4) S.nd rfl (Or.inl rfl) (Zg f_whole_within (hr.mono (by decide)) rfl ZM (Za (Zt (r:=ZE K) ixK (pv 1) Zd (fun _ _=>rfl)) (Za Zd (Za (Zp c_WIDEST rfl) Zb))))) (Zc (ZU (YE f_renew (hr.mono (by decide)) Zi (pv 0) (Za (pv 3) (Za (pv 4) Zb)))) (Zf (Zm (ZL (Za Zd Zb))))))),?_⟩
 obtain ⟨a,b,rfl,rfl⟩:=sh0 hok
 refine ⟨_,rfl,wa,_,_,_,rfl,rfl,hws,rfl,a,1,256,rfl,fun q1=>?_,fun q1=>kR H (Zq.refl H) (ZR (by show (_&&_)=false;rw [ZN q1];rfl))⟩
 refine ⟨_,rfl,wa,_,_,_,rfl,rfl,hws,rfl,b,1,256,rfl,fun q2=>?_,fun q2=>kR H (Zq.refl H) (ZR (by show (_&&_)=false;rw [ZN q2,Bool.and_false]))⟩
 obtain ⟨x,rfl⟩:=Int.eq_ofNat_of_zero_le (show 0≤a by lia)
 obtain ⟨y,rfl⟩:=Int.eq_ofNat_of_zero_le (show 0≤b by lia)
 have ea:act s (.init (x:Int) (y:Int))=(Sb20.fresh x y,Sb20.says 0):=ZX (by show (_&&_)=true;rw [(ZA _ _ _).mpr q1,(ZA _ _ _).mpr q2];rfl) rfl
 rw [ea] at k
 refine ⟨_,rfl,c,d.dx,_,rfl,hv.ins,rfl,_,rfl,_,rfl,c,d.dx,_,x,y,rfl,hv.ins,.inr ⟨_,_,_,_,_,_,_,_,_,rfl⟩,⟨by lia,by lia⟩,fun H1 al1 dl1 hv1 n1 n2 k1=>?_⟩
 refine ⟨(by show 1≤sizeLine;decide),fun l hl=>?_⟩
 have nlc:l≠c:=fun z=>by
  obtain ⟨d1,hv1⟩:=hv1
  rw [z,hv1.ins] at hl;cases hl
 have fl':H l=none:=by
  cases e:H l with
  | none=>rfl
  | some o=>rw [k1 _ _ e nlc] at hl;cases hl
 have f1:Fr c al dl H H1 al1 dl1:=⟨fun b o e n _ _=>k1 _ _ e n,.inr n1,.inr n2⟩
 exact k _ l al1 dl1 (f1.more (Zh hl)) ((hv1.same (Zh hl)).mono (Nat.zero_le _)) fl' Ze
theorem ZcH (F:Df K mg "call_clear" (top 126) ["canvas","wholes","row"])
  (f_fill:Mth P w K mg base CX0 1 cCv "fill" ["self","colour","depth"] (ZdI cCv))
  (f_colour_from_number:Cal P w K mg base CX0 1 "colour_from_number" ["number"] Zih)
  (f_single_within:Cal P w K mg base (CXR P w) 5 "single_within" ["bits","limit"] (ZfD RF))
  (c_FARTHEST:Cst mg "FARTHEST" (.int 1048576)) (T:Zu K cCv cTx cFg cEg cCo cTr):Cal P w K mg base (CXR P w) 6 "call_clear" ["canvas","wholes","row"] (Zv K cCv cTx cFg RF NT 1 false):=by
 refine F.YT (N:=["canvas","wholes","row","depth"]) fun S f cdv A outer s H vs Q E hr h=>?_
 obtain ⟨c,wa,ra,N,s,al,dl,ws,rw',call,rfl,⟨d,hv⟩,hws,hrw,hok,hlive,hN,k,kR,kT⟩:=h
 refine ⟨_,(Zc (Zl (i:=3) S.nd rfl (Or.inl rfl) (Zg f_single_within (hr.mono (by decide)) rfl ZM (Za (Zt (r:=ZE K) ixK (pv 1) Zd (fun _ _=>rfl)) (Za (Zp c_FARTHEST rfl) Zb)))) (Zc (ZU (YE f_fill (hr.mono (by decide)) Zi (pv 0) (Za (Zg f_colour_from_number (hr.mono (by decide)) rfl Zi (Za (Zt (r:=ZE K) ixK (pv 1) Zd (fun _ _=>rfl)) Zb)) (Za (pv 3) Zb)))) (Zf (Zm (ZL (Za Zd Zb)))))),?_⟩
 obtain ⟨p,z,rfl,⟨hp,hz⟩,rfl⟩:=sh1 hok
 refine ⟨_,rfl,wa,_,_,_,rfl,rfl,hws,rfl,z,1048576,Sb20.BIG,rfl,⟨hz,by decide,by decide⟩,by decide,fun q1=>?_,fun q1=>kR H (Zq.refl H) (ZR q1)⟩
 have ea:act s (.clear p z)=({ s with colours:=List.replicate (s.w*s.h) (Sb20.px p),depths:=List.replicate (s.w*s.h) (Sb20.value z) },Sb20.says 0):=ZX q1 rfl
 rw [ea] at k
 refine ⟨_,rfl,c,d.dx,_,rfl,hv.ins,rfl,_,rfl,wa,_,_,_,rfl,rfl,hws,rfl,p,rfl,hp,fun H1 t s1 n1 e1=>?_⟩
 have hv1:=hv.same s1
 refine ⟨_,rfl,c,t,d.dx,_,s.w,s.h,_,rfl,hv1.ins,rfl,rfl,⟨by show 9<900;decide,hv.wf.w,hv.wf.h⟩,fun H2 cl' dl' c2 m1 m2 ncd e2 e3 k2=>?_⟩
 have kc:Kc c H1 H2:=k2
 have hpx:Yr K H2 t (Sb20.px p):=⟨kc.seqT hv1.ins (SqT.of e1),ZaU p⟩
 have hv2:=hv1.refill kc (as':=List.replicate (s.w*s.h) t) (cs:=List.replicate (s.w*s.h) (Sb20.px p)) (ds:=List.replicate (s.w*s.h) (Sb20.value z)) m1 m2 ncd c2 (by rw [e2,List.map_replicate]) (Zw.rep _ hpx) (by rw [e3,List.map_replicate]) (by rw [List.length_replicate,hv.wf.cl]) (by rw [List.length_replicate,hv.wf.dl])
 refine ⟨(by show 1≤sizeLine;decide),fun l hl=>?_⟩
 have nlc:l≠c:=fun q=>by rw [q,hv2.ins] at hl;cases hl
 have fl':H l=none:=by
  cases e:H l with
  | none=>rfl
  | some o=>rw [k2 _ _ (s1 _ _ e) nlc] at hl;cases hl
 have f1:Fr c al dl H H2 cl' dl':=⟨fun b o e n _ _=>k2 _ _ (s1 _ _ e) n,.inr (s1.free m1),.inr (s1.free m2)⟩
 exact k _ l cl' dl' (f1.more (Zh hl)) (Cv.mono (Cv.same ⟨_,hv2⟩ (Zh hl)) (Nat.le_succ _)) fl' Ze
theorem ZaJ (F:Df K mg "call_texture" (top 127) ["canvas","wholes","row"])
  (f_Texture:Mak P w K mg base CX0 1 "Texture" cTx ["self","log","colours"] (Zfz cTx))
  (f_colours_from_bytes:Cal P w K mg base CX0 1 "colours_from_bytes" ["row"] (ZmO K))
  (f_whole_within:Cal P w K mg base (CXR P w) 1 "whole_within" ["number","low","high"] (Yv RF))
  (c_LARGEST_LOG:Cst mg "LARGEST_LOG" (.int 6))
  (c_LAST_TEXTURE:Cst mg "LAST_TEXTURE" (.int 7)) (T:Zu K cCv cTx cFg cEg cCo cTr):Cal P w K mg base (CXR P w) 3 "call_texture" ["canvas","wholes","row"] (Zv K cCv cTx cFg RF NT 2 true):=by
 refine F.YT (N:=["canvas","wholes","row","k","log"]) fun S f cdv A outer s H vs Q E hr h=>?_
 obtain ⟨c,wa,ra,N,s,al,dl,ws,rw',call,rfl,⟨d,hv⟩,hws,hrw,hok,hlive,hN,k,kR,kT⟩:=h
 refine ⟨_,(Zc (Zl (i:=3) S.nd rfl (Or.inl rfl) (Zg f_whole_within (hr.mono (by decide)) rfl ZM (Za (Zt (r:=ZE K) ixK (pv 1) Zd (fun _ _=>rfl)) (Za Zd (Za (Zp c_LAST_TEXTURE rfl) Zb))))) (Zc (Zl (i:=4) S.nd rfl (Or.inl rfl) (Zg f_whole_within (hr.mono (by decide)) rfl ZM (Za (Zt (r:=ZE K) ixK (pv 1) Zd (fun _ _=>rfl)) (Za Zd (Za (Zp c_LARGEST_LOG rfl) Zb))))) (Zc (Zku (Ziz hr) (Zo (pv 0) rfl) (pv 3) (Jf f_Texture (hr.mono (by decide)) rfl Zi (Za (pv 4) (Za (Zg f_colours_from_bytes (hr.mono (by decide)) rfl Zi (Za (pv 2) Zb)) Zb))) rfl) (Zf (Zm (ZL (Za Zd Zb))))))),?_⟩
 obtain ⟨kk,lg,bs,rfl,rfl,rfl,hb,hbl,hsq⟩:=sh2 hok
 rw [JW] at hrw
 refine ⟨_,rfl,wa,_,_,_,rfl,rfl,hws,rfl,kk,0,7,rfl,fun q1=>?_,fun q1=>kR H (Zq.refl H) (ZR (by show (_&&_)=false;rw [ZN q1];rfl))⟩
 refine ⟨_,rfl,wa,_,_,_,rfl,rfl,hws,rfl,lg,0,6,rfl,fun q2=>?_,fun q2=>kR H (Zq.refl H) (ZR (by show (_&&_)=false;rw [ZN q2,Bool.and_false]))⟩
 obtain ⟨kn,rfl⟩:=Int.eq_ofNat_of_zero_le q1.1
 obtain ⟨ln,rfl⟩:=Int.eq_ofNat_of_zero_le q2.1
 have hlen:bs.length=4*(2^ln*2^ln):=by have:=hsq ⟨by lia,by lia,by lia,by lia⟩;rwa [Int.toNat_natCast] at this
 have ea:act s (.texture (kn:Int) (ln:Int) bs)=({ s with textures:=s.textures.set kn (some ⟨ln,Sb20.texels bs⟩) },Sb20.says 0):=ZX (by show (_&&_)=true;rw [(ZA _ _ _).mpr q1,(ZA _ _ _).mpr q2];rfl) rfl
 rw [ea] at k
 refine ⟨_,rfl,_,rfl,ra,bs,2^ln*2^ln,rfl,hrw,hlen,by lia,hb,fun H1 l1 as s1 n1 e1 hP1=>?_⟩
 intro x dx nx nd ne
 have sX:Zq H1 (upd (upd H1 dx (.own x)) x (.ins cTx dx [])):=Zr (Zh nd) nx
 refine ⟨x,dx,l1,ln,rfl,Ze,by lia,fun H2 c2 r2=>⟨rfl,?_⟩⟩
 have S2:Zq H1 H2:=Zq.made nx nd r2
 have s2:=s1.trans S2
 have hv2:=hv.same s2
 have nl1:l1∉[al,dl]:=fun z=>by
  simp at z
  rcases z with rfl | rfl
  ·rw [hv.cs] at n1;cases n1
  ·rw [hv.ds] at n1;cases n1
 have htx:QW K cTx H2 [al,dl] x ⟨ln,Sb20.texels bs⟩:=⟨dx,l1,as,c2,S2 _ _ e1,nl1,hP1.same S2,(by show ln≤6;lia),by show (Sb20.texels bs).length=_;rw [Jl hlen]⟩
 have hv3:=hv2.Znt (k:=kn) (by lia) htx
 refine ⟨_,rfl,c,cCv,d.dx,_,_,rfl,hv2.ins,T.Canvas.cl,T.Canvas.n_textures,rfl,_,rfl,d.tx,_,rfl,ZiQ.k (k:=Sum.inl (kn:Int)) hv2.tx (Nat.lt_of_le_of_lt hv2.tn (Nat.lt_of_lt_of_le hN (by decide))),?_⟩
 refine ⟨(by show 1≤sizeLine;decide),fun l hl=>?_⟩
 have ntx:l≠d.tx:=fun q=>by rw [q,Ze] at hl;cases hl
 rw [Zn ntx] at hl
 have hl':upd H2 d.tx (.dK (putK d.kvs (Sum.inl (kn:Int)) (.ref x))) l=none:=by rw [Zn ntx];exact hl
 have f1:Fr c al dl H (upd H2 d.tx (.dK (putK d.kvs (Sum.inl (kn:Int)) (.ref x)))) al dl:=⟨fun b o e _ _ nd'=>by rw [Zn (Xm (s2 _ _ e) hv2.tx (nd' _))];exact s2 _ _ e,.inl rfl,.inl rfl⟩
 exact k _ l al dl (f1.more (Zh hl')) (Cv.same ⟨_,hv3⟩ (Zh hl')) (s2.free hl) Ze
theorem ZhK {H H2:Hp}{c al dl cl' dl':Addr}{N:Nat}{s':Sb20.St}{Q:VK}(f1:Fr c al dl H H2 cl' dl') (kc:Kc c H H2) (hv:Cv K cCv cTx cFg H2 c N s' cl' dl')
  (k:∀ (H':Hp) (l a b:Addr),Fr c al dl H H' a b→Cv K cCv cTx cFg H' c (N+1) s' a b→H l=none→H' l=some (.lst [V.int 0])→Q (.ref l) H'):∀ l,H2 l=none→Q (.ref l) (upd H2 l (.lst [.int 0])):=fun l hl=>by
 have nlc:l≠c:=fun q=>by
  obtain ⟨d1,hv1⟩:=hv
  rw [q,hv1.ins] at hl;cases hl
 have fl':H l=none:=by
  cases e:H l with
  | none=>rfl
  | some o=>rw [kc _ _ e nlc] at hl;cases hl
 exact k _ l cl' dl' (f1.more (Zh hl)) ((hv.same (Zh hl)).mono (Nat.le_succ _)) fl' Ze
theorem Fr.kc {c al dl:Addr}{H H2:Hp}(kc:Kc c H H2):Fr c al dl H H2 al dl:=⟨fun b o e n _ _=>kc _ _ e n,.inl rfl,.inl rfl⟩
theorem Zcg (F:Df K mg "call_matrix" (top 128) ["canvas","wholes","row"])
  (f_singles_within:Cal P w K mg base (CXR P w) 6 "singles_within" ["row","limit"] (Zaz K RF))
  (c_FARTHEST:Cst mg "FARTHEST" (.int 1048576)) (T:Zu K cCv cTx cFg cEg cCo cTr):Cal P w K mg base (CXR P w) 7 "call_matrix" ["canvas","wholes","row"] (Zv K cCv cTx cFg RF NT 3 true):=by
 refine F.YT (N:=["canvas","wholes","row"]) fun S f cdv A outer s H vs Q E hr h=>?_
 obtain ⟨c,wa,ra,N,s,al,dl,ws,rw',call,rfl,⟨d,hv⟩,hws,hrw,hok,hlive,hN,k,kR,kT⟩:=h
 refine ⟨_,(Zc (Zy (pv 0) (Zg f_singles_within (hr.mono (by decide)) rfl ZM (Za (pv 2) (Za (Zp c_FARTHEST rfl) Zb))) rfl) (Zf (Zm (ZL (Za Zd Zb))))),?_⟩
 obtain ⟨bs,rfl,rfl,hlen,hb⟩:=sh3 hok
 rw [JW] at hrw
 refine ⟨_,rfl,ra,bs,1048576,Sb20.BIG,rfl,hrw,hb,by lia,⟨by decide,by decide⟩,by decide,fun q1 H1 l1 s1 n1 e1=>?_,fun q1 H1 s1=>kR H1 s1 (ZR q1)⟩
 have ea:act s (.matrix bs)=({ s with matrix:=Sb20.plain bs },Sb20.says 0):=ZX q1 rfl
 rw [ea] at k
 have hv1:=hv.same s1
 have nl1:l1∉[al,dl]:=fun z=>by
  simp at z
  rcases z with rfl | rfl
  ·rw [hv.cs] at n1;cases n1
  ·rw [hv.ds] at n1;cases n1
 refine ⟨_,rfl,c,cCv,d.dx,_,rfl,hv1.ins,T.Canvas.cl,T.Canvas.n_matrix,Yx,Zx fun H2 c2 k2=>?_⟩
 have kc1:Kc c H1 H2:=k2
 have kc:Kc c H H2:=fun b o e n=>k2 _ _ (s1 _ _ e) n
 have hv2:=hv1.reset kc1 c2 ⟨kc1.other hv1.ins e1 (fun _ _ _ z=>by cases z),nl1,by unfold Sb20.plain;rw [List.length_map];exact hlen,QH q1 YL.2 YL.1⟩ (kc1.lst hv1.ins hv1.vw fun _ _ _ n=>n) (kc1.lst hv1.ins hv1.lt fun _ _ _ n=>n) (kc1.fog hv1.ins rfl hv1.fg)
 exact ⟨(by show 1≤sizeLine;decide),ZhK (Fr.kc kc) kc ⟨_,hv2⟩ k⟩
theorem Zdn (F:Df K mg "call_view" (top 129) ["canvas","wholes","row"])
  (f_singles_within:Cal P w K mg base (CXR P w) 6 "singles_within" ["row","limit"] (Zaz K RF))
  (c_FARTHEST:Cst mg "FARTHEST" (.int 1048576)) (T:Zu K cCv cTx cFg cEg cCo cTr):Cal P w K mg base (CXR P w) 7 "call_view" ["canvas","wholes","row"] (Zv K cCv cTx cFg RF NT 4 true):=by
 refine F.YT (N:=["canvas","wholes","row"]) fun S f cdv A outer s H vs Q E hr h=>?_
 obtain ⟨c,wa,ra,N,s,al,dl,ws,rw',call,rfl,⟨d,hv⟩,hws,hrw,hok,hlive,hN,k,kR,kT⟩:=h
 refine ⟨_,(Zc (Zy (pv 0) (Zg f_singles_within (hr.mono (by decide)) rfl ZM (Za (pv 2) (Za (Zp c_FARTHEST rfl) Zb))) rfl) (Zf (Zm (ZL (Za Zd Zb))))),?_⟩
 obtain ⟨bs,rfl,rfl,hlen,hb⟩:=sh4 hok
 rw [JW] at hrw
 refine ⟨_,rfl,ra,bs,1048576,Sb20.BIG,rfl,hrw,hb,by lia,⟨by decide,by decide⟩,by decide,fun q1 H1 l1 s1 n1 e1=>?_,fun q1 H1 s1=>kR H1 s1 (ZR q1)⟩
 have ea:act s (.view bs)=({ s with view:=Sb20.plain bs },Sb20.says 0):=ZX q1 rfl
 rw [ea] at k
 have hv1:=hv.same s1
 have nl1:l1∉[al,dl]:=fun z=>by
  simp at z
  rcases z with rfl | rfl
  ·rw [hv.cs] at n1;cases n1
  ·rw [hv.ds] at n1;cases n1
 refine ⟨_,rfl,c,cCv,d.dx,_,rfl,hv1.ins,T.Canvas.cl,T.Canvas.n_view,Yx,Zx fun H2 c2 k2=>?_⟩
 have kc1:Kc c H1 H2:=k2
 have kc:Kc c H H2:=fun b o e n=>k2 _ _ (s1 _ _ e) n
 have hv2:=hv1.reset kc1 c2 (kc1.lst hv1.ins hv1.mx fun _ _ _ n=>n) ⟨kc1.other hv1.ins e1 (fun _ _ _ z=>by cases z),nl1,by unfold Sb20.plain;rw [List.length_map];exact hlen,QH q1 YL.2 YL.1⟩ (kc1.lst hv1.ins hv1.lt fun _ _ _ n=>n) (kc1.fog hv1.ins rfl hv1.fg)
 exact ⟨(by show 1≤sizeLine;decide),ZhK (Fr.kc kc) kc ⟨_,hv2⟩ k⟩
theorem Zcw (F:Df K mg "call_light" (top 131) ["canvas","wholes","row"])
  (f_singles_within:Cal P w K mg base (CXR P w) 6 "singles_within" ["row","limit"] (Zaz K RF))
  (c_BRIGHTEST_picture:Cst mg "BRIGHTEST_picture" (.int 1)) (T:Zu K cCv cTx cFg cEg cCo cTr):Cal P w K mg base (CXR P w) 7 "call_light" ["canvas","wholes","row"] (Zv K cCv cTx cFg RF NT 6 true):=by
 refine F.YT (N:=["canvas","wholes","row"]) fun S f cdv A outer s H vs Q E hr h=>?_
 obtain ⟨c,wa,ra,N,s,al,dl,ws,rw',call,rfl,⟨d,hv⟩,hws,hrw,hok,hlive,hN,k,kR,kT⟩:=h
 refine ⟨_,(Zc (Zy (pv 0) (Zg f_singles_within (hr.mono (by decide)) rfl ZM (Za (pv 2) (Za (Zp c_BRIGHTEST_picture rfl) Zb))) rfl) (Zf (Zm (ZL (Za Zd Zb))))),?_⟩
 obtain ⟨bs,rfl,rfl,hlen,hb⟩:=sh6 hok
 rw [JW] at hrw
 refine ⟨_,rfl,ra,bs,1,Sb20.ONE,rfl,hrw,hb,by lia,⟨by decide,by decide⟩,by decide,fun q1 H1 l1 s1 n1 e1=>?_,fun q1 H1 s1=>kR H1 s1 (ZR q1)⟩
 have ea:act s (.light bs)=({ s with light:=Sb20.plain bs },Sb20.says 0):=ZX q1 rfl
 rw [ea] at k
 have hv1:=hv.same s1
 have nl1:l1∉[al,dl]:=fun z=>by
  simp at z
  rcases z with rfl | rfl
  ·rw [hv.cs] at n1;cases n1
  ·rw [hv.ds] at n1;cases n1
 refine ⟨_,rfl,c,cCv,d.dx,_,rfl,hv1.ins,T.Canvas.cl,T.Canvas.n_light,Yx,Zx fun H2 c2 k2=>?_⟩
 have kc1:Kc c H1 H2:=k2
 have kc:Kc c H H2:=fun b o e n=>k2 _ _ (s1 _ _ e) n
 have hv2:=hv1.reset kc1 c2 (kc1.lst hv1.ins hv1.mx fun _ _ _ n=>n) (kc1.lst hv1.ins hv1.vw fun _ _ _ n=>n) ⟨kc1.other hv1.ins e1 (fun _ _ _ z=>by cases z),nl1,by unfold Sb20.plain;rw [List.length_map];exact hlen,QH q1 ZiU.2 ZiU.1⟩ (kc1.fog hv1.ins rfl hv1.fg)
 exact ⟨(by show 1≤sizeLine;decide),ZhK (Fr.kc kc) kc ⟨_,hv2⟩ k⟩
theorem ZbD (F:Df K mg "call_points" (top 130) ["canvas","wholes","row"])
  (f_moved_points:Cal P w K mg base CX0 6 "moved_points" ["matrix","view","numbers"] (Zej K))
  (f_singles_within:Cal P w K mg base (CXR P w) 6 "singles_within" ["row","limit"] (Zaz K RF))
  (f_whole_within:Cal P w K mg base (CXR P w) 1 "whole_within" ["number","low","high"] (Yv RF))
  (c_FARTHEST:Cst mg "FARTHEST" (.int 1048576))
  (c_MOST_POINTS:Cst mg "MOST_POINTS" (.int 256)) (T:Zu K cCv cTx cFg cEg cCo cTr):Cal P w K mg base (CXR P w) 7 "call_points" ["canvas","wholes","row"] (Zv K cCv cTx cFg RF NT 5 true):=by
 refine F.YT (N:=["canvas","wholes","row"]) fun S f cdv A outer s H vs Q E hr h=>?_
 obtain ⟨c,wa,ra,N,s,al,dl,ws,rw',call,rfl,⟨d,hv⟩,hws,hrw,hok,hlive,hN,k,kR,kT⟩:=h
 refine ⟨_,(Zc (ZU (Zg f_whole_within (hr.mono (by decide)) rfl ZM (Za (Zt (r:=ZE K) ixK (pv 1) Zd (fun _ _=>rfl)) (Za Zd (Za (Zp c_MOST_POINTS rfl) Zb))))) (Zf (Zm (Zg f_moved_points (hr.mono (by decide)) rfl Zi (Za (Zo (pv 0) rfl) (Za (Zo (pv 0) rfl) (Za (Zg f_singles_within (hr.mono (by decide)) rfl ZM (Za (pv 2) (Za (Zp c_FARTHEST rfl) Zb))) Zb))))))),?_⟩
 obtain ⟨n,bs,rfl,rfl,rfl,hb,hbl,hlen⟩:=sh5 hok
 rw [JW] at hrw
 have cl:=T.Canvas.cl
 refine ⟨_,rfl,wa,_,_,_,rfl,rfl,hws,rfl,n,0,256,rfl,fun q1=>?_,fun q1=>kR H (Zq.refl H) (ZR (by show (_&&_)=false;rw [ZN q1];rfl))⟩
 obtain ⟨m,rfl⟩:=Int.eq_ofNat_of_zero_le q1.1
 have hl:=hlen ⟨by lia,by lia⟩
 rw [Int.toNat_natCast] at hl
 refine ⟨_,rfl,c,cCv,d.dx,_,_,rfl,hv.ins,cl,T.Canvas.n_matrix,rfl,_,rfl,c,cCv,d.dx,_,_,rfl,hv.ins,cl,T.Canvas.n_view,rfl,_,rfl,ra,bs,1048576,Sb20.BIG,rfl,hrw,hb,by lia,⟨by decide,by decide⟩,by decide,fun q2 H1 l1 s1 n1 e1=>?_,fun q2 H1 s1=>kR H1 s1 (ZR (by show (_&&_)=false;rw [q2,Bool.and_false]))⟩
 have hv1:=hv.same s1
 have pb:=QH q2 YL.2 YL.1
 refine ⟨d.mx,d.vw,l1,s.matrix,s.view,Sb20.plain bs,m,rfl,⟨SqL.of hv1.mx.1,hv1.mx.2.2⟩,⟨SqL.of hv1.vw.1,hv1.vw.2.2⟩,SqL.of e1,by unfold Sb20.plain;rw [List.length_map];exact hl,by lia,pb,fun H2 l2 s2 n2 e2=>?_⟩
 have ea:act s (.points (m:Int) bs)=Sb20Neutral.many s (.points (m:Int) bs):=JD (by show (_&&_)=true;rw [(ZA _ _ _).mpr q1,q2];rfl) rfl
 have efm:(Sb20.threes (Sb20.plain bs)).flatMap (ZeW s.matrix s.view)=(Sb20.threes (Sb20.plain bs)).flatMap (Sb20Neutral.standing s):=Jw fun p hp=>by
  obtain ⟨h1,h2,h3⟩:=Jr hp
  obtain ⟨x,y,z⟩:=p
  rw [ZeO hv.mx.2.2.2 (pb _ h1) (pb _ h2) (pb _ h3)]
  rfl
 rw [efm] at e2
 rw [ea] at k
 have s12:=s1.trans s2
 exact k H2 l2 al dl (Fr.same s12) (Cv.mono ⟨_,hv.same s12⟩ (Nat.le_succ _)) (s1.free n2) e2
theorem ZaM (F:Df K mg "call_normals" (top 132) ["canvas","wholes","row"])
  (f_lit_normals:Cal P w K mg base CX0 5 "lit_normals" ["light","numbers"] (ZfF K))
  (f_singles_within:Cal P w K mg base (CXR P w) 6 "singles_within" ["row","limit"] (Zaz K RF))
  (f_whole_within:Cal P w K mg base (CXR P w) 1 "whole_within" ["number","low","high"] (Yv RF))
  (c_LONGEST_NORMAL:Cst mg "LONGEST_NORMAL" (.int 1024))
  (c_MOST_POINTS:Cst mg "MOST_POINTS" (.int 256)) (T:Zu K cCv cTx cFg cEg cCo cTr):Cal P w K mg base (CXR P w) 7 "call_normals" ["canvas","wholes","row"] (Zv K cCv cTx cFg RF NT 7 true):=by
 refine F.YT (N:=["canvas","wholes","row"]) fun S f cdv A outer s H vs Q E hr h=>?_
 obtain ⟨c,wa,ra,N,s,al,dl,ws,rw',call,rfl,⟨d,hv⟩,hws,hrw,hok,hlive,hN,k,kR,kT⟩:=h
 refine ⟨_,(Zc (ZU (Zg f_whole_within (hr.mono (by decide)) rfl ZM (Za (Zt (r:=ZE K) ixK (pv 1) Zd (fun _ _=>rfl)) (Za Zd (Za (Zp c_MOST_POINTS rfl) Zb))))) (Zf (Zm (Zg f_lit_normals (hr.mono (by decide)) rfl Zi (Za (Zo (pv 0) rfl) (Za (Zg f_singles_within (hr.mono (by decide)) rfl ZM (Za (pv 2) (Za (Zp c_LONGEST_NORMAL rfl) Zb))) Zb)))))),?_⟩
 obtain ⟨n,bs,rfl,rfl,rfl,hb,hbl,hlen⟩:=sh7 hok
 rw [JW] at hrw
 have cl:=T.Canvas.cl
 refine ⟨_,rfl,wa,_,_,_,rfl,rfl,hws,rfl,n,0,256,rfl,fun q1=>?_,fun q1=>kR H (Zq.refl H) (ZR (by show (_&&_)=false;rw [ZN q1];rfl))⟩
 obtain ⟨m,rfl⟩:=Int.eq_ofNat_of_zero_le q1.1
 have hl:=hlen ⟨by lia,by lia⟩
 rw [Int.toNat_natCast] at hl
 have hneg:(-1024*Sb20.ONE:Int) = -(1024*Sb20.ONE):=by decide
 refine ⟨_,rfl,c,cCv,d.dx,_,_,rfl,hv.ins,cl,T.Canvas.n_light,rfl,_,rfl,ra,bs,1024,1024*Sb20.ONE,rfl,hrw,hb,by lia,⟨by decide,by decide⟩,rfl,fun q2 H1 l1 s1 n1 e1=>?_,fun q2 H1 s1=>kR H1 s1 (ZR (by show (_&&Sb20.ranges (-1024*Sb20.ONE) (1024*Sb20.ONE) bs)=false;rw [hneg,q2,Bool.and_false]))⟩
 have hv1:=hv.same s1
 have pb:=QH q2 ZnE.2 ZnE.1
 refine ⟨d.lt,l1,s.light,Sb20.plain bs,m,rfl,⟨SqL.of hv1.lt.1,hv1.lt.2.2⟩,SqL.of e1,by unfold Sb20.plain;rw [List.length_map];exact hl,by lia,pb,fun H2 l2 s2 n2 e2=>?_⟩
 have ea:act s (.normals (m:Int) bs)=Sb20Neutral.many s (.normals (m:Int) bs):=JD (by show (_&&Sb20.ranges (-1024*Sb20.ONE) (1024*Sb20.ONE) bs)=true;rw [(ZA _ _ _).mpr q1,hneg,q2];rfl) rfl
 have efm:(Sb20.threes (Sb20.plain bs)).flatMap (Zfl s.light)=(Sb20.threes (Sb20.plain bs)).flatMap (Sb20Neutral.lit s):=Jw fun p hp=>by
  obtain ⟨h1,h2,h3⟩:=Jr hp
  obtain ⟨x,y,z⟩:=p
  rw [Zmt (pb _ h1) (pb _ h2) (pb _ h3)]
  rfl
 rw [efm] at e2
 rw [ea] at k
 have s12:=s1.trans s2
 exact k H2 l2 al dl (Fr.same s12) (Cv.mono ⟨_,hv.same s12⟩ (Nat.le_succ _)) (s1.free n2) e2
end
end Sg
namespace Sg
open PySem PySem.Spec PyProof.Rows L2 LX SbM
theorem sub_pos {a b:Int}(h:Sb20.ONE≤(b-a)*1024):0<Sb20.sub b a:=by
 unfold Sb20.sub
 have h1:((2^139*1:Nat):Int)≤b-a:=by
  have e:Sb20.ONE=2^149:=rfl
  rw [e] at h
  have:((2^139*1:Nat):Int)=2^139:=by decide
  lia
 have:=YB (a:=b-a) (b:=1) (k:=139) (by decide) h1
 have e2:(0:Int)<((2^139:Nat):Int):=by decide
 lia
section
variable {P:Program}{w:World}{K:PySem.W.Frag}{mg:Str→Option Value}{base:Heap}{RF NT cCv cTx cFg cEg cCo cTr:Addr}
theorem Zet (F:Df K mg "call_fog" (top 133) ["canvas","wholes","row"])
  (f_Fog:Mak P w K mg base CX0 3 "Fog" cFg ["self","colour","near","far"] (Zfu cFg))
  (f_colour_from_number:Cal P w K mg base CX0 1 "colour_from_number" ["number"] Zih)
  (f_power_of_two:Cal P w K mg base CX0 1 "power_of_two" ["exponent"] QF)
  (f_single_within:Cal P w K mg base (CXR P w) 5 "single_within" ["bits","limit"] (ZfD RF))
  (c_FARTHEST:Cst mg "FARTHEST" (.int 1048576))
  (q_Refused:ExcAt K RF) (m_Refused:mg "Refused"=some (.ref RF)) (T:Zu K cCv cTx cFg cEg cCo cTr):Cal P w K mg base (CXR P w) 6 "call_fog" ["canvas","wholes","row"] (Zv K cCv cTx cFg RF NT 8 false):=by
 refine F.YT (N:=["canvas","wholes","row","near","far"]) fun S f cdv A outer s H vs Q E hr h=>?_
 obtain ⟨c,wa,ra,N,s,al,dl,ws,rw',call,rfl,⟨d,hv⟩,hws,hrw,hok,hlive,hN,k,kR,kT⟩:=h
 refine ⟨_,(Zc (Zl (i:=3) S.nd rfl (Or.inl rfl) (Zg f_single_within (hr.mono (by decide)) rfl ZM (Za (Zt (r:=ZE K) ixK (pv 1) Zd (fun _ _=>rfl)) (Za (Zp c_FARTHEST rfl) Zb)))) (Zc (Zl (i:=4) S.nd rfl (Or.inl rfl) (Zg f_single_within (hr.mono (by decide)) rfl ZM (Za (Zt (r:=ZE K) ixK (pv 1) Zd (fun _ _=>rfl)) (Za (Zp c_FARTHEST rfl) Zb)))) (Zc (Yg (ZC ltC (Zj YK (pv 4) (pv 3)) (Zg f_power_of_two (hr.mono (by decide)) rfl Zi (Za (YJ Qk Zd) Zb)) (ZD _)) (Zf (JL rfl hpR q_Refused rfl m_Refused)) ZJ) (Zc (Zy (pv 0) (Jf f_Fog (hr.mono (by decide)) rfl Zi (Za (Zg f_colour_from_number (hr.mono (by decide)) rfl Zi (Za (Zt (r:=ZE K) ixK (pv 1) Zd (fun _ _=>rfl)) Zb)) (Za (pv 3) (Za (pv 4) Zb)))) rfl) (Zf (Zm (ZL (Za Zd Zb)))))))),?_⟩
 obtain ⟨p,a,b,rfl,⟨hp,ha,hb⟩,rfl⟩:=sh8 hok
 refine ⟨_,rfl,wa,_,_,_,rfl,rfl,hws,rfl,a,1048576,Sb20.BIG,rfl,⟨ha,by decide,by decide⟩,by decide,fun q1=>?_,fun q1=>kR H (Zq.refl H) (ZR (by show (_&&_)=false;rw [q1];rfl))⟩
 refine ⟨_,rfl,wa,_,_,_,rfl,rfl,hws,rfl,b,1048576,Sb20.BIG,rfl,⟨hb,by decide,by decide⟩,by decide,fun q2=>?_,fun q2=>kR H (Zq.refl H) (ZR (by show (_&&(_&&_))=false;rw [q2,Bool.false_and,Bool.and_false]))⟩
 have hfits:Sb20.fits (.fog p a b)=decide (Sb20.ONE≤(Sb20.value b-Sb20.value a)*1024):=by show (_&&(_&&_))=_;rw [q1,q2];rfl
 have b1:=Qs q1 YL.2 YL.1
 have b2:=Qs q2 YL.2 YL.1
 have eone:Sb20.ONE=2^149:=rfl
 refine ⟨_,rfl,_,rfl,_,_,_,rfl,rfl,rfl,_,_,rfl,rfl,_,(2:Int)^139,rfl,⟨by decide,by decide⟩,by decide,_,_,rfl,rfl,fun bb hbb=>⟨_,rfl,Ye (fun c1=>?_) fun c1=>?_⟩⟩
 ·have:=hbb.mp c1
  refine kR H (Zq.refl H) (ZR ?_)
  rw [hfits,decide_eq_false_iff_not,eone]
  lia
 ·have hge:¬ Sb20.value b-Sb20.value a<2^139:=fun z=>c1 (hbb.mpr z)
  have hok2:Sb20.ONE≤(Sb20.value b-Sb20.value a)*1024:=by rw [eone];lia
  have ea:act s (.fog p a b)=({ s with fog:=some ⟨Sb20.px p,Sb20.value b,Sb20.div (128*Sb20.ONE) (Sb20.sub (Sb20.value b) (Sb20.value a))⟩ },Sb20.says 0):=ZX (by rw [hfits,decide_eq_true_eq];exact hok2) rfl
  rw [ea] at k
  have hpos:=sub_pos hok2
  refine ⟨_,rfl,wa,_,_,_,rfl,rfl,hws,rfl,p,rfl,hp,fun H1 t s1 n1 e1=>?_⟩
  refine ⟨_,rfl,_,rfl,fun x dx nx nd ne=>?_⟩
  have sX:Zq H1 (upd (upd H1 dx (.own x)) x (.ins cFg dx [])):=Zr (Zh nd) nx
  refine ⟨x,dx,t,_,_,rfl,Ze,⟨b1,b2,hpos⟩,fun H2 c2 r2=>⟨rfl,?_⟩⟩
  have S2:Zq H1 H2:=Zq.made nx nd r2
  have s2:=s1.trans S2
  have hv2:=hv.same s2
  refine ⟨_,rfl,c,cCv,d.dx,_,rfl,hv2.ins,T.Canvas.cl,T.Canvas.n_fog,Yx,Zx fun H3 c3 k3=>?_⟩
  have kc1:Kc c H2 H3:=k3
  have kc:Kc c H H3:=fun b o e n=>k3 _ _ (s2 _ _ e) n
  have hfog:Xi K cFg H2 (.ref x) (some ⟨Sb20.px p,Sb20.value b,Sb20.div (128*Sb20.ONE) (Sb20.sub (Sb20.value b) (Sb20.value a))⟩):=⟨x,dx,t,rfl,c2,⟨SqT.of (S2 _ _ e1),ZaU p⟩,b2,(Bd.sdiv (k:=157) (show Bd 157 (128*Sb20.ONE) by unfold Bd;decide) (Int.ne_of_gt hpos)).mono (by decide)⟩
  have hv3:=hv2.reset kc1 c3 (kc1.lst hv2.ins hv2.mx fun _ _ _ n=>n) (kc1.lst hv2.ins hv2.vw fun _ _ _ n=>n) (kc1.lst hv2.ins hv2.lt fun _ _ _ n=>n) (kc1.fog hv2.ins rfl hfog)
  exact ⟨(by show 1≤sizeLine;decide),ZhK (Fr.kc kc) kc ⟨_,hv3⟩ k⟩
theorem ZdP (F:Df K mg "call_fade" (top 137) ["canvas","wholes","row"])
  (f_colour_from_number:Cal P w K mg base CX0 1 "colour_from_number" ["number"] Zih)
  (f_fade_colours:Cal P w K mg base CX0 3 "fade_colours" ["canvas","colour","by"] (ZfH K cCv cTx cFg))
  (f_whole_within:Cal P w K mg base (CXR P w) 1 "whole_within" ["number","low","high"] (Yv RF))
  (c_MOST_FADED:Cst mg "MOST_FADED" (.int 128)):Cal P w K mg base (CXR P w) 4 "call_fade" ["canvas","wholes","row"] (Zv K cCv cTx cFg RF NT 11 false):=by
 refine F.YT (N:=["canvas","wholes","row","by"]) fun S f cdv A outer s H vs Q E hr h=>?_
 obtain ⟨c,wa,ra,N,s,al,dl,ws,rw',call,rfl,⟨d,hv⟩,hws,hrw,hok,hlive,hN,k,kR,kT⟩:=h
 refine ⟨_,(Zc (Zl (i:=3) S.nd rfl (Or.inl rfl) (Zg f_whole_within (hr.mono (by decide)) rfl ZM (Za (Zt (r:=ZE K) ixK (pv 1) Zd (fun _ _=>rfl)) (Za Zd (Za (Zp c_MOST_FADED rfl) Zb))))) (Zc (ZU (Zg f_fade_colours (hr.mono (by decide)) rfl Zi (Za (pv 0) (Za (Zg f_colour_from_number (hr.mono (by decide)) rfl Zi (Za (Zt (r:=ZE K) ixK (pv 1) Zd (fun _ _=>rfl)) Zb)) (Za (pv 3) Zb))))) (Zf (Zm (ZL (Za Zd Zb)))))),?_⟩
 obtain ⟨p,by',rfl,hp,rfl⟩:=ZnV hok
 refine ⟨_,rfl,wa,_,_,_,rfl,rfl,hws,rfl,by',0,128,rfl,fun q1=>?_,fun q1=>kR H (Zq.refl H) (ZR (ZN q1))⟩
 obtain ⟨m,rfl⟩:=Int.eq_ofNat_of_zero_le q1.1
 have ea:act s (.fade p (m:Int))=({ s with colours:=s.colours.map fun (q:Px)=>Sb20.Px.zip (Sb20.mixed m) q (Sb20.px p) },Sb20.says 0):=ZX ((ZA _ _ _).mpr q1) rfl
 rw [ea] at k
 refine ⟨_,rfl,_,rfl,wa,_,_,_,rfl,rfl,hws,rfl,p,rfl,hp,fun H1 t s1 n1 e1=>?_⟩
 have hv1:=hv.same s1
 refine ⟨_,rfl,c,t,Sb20.px p,m,N,s,al,dl,rfl,⟨d,hv1⟩,⟨SqT.of e1,ZaU p⟩,by lia,fun H2 cl' kc1 fr hv2=>?_⟩
 have kc:Kc c H H2:=fun b o e n=>kc1 _ _ (s1 _ _ e) n
 exact ⟨(by show 1≤sizeLine;decide),ZhK ⟨fun b o e n _ _=>kc _ _ e n,.inr (s1.free fr),.inl rfl⟩ kc hv2 k⟩
theorem Zcm (F:Df K mg "call_soften" (top 138) ["canvas","wholes","row"])
  (f_soften_colours:Cal P w K mg base CX0 3 "soften_colours" ["canvas"] (ZfL K cCv cTx cFg)):Cal P w K mg base (CXR P w) 4 "call_soften" ["canvas","wholes","row"] (Zv K cCv cTx cFg RF NT 12 false):=by
 refine F.YT (N:=["canvas","wholes","row"]) fun S f cdv A outer s H vs Q E hr h=>?_
 obtain ⟨c,wa,ra,N,s,al,dl,ws,rw',call,rfl,⟨d,hv⟩,hws,hrw,hok,hlive,hN,k,kR,kT⟩:=h
 refine ⟨_,(Zc (ZU (Zg f_soften_colours (hr.mono (by decide)) rfl Zi (Za (pv 0) Zb))) (Zf (Zm (ZL (Za Zd Zb))))),?_⟩
 obtain rfl:=Zoi hok
 have ea:act s .soften=({ s with colours:=Sb20.softened s },Sb20.says 0):=ZX rfl rfl
 rw [ea] at k
 refine ⟨_,rfl,c,N,s,al,dl,rfl,⟨d,hv⟩,hlive (by decide),fun H2 cl' kc fr hv2=>?_⟩
 exact ⟨(by show 1≤sizeLine;decide),ZhK ⟨fun b o e n _ _=>kc _ _ e n,.inr fr,.inl rfl⟩ kc hv2 k⟩
theorem Zbl (F:Df K mg "call_sprite" (top 136) ["canvas","wholes","row"])
  (f_texture_at:Mth P w K mg base (CXR P w) 1 cCv "texture_at" ["self","k"] (ZaX cCv NT))
  (f_draw_sprite:Cal P w K mg base CX0 6 "draw_sprite" ["canvas","texture","how","x","y","depth"] (Zcf K cCv cTx cFg))
  (f_single_within:Cal P w K mg base (CXR P w) 5 "single_within" ["bits","limit"] (ZfD RF))
  (f_whole_within:Cal P w K mg base (CXR P w) 1 "whole_within" ["number","low","high"] (Yv RF))
  (c_FARTHEST:Cst mg "FARTHEST" (.int 1048576))
  (c_FIRST_SPRITE_PLACE:Cst mg "FIRST_SPRITE_PLACE" (.int (-256)))
  (c_LAST_SPRITE_HOW:Cst mg "LAST_SPRITE_HOW" (.int 3))
  (c_LAST_SPRITE_PLACE:Cst mg "LAST_SPRITE_PLACE" (.int 255))
  (c_LAST_TEXTURE:Cst mg "LAST_TEXTURE" (.int 7)):Cal P w K mg base (CXR P w) 7 "call_sprite" ["canvas","wholes","row"] (Zv K cCv cTx cFg RF NT 10 false):=by
 refine F.YT (N:=["canvas","wholes","row","k","how","x","y","depth"]) fun S f cdv A outer s H vs Q E hr h=>?_
 obtain ⟨c,wa,ra,N,s,al,dl,ws,rw',call,rfl,⟨d,hv⟩,hws,hrw,hok,hlive,hN,k,kR,kT⟩:=h
 refine ⟨_,(Zc (Zl (i:=3) S.nd rfl (Or.inl rfl) (Zg f_whole_within (hr.mono (by decide)) rfl ZM (Za (Zt (r:=ZE K) ixK (pv 1) Zd (fun _ _=>rfl)) (Za Zd (Za (Zp c_LAST_TEXTURE rfl) Zb))))) (Zc (Zl (i:=4) S.nd rfl (Or.inl rfl) (Zg f_whole_within (hr.mono (by decide)) rfl ZM (Za (Zt (r:=ZE K) ixK (pv 1) Zd (fun _ _=>rfl)) (Za Zd (Za (Zp c_LAST_SPRITE_HOW rfl) Zb))))) (Zc (Zl (i:=5) S.nd rfl (Or.inl rfl) (Zg f_whole_within (hr.mono (by decide)) rfl ZM (Za (Zt (r:=ZE K) ixK (pv 1) Zd (fun _ _=>rfl)) (Za (Zp c_FIRST_SPRITE_PLACE rfl) (Za (Zp c_LAST_SPRITE_PLACE rfl) Zb))))) (Zc (Zl (i:=6) S.nd rfl (Or.inl rfl) (Zg f_whole_within (hr.mono (by decide)) rfl ZM (Za (Zt (r:=ZE K) ixK (pv 1) Zd (fun _ _=>rfl)) (Za (Zp c_FIRST_SPRITE_PLACE rfl) (Za (Zp c_LAST_SPRITE_PLACE rfl) Zb))))) (Zc (Zl (i:=7) S.nd rfl (Or.inl rfl) (Zg f_single_within (hr.mono (by decide)) rfl ZM (Za (Zt (r:=ZE K) ixK (pv 1) Zd (fun _ _=>rfl)) (Za (Zp c_FARTHEST rfl) Zb)))) (Zf (Zm (ZL (Za (Zg f_draw_sprite (hr.mono (by decide)) rfl Zi (Za (pv 0) (Za (YE f_texture_at (hr.mono (by decide)) ZM (pv 0) (Za (pv 3) Zb)) (Za (pv 4) (Za (pv 5) (Za (pv 6) (Za (pv 7) Zb))))))) Zb))))))))),?_⟩
 obtain ⟨kk,how,x,y,z,rfl,hz,rfl⟩:=Zob hok
 refine ⟨_,rfl,wa,_,_,_,rfl,rfl,hws,rfl,kk,0,7,rfl,fun q1=>?_,fun q1=>kR H (Zq.refl H) (ZR (by show (_&&(_&&(_&&(_&&_))))=false;rw [ZN q1];rfl))⟩
 refine ⟨_,rfl,wa,_,_,_,rfl,rfl,hws,rfl,how,0,3,rfl,fun q2=>?_,fun q2=>kR H (Zq.refl H) (ZR (by show (_&&(_&&(_&&(_&&_))))=false;rw [ZN q2,Bool.false_and,Bool.and_false]))⟩
 refine ⟨_,rfl,wa,_,_,_,rfl,rfl,hws,rfl,x,-256,255,rfl,fun q3=>?_,fun q3=>kR H (Zq.refl H) (ZR (by show (_&&(_&&(_&&(_&&_))))=false;rw [ZN q3,Bool.false_and,Bool.and_false,Bool.and_false]))⟩
 refine ⟨_,rfl,wa,_,_,_,rfl,rfl,hws,rfl,y,-256,255,rfl,fun q4=>?_,fun q4=>kR H (Zq.refl H) (ZR (by show (_&&(_&&(_&&(_&&_))))=false;rw [ZN q4,Bool.false_and,Bool.and_false,Bool.and_false,Bool.and_false]))⟩
 refine ⟨_,rfl,wa,_,_,_,rfl,rfl,hws,rfl,z,1048576,Sb20.BIG,rfl,⟨hz,by decide,by decide⟩,by decide,fun q5=>?_,fun q5=>kR H (Zq.refl H) (ZR (by show (_&&(_&&(_&&(_&&_))))=false;rw [q5,Bool.and_false,Bool.and_false,Bool.and_false,Bool.and_false]))⟩
 obtain ⟨kn,rfl⟩:=Int.eq_ofNat_of_zero_le q1.1
 obtain ⟨hn,rfl⟩:=Int.eq_ofNat_of_zero_le q2.1
 have hfits:Sb20.fits (.sprite (kn:Int) (hn:Int) x y z)=true:=by show (_&&(_&&(_&&(_&&_))))=true;rw [(ZA _ _ _).mpr q1,(ZA _ _ _).mpr q2,(ZA _ _ _).mpr q3,(ZA _ _ _).mpr q4,q5];rfl
 have hta:=hv.ta kn (by lia)
 refine ⟨_,rfl,_,rfl,c,d.dx,_,rfl,hv.ins,rfl,_,rfl,c,d.dx,d.tx,_,d.kvs,(kn:Int),rfl,hv.ins,rfl,hv.tx,fun v hv'=>?_,fun hv'=>kT H (Zq.refl H) ?_⟩
 ·cases et:s.texture kn with
  | none=>rw [et] at hta;rw [hta] at hv';cases hv'
  | some t =>
   rw [et] at hta
   obtain ⟨ta,h1,h2⟩:=hta
   rw [h1] at hv'
   cases hv'
   have ea:act s (.sprite (kn:Int) (hn:Int) x y z)=((Sb20.sprite s t hn x y (Sb20.value z)).1,Sb20.says ((Sb20.sprite s t hn x y (Sb20.value z)).2:Nat)):=ZX hfits (by unfold Sb20Neutral.does;simp only [Int.toNat_natCast,et])
   rw [ea] at k
   refine ⟨_,rfl,_,rfl,_,rfl,_,rfl,c,ta,hn,x,y,_,t,N,s,al,dl,rfl,⟨d,hv⟩,h2,by lia,fun H2 kp hv2=>?_⟩
   refine ⟨(by show 1≤sizeLine;decide),fun l hl=>?_⟩
   have nl:l∉[al,dl]:=fun q=>by
    obtain ⟨d2,hv2⟩:=hv2
    obtain ⟨xs,e⟩:=hv2.lists l q
    rw [e] at hl;cases hl
   exact k _ l al dl ((Fr.kp kp).more (Zh hl)) ((hv2.same (Zh hl)).mono (Nat.le_succ _)) (kp.none hl nl) Ze
 ·have et:s.texture kn=none:=by
   cases et:s.texture kn with
   | none=>rfl
   | some t =>
    rw [et] at hta
    obtain ⟨ta,h1,h2⟩:=hta
    rw [h1] at hv';cases hv'
  exact ZX hfits (by unfold Sb20Neutral.does;simp only [Int.toNat_natCast,et])
theorem ZdJ (F:Df K mg "call_read" (top 140) ["canvas","wholes","row"])
  (f_place_of:Mth P w K mg base CX0 1 cCv "place_of" ["self","x","y"] (XR cCv))
  (f_bytes_from_colours:Cal P w K mg base CX0 1 "bytes_from_colours" ["colours"] (Zmb K))
  (f_whole_within:Cal P w K mg base (CXR P w) 1 "whole_within" ["number","low","high"] (Yv RF)) (T:Zu K cCv cTx cFg cEg cCo cTr):Cal P w K mg base (CXR P w) 2 "call_read" ["canvas","wholes","row"] (Zv K cCv cTx cFg RF NT 14 false):=by
 refine F.YT (N:=["canvas","wholes","row","y","start"]) fun S f cdv A outer s H vs Q E hr h=>?_
 obtain ⟨c,wa,ra,N,s,al,dl,ws,rw',call,rfl,⟨d,hv⟩,hws,hrw,hok,hlive,hN,k,kR,kT⟩:=h
 refine ⟨_,(Zc (Zl (i:=3) S.nd rfl (Or.inl rfl) (Zg f_whole_within (hr.mono (by decide)) rfl ZM (Za (Zt (r:=ZE K) ixK (pv 1) Zd (fun _ _=>rfl)) (Za Zd (Za (Zj YK (Zo (pv 0) rfl) Zd) Zb))))) (Zc (Zl (i:=4) S.nd rfl (Or.inl rfl) (YE f_place_of (hr.mono (by decide)) Zi (pv 0) (Za Zd (Za (pv 3) Zb)))) (Zf (Zm (Zj Zah (ZL (Za (Zo (pv 0) rfl) Zb)) (Zg f_bytes_from_colours (hr.mono (by decide)) rfl Zi (Za (ZT (r:=Qj K) slK (Zo (pv 0) rfl) (ZG (pv 4)) (ZG (Zj Yh (pv 4) (Zo (pv 0) rfl)))) Zb))))))),?_⟩
 obtain ⟨y,rfl,rfl⟩:=ZnO hok
 have cl:=T.Canvas.cl
 have hw8:=hv.wf.w
 have hh8:=hv.wf.h
 have no:¬ (0≤y∧y≤(s.h:Int)-1)→act s (.read y)=(s,Sb20.says (-1)):=fun q=>ZX rfl (by unfold Sb20Neutral.does;simp only;rw [if_neg (by lia)])
 refine ⟨_,rfl,wa,_,_,_,rfl,rfl,hws,rfl,_,rfl,c,cCv,d.dx,_,_,rfl,hv.ins,cl,T.Canvas.n_height,rfl,_,_,_,rfl,rfl,rfl,y,0,_,rfl,fun q1=>?_,fun q1=>kR H (Zq.refl H) (no q1)⟩
 obtain ⟨j,rfl⟩:=Int.eq_ofNat_of_zero_le q1.1
 have hj:j<s.h:=by lia
 have ea:act s (.read (j:Int))=(s,⟨s.w,(((s.colours.drop (j*s.w)).take s.w).map Sb20.Px.bytes).flatten,[]⟩):=ZX rfl (by unfold Sb20Neutral.does;simp only;rw [if_pos (by lia),Int.toNat_natCast])
 rw [ea] at k
 have ep:(j:Int)*(s.w:Int)+0=((j*s.w:Nat):Int):=by rw [Int.add_zero,Int.natCast_mul]
 have hle:j*s.w+s.w≤s.w*s.h:=by
  have:(j+1)*s.w≤s.h*s.w:=Nat.mul_le_mul_right _ hj
  rw [Nat.add_mul,Nat.one_mul] at this
  rw [Nat.mul_comm s.w s.h];exact this
 have hasl:d.as.length=s.w*s.h:=hv.px.1.trans hv.wf.cl
 refine ⟨_,rfl,c,d.dx,_,rfl,hv.ins,rfl,_,rfl,c,d.dx,_,s.w,0,(j:Int),_,rfl,hv.ins,rfl,⟨hw8,smN (by lia)⟩,ep,?_⟩
 refine ⟨_,rfl,c,cCv,d.dx,_,_,rfl,hv.ins,cl,T.Canvas.n_width,rfl,(by show 1≤sizeLine;decide),fun l1 n1=>?_⟩
 have s1:=Zh (o:=.lst [.int (s.w:Nat)]) n1
 have hv1:=hv.same s1
 have e1:upd H l1 (.lst [.int (s.w:Nat)]) l1=some (.lst [.int (s.w:Nat)]):=Ze
 generalize upd H l1 (.lst [.int (s.w:Nat)])=H1 at *
 have e2:((j*s.w:Nat):Int)+(s.w:Int)=((j*s.w+s.w:Nat):Int):=by lia
 refine ⟨_,rfl,c,cCv,d.dx,_,_,rfl,hv1.ins,cl,T.Canvas.n_colours,rfl,_,rfl,_,rfl,_,rfl,_,rfl,c,cCv,d.dx,_,_,rfl,hv1.ins,cl,T.Canvas.n_width,rfl,_,_,_,rfl,rfl,e2,_,rfl,al,_,rfl,SqL.of hv1.cs,fun r nr=>?_⟩
 have ecut:YV (d.as.map V.ref) (some ((j*s.w:Nat):Int)) (some ((j*s.w+s.w:Nat):Int))=((d.as.drop (j*s.w)).take s.w).map V.ref:=by
  rw [Xh (by lia) (by rw [List.length_map,hasl];exact hle),show j*s.w+s.w-j*s.w=s.w by lia,List.map_take,List.map_drop]
 rw [ecut]
 have s2:=Zh (o:=.lst (((d.as.drop (j*s.w)).take s.w).map V.ref)) nr
 have hv2:=hv1.same s2
 refine ⟨r,_,(s.colours.drop (j*s.w)).take s.w,rfl,SqL.of Ze,(hv2.px.sub (j*s.w)).tak s.w,?_,fun H3 l3 s3 n3 e3=>?_⟩
 ·rw [List.length_take];lia
 have s13:=s2.trans s3
 refine ⟨l1,l3,_,_,rfl,rfl,s13 _ _ e1,e3,?_,fun l4 n4=>?_⟩
 ·rw [QL,Zdf,List.length_take]
  exact Nat.le_trans (show 1+4*min s.w (List.drop (j*s.w) s.colours).length≤16777216 by lia) (by decide)
 have sA:=s1.trans s13
 have sB:=Zr (o:=.lst ([.int (s.w:Nat)]++vn ((((s.colours.drop (j*s.w)).take s.w).map Sb20.Px.bytes).flatten))) sA (sA.free n4)
 refine k _ l4 al dl (Fr.same sB) (Cv.mono ⟨_,hv.same sB⟩ (Nat.le_succ _)) (sA.free n4) ?_
 rw [Ze]
 show some (HO.lst (V.int ((s.w:Nat):Int)::vn ((((s.colours.drop (j*s.w)).take s.w).map Sb20.Px.bytes).flatten)))=some (HO.lst (V.int ((s.w:Nat):Int)::(((((s.colours.drop (j*s.w)).take s.w).map Sb20.Px.bytes).flatten.map (fun (b:Nat)=>(b:Int))++[]).map V.int)))
 rw [List.append_nil,JW]
theorem Zcr (F:Df K mg "call_depth" (top 141) ["canvas","wholes","row"])
  (f_place_of:Mth P w K mg base CX0 1 cCv "place_of" ["self","x","y"] (XR cCv))
  (f_whole_within:Cal P w K mg base (CXR P w) 1 "whole_within" ["number","low","high"] (Yv RF)) (T:Zu K cCv cTx cFg cEg cCo cTr):Cal P w K mg base (CXR P w) 2 "call_depth" ["canvas","wholes","row"] (Zv K cCv cTx cFg RF NT 15 false):=by
 refine F.YT (N:=["canvas","wholes","row","x","y"]) fun S f cdv A outer s H vs Q E hr h=>?_
 obtain ⟨c,wa,ra,N,s,al,dl,ws,rw',call,rfl,⟨d,hv⟩,hws,hrw,hok,hlive,hN,k,kR,kT⟩:=h
 refine ⟨_,(Zc (Zl (i:=3) S.nd rfl (Or.inl rfl) (Zg f_whole_within (hr.mono (by decide)) rfl ZM (Za (Zt (r:=ZE K) ixK (pv 1) Zd (fun _ _=>rfl)) (Za Zd (Za (Zj YK (Zo (pv 0) rfl) Zd) Zb))))) (Zc (Zl (i:=4) S.nd rfl (Or.inl rfl) (Zg f_whole_within (hr.mono (by decide)) rfl ZM (Za (Zt (r:=ZE K) ixK (pv 1) Zd (fun _ _=>rfl)) (Za Zd (Za (Zj YK (Zo (pv 0) rfl) Zd) Zb))))) (Zf (Zm (ZL (Za Zd (Za (Zt (r:=ZE K) ixK (Zo (pv 0) rfl) (YE f_place_of (hr.mono (by decide)) Zi (pv 0) (Za (pv 3) (Za (pv 4) Zb))) (fun _ _=>rfl)) Zb))))))),?_⟩
 obtain ⟨x,y,rfl,rfl⟩:=ZnU hok
 have cl:=T.Canvas.cl
 have hw8:=hv.wf.w
 have hh8:=hv.wf.h
 have no:¬ ((0≤x∧x≤(s.w:Int)-1)∧(0≤y∧y≤(s.h:Int)-1))→act s (.depth x y)=(s,Sb20.says (-1)):=fun q=>ZX rfl (by unfold Sb20Neutral.does;simp only;rw [if_neg (by lia)])
 refine ⟨_,rfl,wa,_,_,_,rfl,rfl,hws,rfl,_,rfl,c,cCv,d.dx,_,_,rfl,hv.ins,cl,T.Canvas.n_width,rfl,_,_,_,rfl,rfl,rfl,x,0,_,rfl,fun q1=>?_,fun q1=>kR H (Zq.refl H) (no fun z=>q1 z.1)⟩
 refine ⟨_,rfl,wa,_,_,_,rfl,rfl,hws,rfl,_,rfl,c,cCv,d.dx,_,_,rfl,hv.ins,cl,T.Canvas.n_height,rfl,_,_,_,rfl,rfl,rfl,y,0,_,rfl,fun q2=>?_,fun q2=>kR H (Zq.refl H) (no fun z=>q2 z.2)⟩
 obtain ⟨i,rfl⟩:=Int.eq_ofNat_of_zero_le q1.1
 obtain ⟨j,rfl⟩:=Int.eq_ofNat_of_zero_le q2.1
 have ea:act s (.depth (i:Int) (j:Int))=(s,⟨0,[],[s.depths.getD (j*s.w+i) 0]⟩):=ZX rfl (by unfold Sb20Neutral.does;simp only;rw [if_pos (by lia),Int.toNat_natCast,Int.toNat_natCast])
 rw [ea] at k
 have hlt:j*s.w+i<s.w*s.h:=place_lt (by lia) (by lia)
 have ep:(j:Int)*(s.w:Int)+(i:Int)=((j*s.w+i:Nat):Int):=by rw [Int.natCast_add,Int.natCast_mul]
 have hat:atI (s.depths.map V.int) ((j*s.w+i:Nat):Int)=some (.int (s.depths.getD (j*s.w+i) 0)):=Ys (at_getD 0 (by rw [hv.wf.dl];exact hlt))
 refine ⟨_,rfl,c,cCv,d.dx,_,_,rfl,hv.ins,cl,T.Canvas.n_depths,rfl,_,rfl,c,d.dx,_,rfl,hv.ins,rfl,_,rfl,_,rfl,c,d.dx,_,s.w,(i:Int),(j:Int),_,rfl,hv.ins,rfl,⟨hw8,smN (by lia)⟩,ep,dl,_,_,_,rfl,rfl,SqL.of hv.ds,hat,(by show 2≤sizeLine;decide),fun l hl=>?_⟩
 exact k _ l al dl (Fr.same (Zh hl)) (Cv.mono ⟨_,hv.same (Zh hl)⟩ (Nat.le_succ _)) hl Ze
end
end Sg
namespace Sg
open PySem PySem.Spec PyProof.Rows L2 LX SbM
abbrev rx (b:Nat):Bool:=Sb20.ranged (-(500*Sb20.ONE)) (500*Sb20.ONE) b
abbrev rz (b:Nat):Bool:=Sb20.ranged (-Sb20.BIG) Sb20.BIG b
abbrev rr (b:Nat):Bool:=Sb20.ranged (2^129) Sb20.BIG b
abbrev ru (b:Nat):Bool:=Sb20.ranged (-(1024*Sb20.ONE)) (1024*Sb20.ONE) b
abbrev rl (b:Nat):Bool:=Sb20.ranged 0 Sb20.ONE b
theorem ZgS {a b x:Bool}(h:(a&&b)=false):(a&&(b&&x))=false:=by
 cases a
 ·rfl
 ·cases b
  ·rfl
  ·cases h
theorem ZkD (b0 b1 b2 b3 b4 b5 b6:Nat):Sb20.cornerOk [b0,b1,b2,b3,b4,b5,b6]=(rx b0&&(rx b1&&(rz b2&&(rr b3&&(ru b4&&(ru b5&&rl b6)))))):=rfl
theorem ZjO {b0 b1 b2 b3 b4 b5 b6:Nat}(h0:rx b0=true) (h1:rx b1=true) (h2:rz b2=true) (h3:rr b3=true) (h4:ru b4=true) (h5:ru b5=true) (h6:rl b6=true):JI (Sb20.plain [b0,b1,b2,b3,b4,b5,b6]):=by
 have e0:=Zdo h0
 have e1:=Zdo h1
 have e3:=Zdo h3
 have e6:=Zdo h6
 have eo:Sb20.ONE=2^149:=rfl
 have c5:Bd 161 (1024*Sb20.ONE)∧Bd 161 (-(1024*Sb20.ONE)):=by unfold Bd;exact ⟨by decide,by decide⟩
 have c6:Bd 151 Sb20.ONE∧Bd 151 0:=by unfold Bd;exact ⟨by decide,by decide⟩
 refine ⟨rfl,?_,?_,Qs h2 YL.2 YL.1,?_,Qs h3 (by unfold Bd;decide) YL.1,Qs h4 c5.2 c5.1,Qs h5 c5.2 c5.1,Qs h6 c6.2 c6.1⟩
 ·show (Sb20.value b0).natAbs≤_
  rw [eo] at e0;lia
 ·show (Sb20.value b1).natAbs≤_
  rw [eo] at e1;lia
 ·show _≤Sb20.value b3
  have:((2^129:Nat):Int)=2^129:=by decide
  lia
section
variable {P:Program}{w:World}{K:PySem.W.Frag}{mg:Str→Option Value}{base:Heap}{RF NT cCv cTx cFg cEg cCo cTr:Addr}
def Zkf (K:PySem.W.Frag) (cCo RF:Addr):Sp:=fun vs H Q E=>∃ (a:Addr) (bs:List Nat),vs=[.ref a]∧SqL K H a (vn bs)∧bs.length=7∧(∀ b∈bs,b<2^32) ∧
 (Sb20.cornerOk bs=true→∀ (H':Hp) (x:Addr),Zq H H'→H x=none→ZQ cCo H' x (Sb20.corner (Sb20.plain bs))→Q (.ref x) H')∧(Sb20.cornerOk bs=false→∀ H',Zq H H'→E (.ref RF) none H')
theorem Jb (F:Df K mg "corner_from_bits" (top 134) ["row"])
  (f_Corner:Mak P w K mg base CX0 4 "Corner" cCo ["self","numbers"] (Zit K cCo))
  (f_power_of_two:Cal P w K mg base CX0 1 "power_of_two" ["exponent"] QF)
  (f_single_between:Cal P w K mg base (CXR P w) 4 "single_between" ["bits","low","high"] (ZkW RF))
  (f_single_within:Cal P w K mg base (CXR P w) 5 "single_within" ["bits","limit"] (ZfD RF))
  (f_singles_within:Cal P w K mg base (CXR P w) 6 "singles_within" ["row","limit"] (Zaz K RF))
  (c_FARTHEST:Cst mg "FARTHEST" (.int 1048576))
  (c_FARTHEST_CORNER:Cst mg "FARTHEST_CORNER" (.int 500))
  (c_FARTHEST_TEXEL:Cst mg "FARTHEST_TEXEL" (.int 1024)):Cal P w K mg base (CXR P w) 7 "corner_from_bits" ["row"] (Zkf K cCo RF):=by
 refine F.YT (N:=["row","numbers"]) fun S f cdv A outer s H vs Q E hr h=>?_
 obtain ⟨a,bs,rfl,ha,hl,hb,k,kR⟩:=h
 refine ⟨_,(Zc (Zl (i:=1) S.nd rfl (Or.inl rfl) (Zg f_singles_within (hr.mono (by decide)) rfl ZM (Za (ZT (r:=Qj K) slK (pv 0) Xp (ZG Zd)) (Za (Zp c_FARTHEST_CORNER rfl) Zb)))) (Zc (ZU (Qn PySem.F.plainAttrs_list PySem.F.slot_list_append PySem.F.type_list_append QP (pv 1) (Za (Zg f_single_within (hr.mono (by decide)) rfl ZM (Za (Zt (r:=ZE K) ixK (pv 0) Zd (fun _ _=>rfl)) (Za (Zp c_FARTHEST rfl) Zb))) Zb))) (Zc (ZU (Qn PySem.F.plainAttrs_list PySem.F.slot_list_append PySem.F.type_list_append QP (pv 1) (Za (Zg f_single_between (hr.mono (by decide)) rfl ZM (Za (Zt (r:=ZE K) ixK (pv 0) Zd (fun _ _=>rfl)) (Za (Zg f_power_of_two (hr.mono (by decide)) rfl Zi (Za (YJ Qk Zd) Zb)) (Za (Zg f_power_of_two (hr.mono (by decide)) rfl Zi (Za Zd Zb)) Zb)))) Zb))) (Zc (ZU (Qn PySem.F.plainAttrs_list PySem.F.slot_list_extend PySem.F.type_list_extend Xy (pv 1) (Za (Zg f_singles_within (hr.mono (by decide)) rfl ZM (Za (ZT (r:=Qj K) slK (pv 0) (ZG Zd) (ZG Zd)) (Za (Zp c_FARTHEST_TEXEL rfl) Zb))) Zb))) (Zc (ZU (Qn PySem.F.plainAttrs_list PySem.F.slot_list_append PySem.F.type_list_append QP (pv 1) (Za (Zg f_single_between (hr.mono (by decide)) rfl ZM (Za (Zt (r:=ZE K) ixK (pv 0) Zd (fun _ _=>rfl)) (Za Zd (Za (Zg f_power_of_two (hr.mono (by decide)) rfl Zi (Za Zd Zb)) Zb)))) Zb))) (Zf (Zm (Jf f_Corner (hr.mono (by decide)) rfl Zi (Za (pv 1) Zb))))))))),?_⟩
 match bs,hl with
 | [b0,b1,b2,b3,b4,b5,b6],_ =>
 rw [ZkD] at k kR
 have two:∀ b c:Nat,∀ lo hi:Int,Sb20.ranges lo hi [b,c]=(Sb20.ranged lo hi b&&Sb20.ranged lo hi c):=fun b c lo hi=>by unfold Sb20.ranges;simp
 refine ⟨_,rfl,2,rfl,a,_,rfl,ha,fun r nr=>?_⟩
 have ec:YV (vn [b0,b1,b2,b3,b4,b5,b6]) none (some 2)=vn [b0,b1]:=rfl
 rw [ec]
 have sr:=Zh (o:=.lst (vn [b0,b1])) nr
 refine ⟨r,[b0,b1],500,500*Sb20.ONE,rfl,SqL.of Ze,(fun b m=>hb b (by simp at m ⊢;rcases m with h | h <;> simp [h])),(by show 2≤1000;decide),⟨by decide,by decide⟩,rfl,fun q1 H1 l s1 n1 e1=>?_,fun q1 H1 s1=>kR (ZgS ((two _ _ _ _).symm.trans q1)) H1 (sr.trans s1)⟩
 rw [two,Bool.and_eq_true] at q1
 have S1:=sr.trans s1
 have fl1:H l=none:=sr.free n1
 rw [show rx b0=true from q1.1,show rx b1=true from q1.2] at k kR
 have szl:∀ xs:List V,xs.length<10→xs.length<sizeLine:=fun xs h=>Nat.lt_of_lt_of_le h (by decide)
 refine ⟨_,rfl,.inl ⟨rfl,_,SqL.of e1⟩,_,rfl,a,_,_,_,rfl,rfl,S1.seq ha,rfl,b2,1048576,Sb20.BIG,rfl,⟨hb b2 (by simp),by decide,by decide⟩,by decide,fun q2=>?_,fun q2=>kR (by rw [show rz b2=false from q2];rfl) H1 S1⟩
 rw [show rz b2=true from q2] at k kR
 refine ⟨l,_,_,rfl,rfl,e1,szl _ (by show 2<10;decide),?_⟩
 have S2:=Zr (o:=.lst ((Sb20.plain [b0,b1]).map V.int++[V.int (Sb20.value b2)])) S1 fl1
 have e2:upd H1 l (.lst ((Sb20.plain [b0,b1]).map V.int++[V.int (Sb20.value b2)])) l=some (.lst ((Sb20.plain [b0,b1,b2]).map V.int)):=by rw [Ze];rfl
 generalize upd H1 l (.lst ((Sb20.plain [b0,b1]).map V.int++[V.int (Sb20.value b2)]))=H2 at *
 refine ⟨_,rfl,.inl ⟨rfl,_,SqL.of e2⟩,_,rfl,a,_,_,_,rfl,rfl,S2.seq ha,rfl,_,_,rfl,rfl,_,(2:Int)^129,rfl,⟨by decide,by decide⟩,by decide,_,Sb20.BIG,rfl,⟨by decide,by decide⟩,by decide,b3,_,_,rfl,hb b3 (by simp),fun q3=>?_,fun q3=>kR (by rw [show rr b3=false from q3];rfl) H2 S2⟩
 rw [show rr b3=true from q3] at k kR
 refine ⟨l,_,_,rfl,rfl,e2,szl _ (by show 3<10;decide),?_⟩
 have S3:=Zr (o:=.lst ((Sb20.plain [b0,b1,b2]).map V.int++[V.int (Sb20.value b3)])) S2 fl1
 have e3:upd H2 l (.lst ((Sb20.plain [b0,b1,b2]).map V.int++[V.int (Sb20.value b3)])) l=some (.lst ((Sb20.plain [b0,b1,b2,b3]).map V.int)):=by rw [Ze];rfl
 generalize upd H2 l (.lst ((Sb20.plain [b0,b1,b2]).map V.int++[V.int (Sb20.value b3)]))=H3 at *
 refine ⟨_,rfl,.inl ⟨rfl,_,SqL.of e3⟩,_,rfl,4,rfl,6,rfl,a,_,rfl,S3.seq ha,fun r2 nr2=>?_⟩
 have ec2:YV (vn [b0,b1,b2,b3,b4,b5,b6]) (some 4) (some 6)=vn [b4,b5]:=rfl
 rw [ec2]
 have sr2:=Zh (o:=.lst (vn [b4,b5])) nr2
 refine ⟨r2,[b4,b5],1024,1024*Sb20.ONE,rfl,SqL.of Ze,(fun b m=>hb b (by simp at m ⊢;rcases m with h | h <;> simp [h])),(by show 2≤1000;decide),⟨by decide,by decide⟩,rfl,fun q4 H4 l4 s4 n4 e4=>?_,fun q4 H4 s4=>kR (show (ru b4&&(ru b5&&rl b6))=false from ZgS ((two _ _ _ _).symm.trans q4)) H4 ((S3.trans sr2).trans s4)⟩
 rw [two,Bool.and_eq_true] at q4
 rw [show ru b4=true from q4.1,show ru b5=true from q4.2] at k kR
 have S4:=(S3.trans sr2).trans s4
 have e34:=s4 _ _ (sr2 _ _ e3)
 refine ⟨l,l4,_,_,rfl,rfl,e34,e4,Nat.le_of_lt (show 4+2<sizeLine by decide),?_⟩
 have S5:=Zr (o:=.lst ((Sb20.plain [b0,b1,b2,b3]).map V.int++(Sb20.plain [b4,b5]).map V.int)) S4 fl1
 have e5:upd H4 l (.lst ((Sb20.plain [b0,b1,b2,b3]).map V.int++(Sb20.plain [b4,b5]).map V.int)) l=some (.lst ((Sb20.plain [b0,b1,b2,b3,b4,b5]).map V.int)):=by rw [Ze];rfl
 generalize upd H4 l (.lst ((Sb20.plain [b0,b1,b2,b3]).map V.int++(Sb20.plain [b4,b5]).map V.int))=H5 at *
 refine ⟨_,rfl,.inl ⟨rfl,_,SqL.of e5⟩,_,rfl,a,_,_,_,rfl,rfl,S5.seq ha,rfl,_,Sb20.ONE,rfl,⟨by decide,by decide⟩,by decide,b6,_,_,rfl,hb b6 (by simp),fun q6=>?_,fun q6=>kR (by rw [show rl b6=false from q6];rfl) H5 S5⟩
 rw [show rl b6=true from q6] at k kR
 refine ⟨l,_,_,rfl,rfl,e5,szl _ (by show 6<10;decide),?_⟩
 have S6:=Zr (o:=.lst ((Sb20.plain [b0,b1,b2,b3,b4,b5]).map V.int++[V.int (Sb20.value b6)])) S5 fl1
 have e6:upd H5 l (.lst ((Sb20.plain [b0,b1,b2,b3,b4,b5]).map V.int++[V.int (Sb20.value b6)])) l=some (.lst ((Sb20.plain [b0,b1,b2,b3,b4,b5,b6]).map V.int)):=by rw [Ze];rfl
 generalize upd H5 l (.lst ((Sb20.plain [b0,b1,b2,b3,b4,b5]).map V.int++[V.int (Sb20.value b6)]))=H6 at *
 refine ⟨_,rfl,fun x dx nx nd ne=>?_⟩
 have sX:Zq H6 (upd (upd H6 dx (.own x)) x (.ins cCo dx [])):=Zr (Zh nd) nx
 refine ⟨x,dx,l,_,rfl,Ze,sX _ _ e6,ZjO q1.1 q1.2 q2 q3 q4.1 q4.2 q6,fun H7 co r7=>⟨rfl,?_⟩⟩
 exact k rfl H7 x (S6.trans (Zq.made nx nd r7)) (S6.free nx) co
def chunk (bs:List Nat) (m:Nat):List Nat:=(bs.drop (7*m)).take 7
theorem Zat (F:Df K mg "call_triangle" (top 135) ["canvas","wholes","row"])
  (f_texture_at:Mth P w K mg base (CXR P w) 1 cCv "texture_at" ["self","k"] (ZaX cCv NT))
  (f_corner_from_bits:Cal P w K mg base (CXR P w) 7 "corner_from_bits" ["row"] (Zkf K cCo RF))
  (f_draw_triangle:Cal P w K mg base CX0 8 "draw_triangle" ["canvas","texture","how","corners"] (ZlO K cCv cFg cTx cCo))
  (f_whole_within:Cal P w K mg base (CXR P w) 1 "whole_within" ["number","low","high"] (Yv RF))
  (c_CORNER_SIZE:Cst mg "CORNER_SIZE" (.int 7))
  (c_LAST_TEXTURE:Cst mg "LAST_TEXTURE" (.int 7))
  (c_LAST_TRIANGLE_HOW:Cst mg "LAST_TRIANGLE_HOW" (.int 7))
  (b_len:mg "len"=none)
  (b_range:mg "range"=none):Cal P w K mg base (CXR P w) 9 "call_triangle" ["canvas","wholes","row"] (Zv K cCv cTx cFg RF NT 9 true):=by
 refine F.YT (N:=["canvas","wholes","row","k","how","corners","start"]) fun S f cdv A outer s H vs Q E hr h=>?_
 obtain ⟨c,wa,ra,N,s,al,dl,ws,rw',call,rfl,⟨d,hv⟩,hws,hrw,hok,hlive,hN,k,kR,kT⟩:=h
 refine ⟨_,(Zc (Zl (i:=3) S.nd rfl (Or.inl rfl) (Zg f_whole_within (hr.mono (by decide)) rfl ZM (Za (Zt (r:=ZE K) ixK (pv 1) Zd (fun _ _=>rfl)) (Za Zd (Za (Zp c_LAST_TEXTURE rfl) Zb))))) (Zc (Zl (i:=4) S.nd rfl (Or.inl rfl) (Zg f_whole_within (hr.mono (by decide)) rfl ZM (Za (Zt (r:=ZE K) ixK (pv 1) Zd (fun _ _=>rfl)) (Za Zd (Za (Zp c_LAST_TRIANGLE_HOW rfl) Zb))))) (Zc (ZcI (i:=5) (own:=[("start",6)]) rfl S.nd rfl rfl (Jy rfl rfl rfl rfl) (Xs rfl b_range (Za Zd (Za (ZP (r:=Zfj K) Zgt (by rfl) b_len PySem.boot_len (Za (pv 2) Zb)) (Za (Zp c_CORNER_SIZE rfl) Zb)))) (show Yj ["canvas","wholes","row","k","how","corners","start"] (Zk (top 135)) _ _ from ⟨rfl,by decide +kernel,by decide +kernel,by decide +kernel,by decide +kernel⟩) (fun _ _ _ _ _=>ZO (i:=6) S.nd rfl (Or.inl rfl)) (fun _ _ _ _ _=>ZY) rfl rfl rfl hpR (fun _ _ _ _ _=>(Zg f_corner_from_bits (hr.mono (by decide)) rfl ZM (Za (ZT (r:=Qj K) slK (pv 2) (ZG (pv 6)) (ZG (Zj Yh (pv 6) (Zp c_CORNER_SIZE rfl)))) Zb)))) (Zf (Zm (ZL (Za (Zg f_draw_triangle (hr.mono (by decide)) rfl Zi (Za (pv 0) (Za (YE f_texture_at (hr.mono (by decide)) ZM (pv 0) (Za (pv 3) Zb)) (Za (pv 4) (Za (pv 5) Zb))))) Zb))))))),?_⟩
 obtain ⟨kk,how,bs,rfl,rfl,rfl,hb,hlen⟩:=sh9 hok
 rw [JW] at hrw
 have hf:Sb20.fits (.triangle kk how bs)=(Sb20.within 0 kk 7&&(Sb20.within 0 how 7&&(Sb20.cornerOk (chunk bs 0)&&(Sb20.cornerOk (chunk bs 1)&&Sb20.cornerOk (chunk bs 2))))):=rfl
 refine ⟨_,rfl,wa,_,_,_,rfl,rfl,hws,rfl,kk,0,7,rfl,fun q1=>?_,fun q1=>kR H (Zq.refl H) (ZR (by rw [hf,ZN q1];rfl))⟩
 refine ⟨_,rfl,wa,_,_,_,rfl,rfl,hws,rfl,how,0,7,rfl,fun q2=>?_,fun q2=>kR H (Zq.refl H) (ZR (by rw [hf,ZN q2,Bool.false_and,Bool.and_false]))⟩
 obtain ⟨kn,rfl⟩:=Int.eq_ofNat_of_zero_le q1.1
 obtain ⟨hn,rfl⟩:=Int.eq_ofNat_of_zero_le q2.1
 rw [(ZA _ _ _).mpr q1,(ZA _ _ _).mpr q2,Bool.true_and,Bool.true_and] at hf
 have hno:∀ m,m<3→Sb20.cornerOk (chunk bs m)=false→Sb20.fits (.triangle (kn:Int) (hn:Int) bs)=false:=fun m hm q=>by
  rw [hf]
  match m,hm,q with
  | 0,_,q=>rw [q];rfl
  | 1,_,q=>rw [q,Bool.false_and,Bool.and_false]
  | 2,_,q=>rw [q,Bool.and_false,Bool.and_false]
 refine ⟨_,rfl,ra,_,((7*3:Nat):Int),rfl,.inl hrw,by rw [QL,hlen],_,_,_,3,rfl,JN 7 3 (by decide) (by decide) (by decide),fun D hD=>?_⟩
 refine Zaf (lo:=0) (c:=7) (n:=3) (fun i H'=>∃ as:List Addr,Zq H H'∧H' D=some (.lst (as.map V.ref))∧as.length=i∧(∀ m a,as[m]?=some a→ZQ cCo H' a (Sb20.corner (Sb20.plain (chunk bs m))))∧∀ m,m<i→Sb20.cornerOk (chunk bs m)=true) ⟨[],Zh hD,Ze,rfl,(fun m a e=>by simp at e),fun m hm=>by lia⟩ ?_ ?_
 ·rintro i H' hi ⟨as,s1,eD,hl,hC,hO⟩
  refine ⟨rfl,YG ?_⟩
  have e7:(0:Int)+((i:Nat):Int)*7=((7*i:Nat):Int):=by lia
  refine ⟨_,rfl,_,rfl,_,rfl,_,rfl,_,_,((7*i+7:Nat):Int),rfl,rfl,by lia,_,rfl,ra,_,rfl,s1.seq hrw,fun q hq=>?_⟩
  rw [e7,Xh (by lia) (by rw [QL];lia),show 7*i+7-7*i=7 by lia,Zjo]
  have nq:D≠q:=Zs eD hq
  have sq:=Zh (o:=.lst (vn ((bs.drop (7*i)).take 7))) hq
  have eDq:upd H' q (.lst (vn ((bs.drop (7*i)).take 7))) D=some (.lst (as.map V.ref)):=by rw [Zn nq];exact eD
  have hC2:∀ m a,as[m]?=some a→ZQ cCo (upd H' q (.lst (vn ((bs.drop (7*i)).take 7)))) a (Sb20.corner (Sb20.plain (chunk bs m))):=fun m a e=>(hC m a e).same sq
  have s2:=s1.trans sq
  have hq7:SqL K (upd H' q (.lst (vn ((bs.drop (7*i)).take 7)))) q (vn (chunk bs i)):=SqL.of Ze
  generalize upd H' q (.lst (vn ((bs.drop (7*i)).take 7)))=H2 at *
  refine ⟨q,chunk bs i,rfl,hq7,by unfold chunk;rw [List.length_take,List.length_drop];lia,(fun b hb'=>hb b (List.mem_of_mem_drop (List.mem_of_mem_take hb'))),fun ok H3 x s3 nx co=>?_,fun no H3 s3=>kR H3 (s2.trans s3) (ZR (hno i hi no))⟩
  have eD3:=s3 _ _ eDq
  have kp:Kp [D] H3 (upd H3 D (.lst (as.map V.ref++[V.ref x]))):=⟨fun b hb=>by simp at hb;subst hb;exact ⟨_,eD3⟩,fun b o e nn=>by rw [Zn (fun q=>nn (by simp [q]))];exact e⟩
  refine ⟨_,eD3,by rw [List.length_map];exact Nat.lt_of_lt_of_le (show as.length<16777216 by lia) (by decide),as++[x],Zr (s2.trans s3) hD,by rw [Ze,List.map_append];rfl,by rw [List.length_append,hl];rfl,fun m a e=>?_,fun m hm=>?_⟩
  ·by_cases hm:m<as.length
   ·rw [List.getElem?_append_left hm] at e
    exact ((hC2 m a e).same s3).kp kp
   ·rw [List.getElem?_append_right (by lia)] at e
    cases em:m-as.length with
    | zero =>
     rw [em] at e
     cases e
     have:m=i:=by lia
     subst this
     exact co.kp kp
    | succ z=>rw [em] at e;simp at e
  ·by_cases hmi:m=i
   ·subst hmi;exact ok
   ·exact hO m (by lia)
 ·rintro H1 ⟨as,s1,eD,hl,hC,hO⟩
  match as,hl with
  | [xa,xb,xc],_ =>
  have hfit:Sb20.fits (.triangle (kn:Int) (hn:Int) bs)=true:=by rw [hf,hO 0 (by decide),hO 1 (by decide),hO 2 (by decide)];rfl
  have hv1:=hv.same s1
  have hta:=hv1.ta kn (by lia)
  have ech:∀ m,Sb20.plain (chunk bs m)=((Sb20.plain bs).drop (7*m)).take 7:=fun m=>by unfold Sb20.plain chunk;rw [List.map_take,List.map_drop]
  have hcos:Zdi K cCo H1 D (Sb20.corner ((Sb20.plain bs).take 7)) (Sb20.corner (((Sb20.plain bs).drop 7).take 7)) (Sb20.corner (((Sb20.plain bs).drop 14).take 7)):=by
   refine ⟨xa,xb,xc,SqL.of eD,?_,?_,?_⟩
   ·have:=hC 0 xa rfl;rw [ech] at this;exact this
   ·have:=hC 1 xb rfl;rw [ech] at this;exact this
   ·have:=hC 2 xc rfl;rw [ech] at this;exact this
  refine ⟨_,rfl,_,rfl,c,d.dx,_,rfl,hv1.ins,rfl,_,rfl,c,d.dx,d.tx,_,d.kvs,(kn:Int),rfl,hv1.ins,rfl,hv1.tx,fun v hv'=>?_,fun hv'=>kT H1 s1 ?_⟩
  ·cases et:s.texture kn with
   | none=>rw [et] at hta;rw [hta] at hv';cases hv'
   | some t =>
    rw [et] at hta
    obtain ⟨ta,h1,h2⟩:=hta
    rw [h1] at hv'
    cases hv'
    have ea:act s (.triangle (kn:Int) (hn:Int) bs)=((Sb20.triangle s t hn (Sb20.corner ((Sb20.plain bs).take 7)) (Sb20.corner (((Sb20.plain bs).drop 7).take 7)) (Sb20.corner (((Sb20.plain bs).drop 14).take 7))).1,Sb20.says ((Sb20.triangle s t hn (Sb20.corner ((Sb20.plain bs).take 7)) (Sb20.corner (((Sb20.plain bs).drop 7).take 7)) (Sb20.corner (((Sb20.plain bs).drop 14).take 7))).2:Nat)):=ZX hfit (by unfold Sb20Neutral.does;simp only [Int.toNat_natCast,et])
    rw [ea] at k
    refine ⟨_,rfl,_,rfl,c,ta,D,hn,_,_,_,t,N,s,al,dl,rfl,⟨d,hv1⟩,h2,hcos,fun H2 kp hv2=>?_⟩
    refine ⟨(by show 1≤sizeLine;decide),fun l hl=>?_⟩
    have nl:l∉[al,dl]:=fun q=>by
     obtain ⟨d2,hv2⟩:=hv2
     obtain ⟨xs,e⟩:=hv2.lists l q
     rw [e] at hl;cases hl
    exact k _ l al dl (Fr.pre s1 ((Fr.kp kp).more (Zh hl))) ((hv2.same (Zh hl)).mono (Nat.le_succ _)) (s1.free (kp.none hl nl)) Ze
  ·have et:s.texture kn=none:=by
    cases et:s.texture kn with
    | none=>rfl
    | some t =>
     rw [et] at hta
     obtain ⟨ta,h1,h2⟩:=hta
     rw [h1] at hv';cases hv'
   exact ZX hfit (by unfold Sb20Neutral.does;simp only [Int.toNat_natCast,et])
theorem ZiN (b:Nat):okD 1048576 b=(Sb20.double b).any fun (x:Int)=>Sb20.within (-(2^1094)) x (2^1094):=by
 unfold okD
 have e:(1048576:Int)*2^1074=2^1094:=by decide
 rw [e]
theorem ZiI {b:Nat}(h:okD 1048576 b=true):Bd 1096 ((Sb20.double b).getD 0):=by
 rw [ZiN] at h
 cases e:Sb20.double b with
 | none=>rw [e] at h;cases h
 | some v =>
  rw [e] at h
  simp [Sb20.within] at h
  show v.natAbs<2^1096
  have e1:(2:Nat)^1096=4*2^1094:=by decide
  have e2:((2^1094:Nat):Int)=2^1094:=by decide
  lia
theorem Zct (F:Df K mg "call_marks" (top 139) ["canvas","wholes","row"])
  (f_colour_from_number:Cal P w K mg base CX0 1 "colour_from_number" ["number"] Zih)
  (f_double_within:Cal P w K mg base (CXR P w) 4 "double_within" ["bits","limit"] (Zmq RF))
  (f_mark_pixels:Cal P w K mg base CX0 2 "mark_pixels" ["canvas","numbers","colour"] (Zft K cCv cTx cFg))
  (f_whole_from_double:Cal P w K mg base CX0 2 "whole_from_double" ["a"] Zmp)
  (f_whole_within:Cal P w K mg base (CXR P w) 1 "whole_within" ["number","low","high"] (Yv RF))
  (c_FARTHEST:Cst mg "FARTHEST" (.int 1048576))
  (c_MOST_MARKS:Cst mg "MOST_MARKS" (.int 256)):Cal P w K mg base (CXR P w) 5 "call_marks" ["canvas","wholes","row"] (Zv K cCv cTx cFg RF NT 13 true):=by
 refine F.YT (N:=["canvas","wholes","row","numbers","bits"]) fun S f cdv A outer s H vs Q E hr h=>?_
 obtain ⟨c,wa,ra,N,s,al,dl,ws,rw',call,rfl,⟨d,hv⟩,hws,hrw,hok,hlive,hN,k,kR,kT⟩:=h
 refine ⟨_,(Zc (ZU (Zg f_whole_within (hr.mono (by decide)) rfl ZM (Za (Zt (r:=ZE K) ixK (pv 1) Zd (fun _ _=>rfl)) (Za Zd (Za (Zp c_MOST_MARKS rfl) Zb))))) (Zc (ZcI (i:=3) (own:=[("bits",4)]) rfl S.nd rfl rfl (Jy rfl rfl rfl rfl) (Yu (pv 2)) (show Yj ["canvas","wholes","row","numbers","bits"] (Zk (top 139)) _ _ from ⟨rfl,by decide +kernel,by decide +kernel,by decide +kernel,by decide +kernel⟩) (fun _ _ _ _ _=>ZO (i:=4) S.nd rfl (Or.inl rfl)) (fun _ _ _ _ _=>ZY) rfl rfl rfl hpR (fun _ _ _ _ _=>(Zg f_whole_from_double (hr.mono (by decide)) rfl Zi (Za (Zg f_double_within (hr.mono (by decide)) rfl ZM (Za (pv 4) (Za (Zp c_FARTHEST rfl) Zb))) Zb)))) (Zf (Zm (ZL (Za (Zg f_mark_pixels (hr.mono (by decide)) rfl Zi (Za (pv 0) (Za (pv 3) (Za (Zg f_colour_from_number (hr.mono (by decide)) rfl Zi (Za (Zt (r:=ZE K) ixK (pv 1) Zd (fun _ _=>rfl)) Zb)) Zb)))) Zb)))))),?_⟩
 obtain ⟨n,p,bs,rfl,hp,rfl,rfl,hb,hbl,hlen⟩:=Zoj hok
 rw [JW] at hrw
 have hf:Sb20.fits (.marks n bs p)=(Sb20.within 0 n 256&&bs.all (okD 1048576)):=by
  show (_&&bs.all fun (b:Nat)=>(Sb20.double b).any fun (x:Int)=>Sb20.within (-(2^1094)) x (2^1094))=_
  rw [show (fun (b:Nat)=>(Sb20.double b).any fun (x:Int)=>Sb20.within (-(2^1094)) x (2^1094))=okD 1048576 from funext fun b=>(ZiN b).symm]
 refine ⟨_,rfl,wa,_,_,_,rfl,rfl,hws,rfl,n,0,256,rfl,fun q1=>?_,fun q1=>kR H (Zq.refl H) (ZR (by rw [hf,ZN q1];rfl))⟩
 rw [(ZA _ _ _).mpr q1,Bool.true_and] at hf
 obtain ⟨m,rfl⟩:=Int.eq_ofNat_of_zero_le q1.1
 have hl:=hlen ⟨by lia,by lia⟩
 rw [Int.toNat_natCast] at hl
 refine ⟨_,rfl,ra,rfl,⟨_,hrw⟩,fun D hD=>?_⟩
 refine YM (K:=K) (a:=ra) (xs:=vn bs) (fun i H'=>H'=upd H D (.lst (((bs.take i).map fun b=>Sb20.near ((Sb20.double b).getD 0) (2^1074)).map V.int))∧(bs.take i).all (okD 1048576)=true) ⟨rfl,rfl⟩ ?_ ?_ ?_
 ·rintro i H' _ ⟨rfl,_⟩
  exact (Zh hD).seq hrw
 ·rintro i v H' hi ⟨rfl,hall⟩
  obtain ⟨b,hb',rfl⟩:=Zlq hi
  have hil:i<bs.length:=(List.getElem?_eq_some_iff.mp hb').1
  have hm:=List.mem_of_getElem? hb'
  refine ⟨rfl,YG ⟨_,rfl,b,1048576,rfl,hb b hm,⟨by decide,by decide⟩,fun hok'=>?_,fun hno=>?_⟩⟩
  ·refine ⟨_,rfl,(ZiI hok').mono (by decide),_,Ze,?_,?_,?_⟩
   ·rw [List.length_map,List.length_map,List.length_take]
    exact Nat.lt_of_le_of_lt (Nat.min_le_left _ _) (Nat.lt_of_lt_of_le (show i<16777216 by lia) (by decide))
   ·rw [Yt,take_snoc hb',List.map_append,List.map_append];rfl
   ·rw [take_snoc hb',List.all_append,hall];simp [hok']
  ·refine kR _ (Zh hD) (ZR ?_)
   rw [hf]
   cases e:bs.all (okD 1048576) with
   | false=>rfl
   | true=>rw [List.all_eq_true.mp e b hm] at hno;cases hno
 ·rintro H' ⟨rfl,hall⟩
  rw [QL,List.take_length] at hall ⊢
  rw [hall] at hf
  have ea:act s (.marks (m:Int) bs p)=((marked (Sb20.px p) s (Sb20.pairs (bs.map fun (b:Nat)=>(Sb20.double b).getD 0))).1,Sb20.says ((marked (Sb20.px p) s (Sb20.pairs (bs.map fun (b:Nat)=>(Sb20.double b).getD 0))).2:Nat)):=ZX hf rfl
  rw [ea] at k
  have sD:=Zh (o:=.lst ((bs.map fun b=>Sb20.near ((Sb20.double b).getD 0) (2^1074)).map V.int)) hD
  have eD:upd H D (.lst ((bs.map fun b=>Sb20.near ((Sb20.double b).getD 0) (2^1074)).map V.int)) D=some (.lst (((bs.map fun (b:Nat)=>(Sb20.double b).getD 0).map fun q=>Sb20.near q (2^1074)).map V.int)):=by rw [Ze,List.map_map (g:=fun q=>Sb20.near q (2^1074))];rfl
  have nD:D∉[al,dl]:=fun z=>by
   simp at z
   rcases z with rfl | rfl
   ·rw [hv.cs] at hD;cases hD
   ·rw [hv.ds] at hD;cases hD
  generalize upd H D (.lst ((bs.map fun b=>Sb20.near ((Sb20.double b).getD 0) (2^1074)).map V.int))=H1 at *
  refine ⟨_,rfl,_,rfl,_,rfl,wa,_,_,_,rfl,rfl,sD.seq hws,rfl,p,rfl,hp,fun H2 t s2 n2 e2=>?_⟩
  have s12:=sD.trans s2
  have hv2:=hv.same s12
  refine ⟨c,D,t,Sb20.px p,bs.map fun (b:Nat)=>(Sb20.double b).getD 0,m,N,s,al,dl,rfl,⟨d,hv2⟩,s2 _ _ eD,nD,⟨SqT.of e2,ZaU p⟩,by rw [List.length_map];exact hl,by lia,(fun q hq=>?_),fun H3 kp hv3=>?_⟩
  ·obtain ⟨b,hb',rfl⟩:=List.mem_map.mp hq
   exact Qb (ZiI (List.all_eq_true.mp hall b hb')) (by decide)
  refine ⟨(by show 1≤sizeLine;decide),fun l hl'=>?_⟩
  have nl:l∉[al,dl]:=fun q=>by
   obtain ⟨d3,hv3⟩:=hv3
   obtain ⟨xs,e⟩:=hv3.lists l q
   rw [e] at hl';cases hl'
  exact k _ l al dl (Fr.pre s12 ((Fr.kp kp).more (Zh hl'))) ((hv3.same (Zh hl')).mono (Nat.le_succ _)) (s12.free (kp.none hl' nl)) Ze
end
end Sg
namespace Sg
open PySem PySem.Spec PyProof.Rows L2 LX SbM
def Zkt:List V:=[.int 2,.int 2,.int 2,.int 0,.int 0,.int 1,.int 0,.int 1,.int 3,.int 2,.int 5,.int 2,.int 0,.int 2,.int 1,.int 2]
def ZnT:List V:=[.bl false,.bl false,.bl true,.bl true,.bl true,.bl true,.bl true,.bl true,.bl false,.bl true,.bl false,.bl false,.bl false,.bl true,.bl false,.bl false]
theorem ZeJ {n:Int}{a b:Nat}(h:PySb20.shape n=some (a,b)):atI Zkt n=some (.int (a:Nat))∧atI ZnT n=some (.bl (b==1))∧(b=0∨b=1)∧(0≤n∧n≤15):=by
 by_cases q0:n=0
 ·subst q0
  have e:PySb20.shape 0=some (2,0):=rfl
  rw [e] at h;cases h;exact ⟨rfl,rfl,by decide,by decide⟩
 by_cases q1:n=1
 ·subst q1
  have e:PySb20.shape 1=some (2,0):=rfl
  rw [e] at h;cases h;exact ⟨rfl,rfl,by decide,by decide⟩
 by_cases q2:n=2
 ·subst q2
  have e:PySb20.shape 2=some (2,1):=rfl
  rw [e] at h;cases h;exact ⟨rfl,rfl,by decide,by decide⟩
 by_cases q3:n=3
 ·subst q3
  have e:PySb20.shape 3=some (0,1):=rfl
  rw [e] at h;cases h;exact ⟨rfl,rfl,by decide,by decide⟩
 by_cases q4:n=4
 ·subst q4
  have e:PySb20.shape 4=some (0,1):=rfl
  rw [e] at h;cases h;exact ⟨rfl,rfl,by decide,by decide⟩
 by_cases q5:n=5
 ·subst q5
  have e:PySb20.shape 5=some (1,1):=rfl
  rw [e] at h;cases h;exact ⟨rfl,rfl,by decide,by decide⟩
 by_cases q6:n=6
 ·subst q6
  have e:PySb20.shape 6=some (0,1):=rfl
  rw [e] at h;cases h;exact ⟨rfl,rfl,by decide,by decide⟩
 by_cases q7:n=7
 ·subst q7
  have e:PySb20.shape 7=some (1,1):=rfl
  rw [e] at h;cases h;exact ⟨rfl,rfl,by decide,by decide⟩
 by_cases q8:n=8
 ·subst q8
  have e:PySb20.shape 8=some (3,0):=rfl
  rw [e] at h;cases h;exact ⟨rfl,rfl,by decide,by decide⟩
 by_cases q9:n=9
 ·subst q9
  have e:PySb20.shape 9=some (2,1):=rfl
  rw [e] at h;cases h;exact ⟨rfl,rfl,by decide,by decide⟩
 by_cases q10:n=10
 ·subst q10
  have e:PySb20.shape 10=some (5,0):=rfl
  rw [e] at h;cases h;exact ⟨rfl,rfl,by decide,by decide⟩
 by_cases q11:n=11
 ·subst q11
  have e:PySb20.shape 11=some (2,0):=rfl
  rw [e] at h;cases h;exact ⟨rfl,rfl,by decide,by decide⟩
 by_cases q12:n=12
 ·subst q12
  have e:PySb20.shape 12=some (0,0):=rfl
  rw [e] at h;cases h;exact ⟨rfl,rfl,by decide,by decide⟩
 by_cases q13:n=13
 ·subst q13
  have e:PySb20.shape 13=some (2,1):=rfl
  rw [e] at h;cases h;exact ⟨rfl,rfl,by decide,by decide⟩
 by_cases q14:n=14
 ·subst q14
  have e:PySb20.shape 14=some (1,0):=rfl
  rw [e] at h;cases h;exact ⟨rfl,rfl,by decide,by decide⟩
 by_cases q15:n=15
 ·subst q15
  have e:PySb20.shape 15=some (2,0):=rfl
  rw [e] at h;cases h;exact ⟨rfl,rfl,by decide,by decide⟩
 exfalso
 unfold PySb20.shape at h
 rw [if_neg q0,if_neg q1,if_neg q2,if_neg q3,if_neg q4,if_neg q5,if_neg q6,if_neg q7,if_neg q8,if_neg q9,if_neg q10,if_neg q11,if_neg q12,if_neg q13,if_neg q14,if_neg q15] at h
 cases h
theorem ZfJ {ls pre post:List Int}{x:Int}(h:ls=pre++x::post):atI (ls.map V.int) ((pre.length:Nat):Int)=some (.int x):=by
 subst h
 refine Ys ?_
 rw [List.getElem?_append_right (Nat.le_refl _),Nat.sub_self];rfl
section
variable {P:Program}{w:World}{K:PySem.W.Frag}{mg:Str→Option Value}{base:Heap}{RF NT cCv cTx cFg cEg cCo cTr:Addr}
def Zjn (K:PySem.W.Frag):Sp:=fun vs H Q _=>∃ (a:Addr) (ls pre rest:List Int) (n:Int) (ws:List Int) (xs:List (List Int)),vs=[.ref a,.int (pre.length:Nat)]∧SqL K H a (ls.map V.int)∧ls=pre++(PyFlat.put1 ((n::ws)::xs)++rest)∧PySb20.shape n=some (ws.length,xs.length)∧Q (.int ((pre.length+(PyFlat.put1 ((n::ws)::xs)).length:Nat):Int)) H
theorem ZbH (F:Df K mg "end_of_call" (top 145) ["calls","start"])
  {tHAS_ROW:Addr}(c_HAS_ROW:Cst mg "HAS_ROW" (.ref tHAS_ROW)) (k_HAS_ROW:YN K tHAS_ROW [.bl false,.bl false,.bl true,.bl true,.bl true,.bl true,.bl true,.bl true,.bl false,.bl true,.bl false,.bl false,.bl false,.bl true,.bl false,.bl false])
  {tWHOLES:Addr}(c_WHOLES:Cst mg "WHOLES" (.ref tWHOLES)) (k_WHOLES:YN K tWHOLES [.int 2,.int 2,.int 2,.int 0,.int 0,.int 1,.int 0,.int 1,.int 3,.int 2,.int 5,.int 2,.int 0,.int 2,.int 1,.int 2]):Cal P w K mg base CX0 1 "end_of_call" ["calls","start"] (Zjn K):=by
 refine F.okS (N:=["calls","start","number","end"]) fun S f cdv A outer s H vs Q E hr h=>?_
 obtain ⟨a,ls,pre,rest,n,ws,xs,rfl,ha,hls,hsh,k⟩:=h
 refine ⟨_,(Zc (Zl (i:=2) S.nd rfl (Or.inl rfl) (Zt (r:=ZE K) ixK (pv 0) (pv 1) (fun _ _=>rfl))) (Zc (Zl (i:=3) S.nd rfl (Or.inl rfl) (Zj Yh (Zj Yh (pv 1) Zd) (Zt (r:=YU K) Xg (Zp c_WHOLES rfl) (pv 2) (fun _ _=>rfl)))) (Zc (Yg (XU (Zt (r:=YU K) Xg (Zp c_HAS_ROW rfl) (pv 2) (fun _ _=>rfl))) (Zf (Zl (i:=3) S.nd rfl (Or.inl rfl) (Zj Yh (Zj Yh (pv 3) Zd) (Zt (r:=ZE K) ixK (pv 0) (pv 3) (fun _ _=>rfl))))) ZJ) (Zf (Zm (pv 3)))))),?_⟩
 obtain ⟨h1,h2,h3,h4⟩:=ZeJ hsh
 have en:ls=pre++n::(ws++(PyFlat.putRows xs++rest)):=by rw [hls];show pre++((n::ws)++PyFlat.putRows xs++rest)=_;rw [List.append_assoc];rfl
 have ee:((pre.length:Nat):Int)+1+((ws.length:Nat):Int)=((pre.length+1+ws.length:Nat):Int):=by lia
 refine ⟨_,rfl,_,rfl,a,_,_,_,rfl,rfl,ha,ZfJ en,?_⟩
 refine ⟨_,rfl,_,_,_,rfl,rfl,rfl,_,rfl,tWHOLES,_,_,_,rfl,rfl,k_WHOLES.sq,h1,_,_,_,rfl,rfl,ee,?_⟩
 have len1:(PyFlat.put1 ((n::ws)::xs)).length=1+ws.length+(PyFlat.putRows xs).length:=by show ((n::ws)++PyFlat.putRows xs).length=_;rw [List.length_append,List.length_cons];lia
 refine ⟨_,rfl,tHAS_ROW,_,_,_,rfl,rfl,k_HAS_ROW.sq,h2,_,rfl,Ye (fun c1=>?_) fun c1=>?_⟩
 ·match xs,h3,c1 with
  | [rw'],_,_ =>
  have en2:ls=(pre++n::ws)++(rw'.length:Int)::(rw'++rest):=by
   rw [en]
   show pre++n::(ws++(((rw'.length:Int)::rw')++[]++rest))=_
   simp
  have hat:=ZfJ en2
  have el:(pre++n::ws).length=pre.length+1+ws.length:=by rw [List.length_append,List.length_cons];lia
  rw [el] at hat
  have e3:((pre.length+1+ws.length:Nat):Int)+1+(rw'.length:Int)=((pre.length+(PyFlat.put1 ((n::ws)::[rw'])).length:Nat):Int):=by
   rw [len1]
   show _=((pre.length+(1+ws.length+(((rw'.length:Int)::rw')++[]).length):Nat):Int)
   rw [List.append_nil,List.length_cons];lia
  exact ⟨_,rfl,_,_,_,rfl,rfl,rfl,_,rfl,_,rfl,a,_,_,_,rfl,rfl,ha,hat,_,_,_,rfl,rfl,e3,_,rfl,k⟩
  | [],_,c1=>cases c1
  | _::_::_,h3,_=>simp at h3
 ·match xs,h3,c1 with
  | [],_,_ =>
  have e3:pre.length+(PyFlat.put1 ((n::ws)::[])).length=pre.length+1+ws.length:=by rw [len1];show pre.length+(1+ws.length+0)=_;lia
  rw [e3] at k
  exact ⟨_,rfl,k⟩
  | [_],_,c1=>exact absurd rfl c1
  | _::_::_,h3,_=>simp at h3
def Zlw (P:Program) (w:World) (K:PySem.W.Frag) (mg:Str→Option Value) (base:Heap) (cCv cTx cFg RF NT:Addr) (hs:List V):Prop:=∀ (n:Int) (a b:Nat),PySb20.shape n=some (a,b)→∃ f fd,atI hs n=some (.ref f)∧Yi P w K mg base (CXR P w) 20 f fd ["canvas","wholes","row"] (Zv K cCv cTx cFg RF NT n (b==1))∧PySem.W.keepIn K (.ref f)=true∧Binds K fd ["canvas","wholes","row"] []
def ZlF (K:PySem.W.Frag) (cCv cTx cFg:Addr):Sp:=fun vs H Q _=>∃ (c ca:Addr) (N:Nat) (s:Sb20.St) (cl dl:Addr) (n:Int) (ws:List Int) (xs:List (List Int)) (call:JU),vs=[.ref c,.ref ca]∧Cv K cCv cTx cFg H c N s cl dl∧SqL K H ca ((PyFlat.put1 ((n::ws)::xs)).map V.int)∧PySb20.shape n=some (ws.length,xs.length)∧Sb20Neutral.asked1 ((n::ws)::xs)=true∧Sb20Neutral.callOf ((n::ws)::xs)=some call∧(∀ r∈xs,r.length≤4096)∧(n≠0→0<s.w∧0<s.h)∧N<200 ∧
 ∀ (H':Hp) (l cl' dl':Addr),Fr c cl dl H H' cl' dl'→Cv K cCv cTx cFg H' c (N+1) (act s call).1 cl' dl'→H l=none→H' l=some (.lst ((Xq (act s call).2).map V.int))→Q (.ref l) H'
theorem ZdU (F:Df K mg "answer_of" (top 146) ["canvas","call"])
  {tHANDLERS:Addr}(c_HANDLERS:Cst mg "HANDLERS" (.ref tHANDLERS))
  {tHAS_ROW:Addr}(c_HAS_ROW:Cst mg "HAS_ROW" (.ref tHAS_ROW)) (k_HAS_ROW:YN K tHAS_ROW [.bl false,.bl false,.bl true,.bl true,.bl true,.bl true,.bl true,.bl true,.bl false,.bl true,.bl false,.bl false,.bl false,.bl true,.bl false,.bl false])
  {tWHOLES:Addr}(c_WHOLES:Cst mg "WHOLES" (.ref tWHOLES)) (k_WHOLES:YN K tWHOLES [.int 2,.int 2,.int 2,.int 0,.int 0,.int 1,.int 0,.int 1,.int 3,.int 2,.int 5,.int 2,.int 0,.int 2,.int 1,.int 2])
  (q_Refused:ExcAt K RF) (m_Refused:mg "Refused"=some (.ref RF))
  (q_NoTexture:ExcAt K NT) (m_NoTexture:mg "NoTexture"=some (.ref NT)) (bare:Zek K NT) (ne:RF≠NT){hs:List V}(k_HANDLERS:YN K tHANDLERS hs) (hands:Zlw P w K mg base cCv cTx cFg RF NT hs):Cal P w K mg base CX0 21 "answer_of" ["canvas","call"] (ZlF K cCv cTx cFg):=by
 refine F.okS (N:=["canvas","call","number","wholes_end","row"]) fun S f cdv A outer s H vs Q E hr h=>?_
 obtain ⟨c,ca,N,s,al,dl,n,ws,xs,call,rfl,⟨d,hv⟩,hca,hsh,hask,hcall,hrows,hlive,hN,k⟩:=h
 refine ⟨_,(Zc (Zl (i:=2) S.nd rfl (Or.inl rfl) (Zt (r:=ZE K) ixK (pv 1) Zd (fun _ _=>rfl))) (Zc (Zl (i:=3) S.nd rfl (Or.inl rfl) (Zj Yh Zd (Zt (r:=YU K) Xg (Zp c_WHOLES rfl) (pv 2) (fun _ _=>rfl)))) (Zc (Zl (i:=4) S.nd rfl (Or.inl rfl) (Qp (XU (Zt (r:=YU K) Xg (Zp c_HAS_ROW rfl) (pv 2) (fun _ _=>rfl))) (ZT (r:=Qj K) slK (pv 1) (ZG (Zj Yh (pv 3) Zd)) Xp) (ZL Zb))) (Zf (Zkm rfl rfl rfl q_Refused q_NoTexture rfl rfl m_Refused m_NoTexture bare ne (fun _ _=>(Zf (Zm (ZiW (k:=20) (CX:=CXR P w) (hr.mono (by decide)) Zna (Zt (r:=YU K) Xg (Zp c_HANDLERS rfl) (pv 2) (fun _ _=>rfl)) (Za (pv 0) (Za (ZT (r:=Qj K) slK (pv 1) (ZG Zd) (ZG (pv 3))) (Za (pv 4) Zb))))))) (fun _=>(Zf (Zm (ZL (Za (YJ Qk Zd) Zb))))) (fun _=>(Zf (Zm (ZL (Za (YJ Qk Zd) Zb)))))))))),?_⟩
 obtain ⟨h1,h2,h3,h4⟩:=ZeJ hsh
 obtain ⟨f,fd,hat,hF,hkp,hbd⟩:=hands n _ _ hsh
 have eput:PyFlat.put1 ((n::ws)::xs)=n::(ws++PyFlat.putRows xs):=rfl
 have i0:atI ((PyFlat.put1 ((n::ws)::xs)).map V.int) 0=some (.int n):=ZfJ (pre:=[]) eput
 have e1:(1:Int)+((ws.length:Nat):Int)=((1+ws.length:Nat):Int):=by lia
 have cutw:YV ((PyFlat.put1 ((n::ws)::xs)).map V.int) (some 1) (some ((1+ws.length:Nat):Int))=ws.map V.int:=by
  have:=Xh (xs:=(PyFlat.put1 ((n::ws)::xs)).map V.int) (i:=1) (j:=1+ws.length) (by lia) (by rw [List.length_map,eput,List.length_cons,List.length_append];lia)
  rw [show ((1:Nat):Int)=1 from rfl] at this
  rw [this,eput,show 1+ws.length-1=ws.length by lia,List.map_cons,List.drop_succ_cons,List.drop_zero,List.map_append,List.take_append_of_le_length (by rw [List.length_map];exact Nat.le_refl _),List.take_of_length_le (by rw [List.length_map];exact Nat.le_refl _)]
 refine ⟨_,rfl,ca,_,_,_,rfl,rfl,hca,i0,?_⟩
 refine ⟨_,rfl,tWHOLES,_,_,_,rfl,rfl,k_WHOLES.sq,h1,_,_,_,rfl,rfl,e1,?_⟩
 have go:∀ (ra:Addr) (rw':List Int) (H1:Hp),Zq H H1→H1 ra=some (.lst (rw'.map V.int))→Yn n (xs.length==1) ws rw' call→∀ D:Ends,(∀ v H',D.rt v H'→Q v H')→D.rt=Q →
   Zlv RF NT (fun E=>ZcF (Ziu P w K mg base (CXR P w) 20 E (tOp (YU K) (tC (.ref tHANDLERS)) (ZH 2)) (ZV (ZH 0) (ZV (tSl (Qj K) (ZH 1) (ZjE (tC (.int 1))) (ZjE (ZH 3))) (ZV (ZH 4) XW))))) (ZcF (ZkO (ZV (tUn Zhb (tC (.int 1))) XW))) (ZcF (ZkO (ZV (tUn Zhb (tC (.int 2))) XW)))
    D [some (.ref c),some (.ref ca),some (.int n),some (.int ((1+ws.length:Nat):Int)),some (.ref ra)] H1:=by
  intro ra rw' H1 s1 er hok D _ hDQ
  have hv1:=hv.same s1
  refine ⟨_,rfl,tHANDLERS,_,_,_,rfl,rfl,k_HANDLERS.sq,hat,f,fd,_,_,rfl,hF,hkp,hbd,_,rfl,_,rfl,1,rfl,_,rfl,_,rfl,ca,_,rfl,s1.seq hca,fun wa nwa=>?_⟩
  rw [cutw]
  have s2:=Zh (o:=.lst (ws.map V.int)) nwa
  have s12:=s1.trans s2
  refine ⟨_,rfl,c,wa,ra,N,s,al,dl,ws,rw',call,rfl,⟨d,hv.same s12⟩,SqL.of Ze,SqL.of (s2 _ _ er),hok,hlive,hN,fun H' l cl' dl' fr hv' nl el=>?_,fun H' s' ea=>.inl ⟨rfl,fun σ' _=>?_⟩,fun H' s' ea=>.inr ⟨rfl,fun σ' _=>?_⟩⟩
  ·show D.rt (.ref l) H'
   rw [hDQ]
   exact k H' l cl' dl' (Fr.pre s12 fr) hv' (s12.free nl) el
  ·refine ⟨_,_,rfl,rfl,(by show 1≤sizeLine;decide),fun l hl=>?_⟩
   show D.rt (.ref l) _
   rw [hDQ]
   rw [ea] at k
   have sA:=(s12.trans s').trans (Zh (o:=.lst [.int (-1)]) hl)
   exact k _ l al dl (Fr.same sA) (Cv.mono ⟨_,hv.same sA⟩ (Nat.le_succ _)) ((s12.trans s').free hl) Ze
  ·refine ⟨_,_,rfl,rfl,(by show 1≤sizeLine;decide),fun l hl=>?_⟩
   show D.rt (.ref l) _
   rw [hDQ]
   rw [ea] at k
   have sA:=(s12.trans s').trans (Zh (o:=.lst [.int (-2)]) hl)
   exact k _ l al dl (Fr.same sA) (Cv.mono ⟨_,hv.same sA⟩ (Nat.le_succ _)) ((s12.trans s').free hl) Ze
 refine ⟨_,rfl,tHAS_ROW,_,_,_,rfl,rfl,k_HAS_ROW.sq,h2,_,rfl,Ye (fun c1=>?_) fun c1=>?_⟩
 ·match xs,h3,c1 with
  | [rw'],_,_ =>
  have e2:((1+ws.length:Nat):Int)+1=((2+ws.length:Nat):Int):=by lia
  have cutr:YV ((PyFlat.put1 ((n::ws)::[rw'])).map V.int) (some ((2+ws.length:Nat):Int)) none=rw'.map V.int:=by
   have eq:PyFlat.put1 ((n::ws)::[rw'])=(n::ws++[(rw'.length:Int)])++rw':=by show (n::ws)++(((rw'.length:Int)::rw')++[])=_;simp
   rw [ZbZ (by rw [List.length_map,eq,List.length_append,List.length_append,List.length_cons];simp;lia),eq,List.map_append,List.drop_append_of_le_length (by rw [List.length_map,List.length_append,List.length_cons];simp;lia),List.drop_of_length_le (by rw [List.length_map,List.length_append,List.length_cons];simp;lia),List.nil_append]
  refine ⟨_,rfl,_,rfl,_,_,_,rfl,rfl,e2,_,rfl,ca,_,rfl,hca,fun ra nra=>?_⟩
  rw [cutr]
  exact go ra rw' _ (Zh nra) Ze ⟨hask,hcall,hrows rw' (by simp)⟩ _ (fun _ _ z=>z) rfl
  | [],_,c1=>cases c1
  | _::_::_,h3,_=>simp at h3
 ·match xs,h3,c1 with
  | [],_,_ =>
  refine ⟨(by show 0≤sizeLine;decide),fun ra nra=>?_⟩
  exact go ra [] _ (Zh nra) Ze ⟨hask,hcall,by decide⟩ _ (fun _ _ z=>z) rfl
  | [_],_,c1=>exact absurd rfl c1
  | _::_::_,h3,_=>simp at h3
end
end Sg
namespace Sg
open PySem PySem.Spec PyProof.Rows L2 LX SbM
theorem ZeQ {b:Int→List (Int×Int)×List (Int×Int×Nat×Nat)}{p:Int}{a r:List Int}{lo hi:Int}{least most:Nat}(h:PyInside.call b [p::a,r]=true) (e:(b p).2=[(lo,hi,least,most)]) (hm:most≤4096):r.length≤4096:=by
 have h:(PyInside.each (b p).1 a&&PyInside.lists (b p).2 [r])=true:=h
 rw [e,Bool.and_eq_true] at h
 have h2:(decide (least≤r.length)&&decide (r.length≤most)&&r.all (PyInside.within lo hi)&&true)=true:=h.2
 simp only [Bool.and_eq_true,decide_eq_true_eq] at h2
 exact Nat.le_trans h2.1.1.2 hm
theorem ZlK {p:Int}{a:List Int}{xs:List (List Int)}(hs:PySb20.shape p=some (a.length,xs.length)) (h:PyInside.call PySb20.bound ((p::a)::xs)=true):∀ r∈xs,r.length≤4096 :=
 ZbB (φ:=fun p a xs=>PyInside.call PySb20.bound ((p::a)::xs)=true→∀ r∈xs,r.length≤4096) (fun _ _ _ _ e=>nomatch e) (fun _ _ _ _ e=>nomatch e) (fun _ _ _ h _ e=>List.mem_singleton.mp e▸ZeQ h rfl (by decide)) (fun _ h _ e=>List.mem_singleton.mp e▸ZeQ h rfl (by decide)) (fun _ h _ e=>List.mem_singleton.mp e▸ZeQ h rfl (by decide)) (fun _ _ h _ e=>List.mem_singleton.mp e▸ZeQ h rfl (by decide)) (fun _ h _ e=>List.mem_singleton.mp e▸ZeQ h rfl (by decide)) (fun _ _ h _ e=>List.mem_singleton.mp e▸ZeQ h rfl (by decide)) (fun _ _ _ _ _ e=>nomatch e) (fun _ _ _ h _ e=>List.mem_singleton.mp e▸ZeQ h rfl (by decide)) (fun _ _ _ _ _ _ _ e=>nomatch e) (fun _ _ _ _ e=>nomatch e) (fun _ _ e=>nomatch e) (fun _ _ _ h _ e=>List.mem_singleton.mp e▸ZeQ h rfl (by decide)) (fun _ _ _ e=>nomatch e) (fun _ _ _ _ e=>nomatch e) hs h
theorem call_of {c:List (List Int)}(h:PyFlat.okCall PySb20.shape c):∃ x,Sb20Neutral.callOf c=some x:=by
 obtain ⟨p,a,xs,rfl,hs⟩:=h
 exact ZbB (φ:=fun p a xs=>∃ x,Sb20Neutral.callOf ((p::a)::xs)=some x) (fun _ _=>⟨_,rfl⟩) (fun _ _=>⟨_,rfl⟩) (fun _ _ _=>⟨_,rfl⟩) (fun _=>⟨_,rfl⟩) (fun _=>⟨_,rfl⟩) (fun _ _=>⟨_,rfl⟩) (fun _=>⟨_,rfl⟩) (fun _ _=>⟨_,rfl⟩) (fun _ _ _=>⟨_,rfl⟩) (fun _ _ _=>⟨_,rfl⟩) (fun _ _ _ _ _=>⟨_,rfl⟩) (fun _ _=>⟨_,rfl⟩) ⟨_,rfl⟩ (fun _ _ _=>⟨_,rfl⟩) (fun _=>⟨_,rfl⟩) (fun _ _=>⟨_,rfl⟩) hs
abbrev Raw:=List (List Int)
theorem Zbg {s:Sb20.St}{c:Raw}{x:JU}(h:Sb20Neutral.callOf c=some x):Sb20Neutral.step s c=((act s x).1,Xq (act s x).2):=by
 unfold Sb20Neutral.step
 rw [h]
 rfl
def Zgn (s:Sb20.St) (cs:List Raw):Sb20.St:=cs.foldl (fun s c=>(Sb20Neutral.step s c).1) s
theorem Js:∀ (s:Sb20.St) (xs ys:List Raw),PyFlat.played Sb20Neutral.step s (xs++ys)=PyFlat.played Sb20Neutral.step s xs++PyFlat.played Sb20Neutral.step (Zgn s xs) ys
 | s,[],ys=>rfl
 | s,x::xs,ys=>by
  show _::PyFlat.played _ _ (xs++ys)=_::(PyFlat.played _ _ xs++_)
  rw [Js];rfl
theorem Zfi (a b:List (List Int)):PyFlat.told (a++b)=PyFlat.told a++PyFlat.told b:=by unfold PyFlat.told;rw [List.flatMap_append]
theorem Zbf:∀ (a b:List Raw),PyFlat.put (a++b)=PyFlat.put a++PyFlat.put b
 | [],b=>rfl
 | c::a,b=>by show PyFlat.put1 c++PyFlat.put (a++b)=_;rw [Zbf];show _=(PyFlat.put1 c++PyFlat.put a)++_;rw [List.append_assoc]
theorem Zjq (s:Sb20.St) (dn:List Raw) (c:Raw):Zgn s (dn++[c])=(Sb20Neutral.step (Zgn s dn) c).1:=by unfold Zgn;rw [List.foldl_append];rfl
theorem ZmA (s:Sb20.St) (x:JU):((act s x).1.w=s.w∧(act s x).1.h=s.h)∨(1≤(act s x).1.w∧1≤(act s x).1.h):=by
 cases hf:Sb20.fits x with
 | false=>rw [ZR hf];exact .inl ⟨rfl,rfl⟩
 | true =>
  have yes:∀ y,Sb20Neutral.does s x=some y→act s x=y:=fun y=>ZX hf
  have ov:∀ (how:Nat) (f:FF),(Sb20.over how f s).1.w=s.w∧(Sb20.over how f s).1.h=s.h:=fun how f=>by
   rw [ZbM]
   obtain ⟨c,d,e,_⟩:=Xd how f s (s.w*s.h)
   rw [e];exact ⟨rfl,rfl⟩
  cases x with
  | init w h =>
   rw [yes _ rfl]
   have hf:(Sb20.within 1 w 256&&Sb20.within 1 h 256)=true:=hf
   rw [Bool.and_eq_true,ZA,ZA] at hf
   refine .inr ⟨?_,?_⟩
   ·show 1≤w.toNat;lia
   ·show 1≤h.toNat;lia
  | clear p d=>rw [yes _ rfl];exact .inl ⟨rfl,rfl⟩
  | texture k l b=>rw [yes _ rfl];exact .inl ⟨rfl,rfl⟩
  | matrix m=>rw [yes _ rfl];exact .inl ⟨rfl,rfl⟩
  | view m=>rw [yes _ rfl];exact .inl ⟨rfl,rfl⟩
  | light m=>rw [yes _ rfl];exact .inl ⟨rfl,rfl⟩
  | points n l=>rw [JD hf rfl];exact .inl ⟨rfl,rfl⟩
  | normals n l=>rw [JD hf rfl];exact .inl ⟨rfl,rfl⟩
  | fog p a b=>rw [yes _ rfl];exact .inl ⟨rfl,rfl⟩
  | triangle k how c =>
   refine .inl ?_
   cases et:s.texture k.toNat with
   | none=>rw [yes (s,Sb20.says (-2)) (by unfold Sb20Neutral.does;simp only [et])];exact ⟨rfl,rfl⟩
   | some t =>
    rw [yes ((Sb20.triangle s t how.toNat (Sb20.corner ((Sb20.plain c).take 7)) (Sb20.corner (((Sb20.plain c).drop 7).take 7)) (Sb20.corner (((Sb20.plain c).drop 14).take 7))).1,Sb20.says ((Sb20.triangle s t how.toNat (Sb20.corner ((Sb20.plain c).take 7)) (Sb20.corner (((Sb20.plain c).drop 7).take 7)) (Sb20.corner (((Sb20.plain c).drop 14).take 7))).2:Nat)) (by unfold Sb20Neutral.does;simp only [et])]
    show (Sb20.triangle _ _ _ _ _ _).1.w=_∧(Sb20.triangle _ _ _ _ _ _).1.h=_
    unfold Sb20.triangle
    split
    ·exact ⟨rfl,rfl⟩
    ·split
     ·exact ov _ _
     ·exact ov _ _
  | sprite k how x y z =>
   refine .inl ?_
   cases et:s.texture k.toNat with
   | none=>rw [yes (s,Sb20.says (-2)) (by unfold Sb20Neutral.does;simp only [et])];exact ⟨rfl,rfl⟩
   | some t =>
    rw [yes ((Sb20.sprite s t how.toNat x y (Sb20.value z)).1,Sb20.says ((Sb20.sprite s t how.toNat x y (Sb20.value z)).2:Nat)) (by unfold Sb20Neutral.does;simp only [et])]
    exact ov _ _
  | fade p k=>rw [yes _ rfl];exact .inl ⟨rfl,rfl⟩
  | soften=>rw [yes _ rfl];exact .inl ⟨rfl,rfl⟩
  | marks n l p =>
   rw [yes _ rfl]
   refine .inl ?_
   obtain ⟨c,e,_⟩:=Zca (Sb20.px p) s (Sb20.pairs (l.map fun (b:Nat)=>(Sb20.double b).getD 0))
   show (marked _ _ _).1.w=_∧(marked _ _ _).1.h=_
   rw [e];exact ⟨rfl,rfl⟩
  | read y =>
   refine .inl ?_
   by_cases q:0≤y∧y<(s.h:Int)
   ·rw [yes _ (by unfold Sb20Neutral.does;simp only;rw [if_pos q])];exact ⟨rfl,rfl⟩
   ·rw [yes _ (by unfold Sb20Neutral.does;simp only;rw [if_neg q])];exact ⟨rfl,rfl⟩
  | depth x y =>
   refine .inl ?_
   by_cases q:0≤x∧x<(s.w:Int)∧0≤y∧y<(s.h:Int)
   ·rw [yes _ (by unfold Sb20Neutral.does;simp only;rw [if_pos q])];exact ⟨rfl,rfl⟩
   ·rw [yes _ (by unfold Sb20Neutral.does;simp only;rw [if_neg q])];exact ⟨rfl,rfl⟩
theorem Zfc {c:Raw}(h:Sb20Neutral.begins c=true):∃ a b:Int,c=[[0,a,b]]∧∀ s,act s (.init a b)=(Sb20.fresh a.toNat b.toNat,Sb20.says 0)∧1≤a.toNat∧1≤b.toNat:=by
 unfold Sb20Neutral.begins at h
 split at h
 ·rename_i a b
  simp only [Bool.and_eq_true,decide_eq_true_eq] at h
  refine ⟨a,b,rfl,fun s=>⟨ZX ?_ rfl,by lia,by lia⟩⟩
  show (Sb20.within 1 a 256&&Sb20.within 1 b 256)=true
  rw [(ZA _ _ _).mpr ⟨h.1,h.2.1⟩,(ZA _ _ _).mpr ⟨h.2.2.1,h.2.2.2⟩];rfl
 ·cases h
def pst (dn:List Raw):Sb20.St:=if dn=[] then Sb20.fresh 0 0 else Zgn Sb20Neutral.start dn
theorem ZgW {c:Raw}(h:PyFlat.okCall PySb20.shape c):1≤(PyFlat.put1 c).length:=by
 obtain ⟨p,a,xs,rfl,_⟩:=h
 show 1≤((p::a)++PyFlat.putRows xs).length
 rw [List.length_append,List.length_cons];lia
def XB (K:PySem.W.Frag) (H:Hp) (a c cl dl tl:Addr) (xs:List V):Prop:=(∃ (o:Obj) (its:Array Value) (n:Nat),K.lookup a=some o∧o.cls=.type "list"∧o.dict=none∧o.data=.seq its n∧its.size≤sizeLine∧Vals xs its.toList) ∨
 ∃ o,H a=some o∧(o=.lst xs∨∃ ob,o=.frz ob (.lst xs))∧a≠c∧a∉[cl,dl]∧a≠tl
theorem XB.sq {K:PySem.W.Frag}{H:Hp}{a c cl dl tl:Addr}{xs:List V}(h:XB K H a c cl dl tl xs):SqL K H a xs:=by
 rcases h with h | ⟨o,e,rfl | ⟨ob,rfl⟩,_⟩
 ·exact .inr h
 ·exact .inl (.inl e)
 ·exact .inl (.inr ⟨ob,e⟩)
theorem XB.upd {K:PySem.W.Frag}{H:Hp}{a c cl dl tl:Addr}{xs:List V}{u:HO}(h:XB K H a c cl dl tl xs):XB K (upd H tl u) a c cl dl tl xs:=by
 rcases h with h | ⟨o,e,ho,n1,n2,n3⟩
 ·exact .inl h
 ·exact .inr ⟨o,by rw [Zn n3];exact e,ho,n1,n2,n3⟩
theorem XB.fr {K:PySem.W.Frag}{H H':Hp}{a c cl dl cl' dl' tl:Addr}{xs:List V}(h:XB K H a c cl dl tl xs) (f:Fr c cl dl H H' cl' dl'):XB K H' a c cl' dl' tl xs:=by
 rcases h with h | ⟨o,e,ho,n1,n2,n3⟩
 ·exact .inl h
 ·refine .inr ⟨o,f.1 a o e n1 n2 (fun kvs z=>?_),ho,n1,fun z=>?_,n3⟩
  ·rcases ho with rfl | ⟨ob,rfl⟩ <;> cases z
  ·simp at z n2
   rcases z with rfl | rfl
   ·rcases f.2.1 with q | q
    ·exact n2.1 q
    ·rw [q] at e;cases e
   ·rcases f.2.2 with q | q
    ·exact n2.2 q
    ·rw [q] at e;cases e
theorem Cv.away {K:PySem.W.Frag}{cCv cTx cFg:Addr}{H:Hp}{c:Addr}{N:Nat}{s:Sb20.St}{cl dl tl:Addr}{od:Obj}{ys:List V}(h:Cv K cCv cTx cFg H c N s cl dl) (e:H tl=some (.frz od (.lst ys))) (u:HO):Cv K cCv cTx cFg (upd H tl u) c N s cl dl:=by
 obtain ⟨d,h⟩:=h
 have q:∀ b o,H b=some o→o≠.frz od (.lst ys)→upd H tl u b=some o:=fun b o h1 h2=>by
  rw [Zn (fun z=>by rw [z,e] at h1;cases h1;exact h2 rfl)];exact h1
 have qT:∀ b xs,SqT K H b xs→SqT K (upd H tl u) b xs:=fun b xs h=>by
  rcases h with (h | ⟨o,h⟩) | h
  ·exact .inl (.inl (q _ _ h (fun z=>by cases z)))
  ·exact .inl (.inr ⟨o,q _ _ h (fun z=>by cases z)⟩)
  ·exact .inr h
 have qP:∀ b p,Yr K H b p→Yr K (upd H tl u) b p:=fun b p h=>⟨qT _ _ h.1,h.2⟩
 have qPs:∀ as ps,Zw K H as ps→Zw K (upd H tl u) as ps:=fun as ps h=>⟨h.1,fun i a p h1 h2=>qP _ _ (h.2 i a p h1 h2)⟩
 have qL:∀ m ms n,LstAt H [cl,dl] m ms n→LstAt (upd H tl u) [cl,dl] m ms n:=fun m ms n h=>⟨q _ _ h.1 (fun z=>by cases z),h.2⟩
 refine ⟨d,⟨q _ _ h.ins (fun z=>by cases z),q _ _ h.cs (fun z=>by cases z),qPs _ _ h.px,q _ _ h.ds (fun z=>by cases z),h.ne,q _ _ h.tx (fun z=>by cases z),h.tn,fun k hk=>?_,qL _ _ _ h.mx,qL _ _ _ h.vw,qL _ _ _ h.lt,?_,h.wf⟩⟩
 ·have:=h.ta k hk
  cases et:s.texture k with
  | none=>rw [et] at this;exact this
  | some t =>
   rw [et] at this
   obtain ⟨a,e1,dx,tl',as,h1,h2,h3,h4,h5⟩:=this
   exact ⟨a,e1,dx,tl',as,q _ _ h1 (fun z=>by cases z),q _ _ h2 (fun z=>by cases z),h3,qPs _ _ h4,h5⟩
 ·have:=h.fg
  cases ef:s.fog with
  | none=>rw [ef] at this;exact this
  | some f =>
   rw [ef] at this
   obtain ⟨fa,dx,ct,h1,h2,h3,h4⟩:=this
   exact ⟨fa,dx,ct,h1,q _ _ h2 (fun z=>by cases z),qP _ _ h3,h4⟩
section
variable {P:Program}{w:World}{K:PySem.W.Frag}{mg:Str→Option Value}{base:Heap}{RF NT cCv cTx cFg cEg cCo cTr:Addr}
def Zhg (K:PySem.W.Frag):Sp:=fun vs H Q _=>∃ (a:Addr) (ls:List Int),vs=[.ref a]∧SqL K H a (ls.map V.int)∧PySb20.answers_asked ls=true∧∀ (H':Hp) (p:Addr),H' p=some (.lst ((PySb20.answers ls).map V.int))→Q (.ref p) H'
theorem ZfX {f:Addr}{fd:FuncData}(F:L2.Fun K "answers" "answers" (top 147) f fd)
  (f_Canvas:Mak P w K mg base CX0 4 "Canvas" cCv ["self"] (ZfQ K cCv cTx cFg))
  (f_answer_of:Cal P w K mg base CX0 21 "answer_of" ["canvas","call"] (ZlF K cCv cTx cFg))
  (f_end_of_call:Cal P w K mg base CX0 1 "end_of_call" ["calls","start"] (Zjn K))
  (b_len:mg "len"=none):Yi P w K mg base CX0 22 f fd ["calls"] (Zhg K):=by
 have S:ZW ["calls","canvas","told","start","end","answer"] ["calls"] (Zk (top 147)):=⟨rfl,rfl,rfl,by decide +kernel,rfl,by decide +kernel,by decide +kernel⟩
 refine F.ok S (fun _ _ _ _ h=>by obtain ⟨_,_,rfl,_⟩:=h;rfl) fun cdv A outer s H vs Q E hr h=>?_
 obtain ⟨a,ls,rfl,ha,hask,k⟩:=h
 refine ⟨_,(Zc (Zl (i:=1) S.nd rfl (Or.inl rfl) (Zlo f_Canvas (hr.mono (by decide)) rfl Zi)) (Zc (Zl (i:=2) S.nd rfl (Or.inl rfl) (ZL Zb)) (Zc (Zl (i:=3) S.nd rfl (Or.inl rfl) Zd) (Zc (Zer PassesOwn.never (ZC ltC (pv 3) (ZP (r:=Zfj K) Zgt (by rfl) b_len PySem.boot_len (Za (pv 0) Zb)) (ZD _)) (Zc (Zl (i:=4) S.nd rfl (Or.inl rfl) (Zg f_end_of_call (hr.mono (by decide)) rfl Zi (Za (pv 0) (Za (pv 3) Zb)))) (Zc (Zl (i:=5) S.nd rfl (Or.inl rfl) (ZkN (Zg f_answer_of (hr.mono (by decide)) rfl Zi (Za (pv 1) (Za (ZT (r:=Qj K) slK (pv 0) (ZG (pv 3)) (ZG (pv 4))) Zb))))) (Zc (ZU (Qn PySem.F.plainAttrs_list PySem.F.slot_list_append PySem.F.type_list_append QP (pv 2) (Za (ZP (r:=Zfj K) Zgt (by rfl) b_len PySem.boot_len (Za (pv 5) Zb)) Zb))) (Zc (ZU (Qn PySem.F.plainAttrs_list PySem.F.slot_list_extend PySem.F.type_list_extend Xy (pv 2) (Za (pv 5) Zb))) (Zf (Zl (i:=3) S.nd rfl (Or.inl rfl) (pv 4)))))))) (Zf (Zm (pv 2))))))),?_⟩
 obtain ⟨raw,hput,hoks,hasked,hin,h100,⟨c0,r0,hraw0,hbeg⟩,hans,hlen⟩:=request hask
 intro x dx nx nd ne
 refine ⟨x,dx,rfl,Ze,fun H1 al dl hv1 n1 n2 r1=>⟨rfl,?_⟩⟩
 have S1:Zq H H1:=Zq.made nx nd r1
 have fr0:∀ y,upd (upd H dx (.own x)) x (.ins cCv dx []) y=none→H y=none:=fun y e=>(Zr (Zh nd) nx:Zq H _).free e
 refine ⟨(by show 0≤sizeLine;decide),fun tl ntl=>?_⟩
 have s2:=Zh (o:=.lst []) ntl
 obtain ⟨d1,hv1⟩:=hv1
 have hv2:∀ u,Cv K cCv cTx cFg (upd (upd H1 tl (.lst [])) tl u) x 0 (pst []) al dl:=fun u=>by rw [Yt];exact ⟨d1,hv1.same (Zh ntl)⟩
 have tne:tl≠x∧tl∉[al,dl]:=by
  refine ⟨(fun z=>by rw [z,hv1.ins] at ntl;cases ntl),fun z=>?_⟩
  obtain ⟨xs,e⟩:=hv1.lists tl z
  rw [e] at ntl;cases ntl
 have harg:XB K (upd H1 tl (.lst [])) a x al dl tl (ls.map V.int):=by
  have mk:∀ o,H a=some o→(o=.lst (ls.map V.int)∨∃ ob,o=.frz ob (.lst (ls.map V.int)))→XB K (upd H1 tl (.lst [])) a x al dl tl (ls.map V.int):=fun o e ho=>by
   refine .inr ⟨o,s2 _ _ (S1 _ _ e),ho,(fun z=>by rw [z,nx] at e;cases e),fun z=>?_,(fun z=>by rw [z] at e;rw [S1 _ _ e] at ntl;cases ntl)⟩
   simp at z
   rcases z with rfl | rfl
   ·rw [fr0 _ n1] at e;cases e
   ·rw [fr0 _ n2] at e;cases e
  rcases ha with (h | ⟨ob,h⟩) | h
  ·exact mk _ h (.inl rfl)
  ·exact mk _ h (.inr ⟨ob,rfl⟩)
  ·exact .inl h
 have tl2:upd H1 tl (.lst []) tl=some (.lst ((PyFlat.told (PyFlat.played Sb20Neutral.step Sb20Neutral.start [])).map V.int)):=by rw [Ze];rfl
 generalize upd H1 tl (.lst [])=H2 at *
 clear hv1 n1 n2 r1 S1 fr0 ntl s2
 refine Zfp (fun σ H'=>∃ (dn rs:List Raw) (v4 v5:Option V) (cl dl:Addr),raw=dn++rs∧σ=[some (.ref a),some (.ref x),some (.ref tl),some (.int ((PyFlat.put dn).length:Nat)),v4,v5]∧XB K H' a x cl dl tl (ls.map V.int)∧(∀ u,Cv K cCv cTx cFg (upd H' tl u) x dn.length (pst dn) cl dl) ∧
   H' tl=some (.lst ((PyFlat.told (PyFlat.played Sb20Neutral.step Sb20Neutral.start dn)).map V.int))∧tl≠x∧tl∉[cl,dl]∧(dn≠[]→0<(pst dn).w∧0<(pst dn).h)) (fun σ _=>match σ with | [_,_,_,some (.int st),_,_]=>ls.length-st.toNat | _=>0)
  ⟨[],raw,none,none,al,dl,rfl,rfl,harg,hv2,tl2,tne.1,tne.2,fun z=>absurd rfl z⟩ ?_ ?_
 ·rintro σ H' ⟨dn,rs,v4,v5,al',dl',hraw,rfl,harg',hvA,etl,t1,t2,hlive⟩
  refine ⟨_,rfl,_,rfl,a,_,_,rfl,.inl harg'.sq,rfl,_,_,rfl,rfl,fun b1 h1=>⟨_,rfl,Ye (fun c1=>?_) fun c1=>?_⟩⟩
  ·have hlt:=h1.mp c1
   rw [List.length_map] at hlt
   match rs,hraw with
   | [],hraw =>
    rw [List.append_nil] at hraw
    rw [hput,hraw] at hlt
    lia
   | c::rs,hraw =>
   have hc:c∈raw:=by rw [hraw];simp
   have hok:=hoks c hc
   have hpos:=ZgW hok
   obtain ⟨p,ws,xs,ec,hsh⟩:=id hok
   obtain ⟨call,hcall⟩:=call_of hok
   have hin':=hin c hc
   have hask1:=hasked c hc
   subst ec
   have hls:ls=PyFlat.put dn++(PyFlat.put1 ((p::ws)::xs)++PyFlat.put rs):=by rw [hput,hraw,Zbf];rfl
   refine ⟨_,rfl,_,rfl,a,ls,PyFlat.put dn,PyFlat.put rs,p,ws,xs,rfl,harg'.sq,hls,hsh,?_⟩
   refine ⟨tl,_,etl,trivial,fun od=>?_⟩
   obtain ⟨d',hv'⟩:=hvA (.frz od (.lst ((PyFlat.told (PyFlat.played Sb20Neutral.step Sb20Neutral.start dn)).map V.int)))
   have hargL:XB K (upd H' tl (.frz od (.lst ((PyFlat.told (PyFlat.played Sb20Neutral.step Sb20Neutral.start dn)).map V.int)))) a x al' dl' tl (ls.map V.int):=harg'.upd
   have etlL:upd H' tl (.frz od (.lst ((PyFlat.told (PyFlat.played Sb20Neutral.step Sb20Neutral.start dn)).map V.int))) tl=some (.frz od (.lst ((PyFlat.told (PyFlat.played Sb20Neutral.step Sb20Neutral.start dn)).map V.int))):=Ze
   generalize upd H' tl (.frz od (.lst ((PyFlat.told (PyFlat.played Sb20Neutral.step Sb20Neutral.start dn)).map V.int)))=HL at *
   refine ⟨_,rfl,_,rfl,_,rfl,_,rfl,_,rfl,_,rfl,a,_,rfl,hargL.sq,fun ca nca=>?_⟩
   have ecut:YV (ls.map V.int) (some ((PyFlat.put dn).length:Int)) (some ((PyFlat.put dn).length+(PyFlat.put1 ((p::ws)::xs)).length:Nat))=(PyFlat.put1 ((p::ws)::xs)).map V.int:=by
    rw [Xh (by lia) (by rw [List.length_map,hls,List.length_append,List.length_append];lia),Nat.add_sub_cancel_left,hls,List.map_append,List.map_append,List.drop_append_of_le_length (by rw [List.length_map];exact Nat.le_refl _),List.drop_of_length_le (by rw [List.length_map];exact Nat.le_refl _),List.nil_append,List.take_append_of_le_length (by rw [List.length_map];exact Nat.le_refl _),List.take_of_length_le (by rw [List.length_map];exact Nat.le_refl _)]
   rw [ecut]
   have sc:=Zh (o:=.lst ((PyFlat.put1 ((p::ws)::xs)).map V.int)) nca
   have hvc:=hv'.same sc
   have etlc:=sc _ _ etlL
   have hargc:XB K (upd HL ca (.lst ((PyFlat.put1 ((p::ws)::xs)).map V.int))) a x al' dl' tl (ls.map V.int):=hargL.fr (Fr.same sc)
   have hsqc:SqL K (upd HL ca (.lst ((PyFlat.put1 ((p::ws)::xs)).map V.int))) ca ((PyFlat.put1 ((p::ws)::xs)).map V.int):=SqL.of Ze
   generalize upd HL ca (.lst ((PyFlat.put1 ((p::ws)::xs)).map V.int))=H3 at *
   have hlen':dn.length<200:=by
    have:(dn++((p::ws)::xs)::rs).length≤100:=by rw [← hraw];exact h100
    rw [List.length_append] at this;lia
   have hfirst:dn=[]→((p::ws)::xs)=c0:=fun z=>by
    subst z
    rw [hraw0] at hraw
    exact (List.cons.inj hraw).1.symm
   have hlv:p≠0→0<(pst dn).w∧0<(pst dn).h:=fun hp=>by
    by_cases z:dn=[]
    ·obtain ⟨i,j,e,_⟩:=Zfc hbeg
     have:=hfirst z
     rw [e] at this
     exact absurd (List.cons.inj (List.cons.inj this).1).1 hp
    ·exact hlive z
   refine ⟨x,ca,dn.length,pst dn,al',dl',p,ws,xs,call,rfl,⟨d',hvc⟩,hsqc,hsh,hask1,hcall,ZlK hsh hin',hlv,hlen',fun H4 l al4 dl4 fr4 hv4 nl4 el4=>?_⟩
   have hdue:(act (pst dn) call).1=pst (dn++[(p::ws)::xs])∧PyFlat.played Sb20Neutral.step Sb20Neutral.start (dn++[(p::ws)::xs])=PyFlat.played Sb20Neutral.step Sb20Neutral.start dn++[Xq (act (pst dn) call).2]∧(0<(act (pst dn) call).1.w∧0<(act (pst dn) call).1.h):=by
    have hne:¬ dn++[(p::ws)::xs]=[]:=by simp
    by_cases z:dn=[]
    ·obtain ⟨i,j,e,hact⟩:=Zfc hbeg
     have e2:=(hfirst z).trans e
     rw [e2] at hcall ⊢
     have ecall:call=.init i j:=(Option.some.inj hcall).symm
     subst ecall
     subst z
     have ha1:=hact (pst [])
     have ha2:=hact Sb20Neutral.start
     refine ⟨?_,?_,?_⟩
     ·rw [ha1.1]
      unfold pst
      rw [if_neg (by simp)]
      show _=(Sb20Neutral.step Sb20Neutral.start [[0,i,j]]).1
      rw [Zbg (x:=.init i j) rfl,ha2.1]
     ·show [(Sb20Neutral.step Sb20Neutral.start [[0,i,j]]).2]=_
      rw [Zbg (x:=.init i j) rfl,ha2.1,ha1.1];rfl
     ·rw [ha1.1]
      exact ⟨by show 0<i.toNat;lia,by show 0<j.toNat;lia⟩
    ·have ep:pst dn=Zgn Sb20Neutral.start dn:=by unfold pst;rw [if_neg z]
     have ep2:pst (dn++[(p::ws)::xs])=Zgn Sb20Neutral.start (dn++[(p::ws)::xs]):=by unfold pst;rw [if_neg hne]
     refine ⟨?_,?_,?_⟩
     ·rw [ep2,Zjq,Zbg hcall,← ep]
     ·rw [Js,← ep]
      show _++[(Sb20Neutral.step (pst dn) ((p::ws)::xs)).2]=_
      rw [Zbg hcall]
     ·have hl:=hlive z
      rcases ZmA (pst dn) call with q | q
      ·rw [q.1,q.2];exact hl
      ·exact ⟨q.1,q.2⟩
   obtain ⟨hd1,hd2,hd3⟩:=hdue
   rw [hd1] at hv4 hd3
   have etl4L:=fr4.1 tl _ etlc t1 t2 (fun kvs z=>by cases z)
   refine ⟨etl4L,?_⟩
   have htold:PyFlat.told (PyFlat.played Sb20Neutral.step Sb20Neutral.start (dn++[(p::ws)::xs]))=PyFlat.told (PyFlat.played Sb20Neutral.step Sb20Neutral.start dn)++((((Xq (act (pst dn) call).2).length:Nat):Int)::Xq (act (pst dn) call).2):=by
    rw [hd2,Zfi]
    show _++([Xq (act (pst dn) call).2].flatMap fun a=>(a.length:Int)::a)=_
    rw [List.flatMap_cons,List.flatMap_nil,List.append_nil]
   have hbound:(PyFlat.told (PyFlat.played Sb20Neutral.step Sb20Neutral.start (dn++[(p::ws)::xs]))).length≤10000000:=by
    have e3:raw=(dn++[(p::ws)::xs])++rs:=by rw [hraw];simp
    rw [hans,e3,Js,Zfi,List.length_append] at hlen
    lia
   rw [htold,List.length_append,List.length_cons] at hbound
   generalize hA:Xq (act (pst dn) call).2=ans at *
   generalize hT:PyFlat.told (PyFlat.played Sb20Neutral.step Sb20Neutral.start dn)=tol at *
   have nlt:l≠tl:=fun z=>by rw [z,etlc] at nl4;cases nl4
   have harg4:=(hargc.fr fr4).upd (u:=.lst (tol.map V.int))
   have hv5:∀ u,Cv K cCv cTx cFg (upd (upd H4 tl (.lst (tol.map V.int))) tl u) x (dn.length+1) (pst (dn++[(p::ws)::xs])) al4 dl4:=fun u=>by rw [Yt];exact hv4.away etl4L u
   have etl4:upd H4 tl (.lst (tol.map V.int)) tl=some (.lst (tol.map V.int)):=Ze
   have el4':upd H4 tl (.lst (tol.map V.int)) l=some (.lst (ans.map V.int)):=by rw [Zn nlt];exact el4
   generalize upd H4 tl (.lst (tol.map V.int))=H5 at *
   have elen:(((ans.map V.int).length:Nat):Int)=((ans.length:Nat):Int):=by rw [List.length_map]
   refine ⟨_,rfl,.inl ⟨rfl,_,SqL.of etl4⟩,_,rfl,l,_,_,rfl,.inl (SqL.of el4'),elen,tl,_,_,rfl,rfl,etl4,?_,?_⟩
   ·rw [List.length_map];exact Nat.lt_of_lt_of_le (show tol.length<16777216 by lia) (by decide)
   have el5:upd H5 tl (.lst (tol.map V.int++[V.int ((ans.length:Nat):Int)])) l=some (.lst (ans.map V.int)):=by rw [Zn nlt];exact el4'
   refine ⟨_,rfl,.inl ⟨rfl,_,SqL.of Ze⟩,_,rfl,tl,l,_,_,rfl,rfl,Ze,el5,?_,?_⟩
   ·rw [List.length_append,List.length_map,List.length_map]
    exact Nat.le_trans (show tol.length+1+ans.length≤16777216 by lia) (by decide)
   rw [Yt]
   have tn4:tl∉[al4,dl4]:=fun z=>by
    simp at z t2
    rcases z with rfl | rfl
    ·rcases fr4.2.1 with q | q
     ·exact t2.1 q
     ·rw [q] at etlc;cases etlc
    ·rcases fr4.2.2 with q | q
     ·exact t2.2 q
     ·rw [q] at etlc;cases etlc
   refine ⟨_,rfl,⟨dn++[(p::ws)::xs],rs,some (.int (((PyFlat.put dn).length+(PyFlat.put1 ((p::ws)::xs)).length:Nat):Int)),some (.ref l),al4,dl4,by rw [hraw];simp,?_,?_,?_,?_,t1,tn4,fun _=>hd3⟩,?_⟩
   ·rw [Zbf]
    show _=[_,_,_,some (V.int ((PyFlat.put dn++(PyFlat.put1 ((p::ws)::xs)++[])).length:Nat)),_,_]
    rw [List.append_nil,List.length_append];rfl
   ·exact harg4.upd
   ·intro u;rw [Yt,List.length_append];exact hv5 u
   ·rw [Ze,htold,List.map_append,List.map_cons,List.append_assoc];rfl
   ·show ls.length-(((PyFlat.put dn).length+(PyFlat.put1 ((p::ws)::xs)).length:Nat):Int).toNat<ls.length-(((PyFlat.put dn).length:Nat):Int).toNat
    rw [Int.toNat_natCast,Int.toNat_natCast]
    lia
  ·have hge:¬ (((PyFlat.put dn).length:Nat):Int)<(((ls.map V.int).length:Nat):Int):=fun z=>c1 (h1.mpr z)
   rw [List.length_map] at hge
   have hrs:rs=[]:=by
    match rs,hraw with
    | [],_=>rfl
    | c::rs,hraw =>
     exfalso
     have hpos:=ZgW (hoks c (by rw [hraw];simp))
     have:ls.length=(PyFlat.put dn).length+((PyFlat.put1 c).length+(PyFlat.put rs).length):=by
      rw [hput,hraw,Zbf,List.length_append]
      show _+(PyFlat.put1 c++PyFlat.put rs).length=_
      rw [List.length_append]
     lia
   subst hrs
   rw [List.append_nil] at hraw
   rw [← hraw,← hans] at etl
   exact ⟨_,rfl,k H' tl etl⟩
 ·rintro σ H' Q1 Q2 hq ⟨v,e1,v0,e2,p,ys,z,e3,e4,e5,i,j,e6,e7,q⟩
  refine ⟨v,e1,v0,e2,p,ys,z,e3,e4,e5,i,j,e6,e7,fun b hb=>?_⟩
  obtain ⟨b',e8,q'⟩:=q b hb
  exact ⟨b',e8,hq _ _ q'⟩
end
end Sg
namespace Sg
open PySem PySem.Spec PyProof.Rows L2 LX SbM
structure Facts (K:PySem.W.Frag) (mg:Str→Option Value) (RF NT cCv cTx cFg cEg cCo cTr:Addr):Prop where
 T:Zu K cCv cTx cFg cEg cCo cTr
 d_exponent_of:Df K mg "exponent_of" (top 1) ["bits","exponent_bits","fraction_bits"]
 d_is_finite:Df K mg "is_finite" (top 2) ["bits","exponent_bits","fraction_bits"]
 d_steps_from_bits:Df K mg "steps_from_bits" (top 3) ["bits","exponent_bits","fraction_bits"]
 d_nearest_whole:Df K mg "nearest_whole" (top 4) ["number","bits"]
 d_cut_whole:Df K mg "cut_whole" (top 5) ["number","bits"]
 d_double_from_whole:Df K mg "double_from_whole" (top 8) ["number"]
 d_whole_from_double:Df K mg "whole_from_double" (top 9) ["a"]
 d_power_of_two:Df K mg "power_of_two" (top 13) ["exponent"]
 d_plus:Df K mg "plus" (top 14) ["a","b"]
 d_times:Df K mg "times" (top 15) ["a","b"]
 d_quotient:Df K mg "quotient" (top 16) ["a","b"]
 d_kept_whole:Df K mg "kept_whole" (top 17) ["number"]
 d_reciprocal:Df K mg "reciprocal" (top 18) ["a"]
 d_whole_from_single:Df K mg "whole_from_single" (top 20) ["a"]
 d_cut_from_single:Df K mg "cut_from_single" (top 21) ["a"]
 d_three_products:Df K mg "three_products" (top 19) ["a","b"]
 d_whole_root:Df K mg "whole_root" (top 22) ["number"]
 d_reciprocal_root:Df K mg "reciprocal_root" (top 23) ["a"]
 d_threes:Df K mg "threes" (top 57) ["numbers"]
 d_row_at:Df K mg "row_at" (top 58) ["matrix","row","point"]
 d_is_behind:Df K mg "is_behind" (top 59) ["matrix","point"]
 d_seen_point:Df K mg "seen_point" (top 60) ["matrix","view","point"]
 d_moved_points:Df K mg "moved_points" (top 61) ["matrix","view","numbers"]
 d_lit_normal:Df K mg "lit_normal" (top 62) ["light","normal"]
 d_lit_normals:Df K mg "lit_normals" (top 63) ["light","numbers"]
 d_whole_within:Df K mg "whole_within" (top 31) ["number","low","high"]
 d_float_between:Df K mg "float_between" (top 32) ["bits","exponent_bits","fraction_bits","low","high"]
 d_single_between:Df K mg "single_between" (top 33) ["bits","low","high"]
 d_single_within:Df K mg "single_within" (top 34) ["bits","limit"]
 d_singles_within:Df K mg "singles_within" (top 35) ["row","limit"]
 d_double_within:Df K mg "double_within" (top 36) ["bits","limit"]
 d_colour_from_number:Df K mg "colour_from_number" (top 46) ["number"]
 d_mixed:Df K mg "mixed" (top 49) ["x","y","k"]
 d_mixed_colour:Df K mg "mixed_colour" (top 50) ["x","y","k"]
 d_fogged_colour:Df K mg "fogged_colour" (top 51) ["fog","colour","k"]
 d_lit_colour:Df K mg "lit_colour" (top 52) ["colour","brightness"]
 d_added_colour:Df K mg "added_colour" (top 53) ["x","y"]
 d_mean_colour:Df K mg "mean_colour" (top 54) ["x","y"]
 d_colours_from_bytes:Df K mg "colours_from_bytes" (top 47) ["row"]
 d_bytes_from_colours:Df K mg "bytes_from_colours" (top 48) ["colours"]
 d_small_singles:Df K mg "small_singles" (top 42) ["numbers"]
 d_Canvas_fill:Dm K cCv "fill" "Canvas.fill" (inClass (top 44) 2) ["self","colour","depth"]
 d_Canvas_has_pixel:Dm K cCv "has_pixel" "Canvas.has_pixel" (inClass (top 44) 3) ["self","x","y"]
 d_Canvas_place_of:Dm K cCv "place_of" "Canvas.place_of" (inClass (top 44) 4) ["self","x","y"]
 d_Canvas_texture_at:Dm K cCv "texture_at" "Canvas.texture_at" (inClass (top 44) 5) ["self","k"]
 d_Texture_init:Di K mg "Texture" cTx "Texture.__init__" (inClass (top 43) 0) ["self","log","colours"]
 d_Canvas_renew:Dm K cCv "renew" "Canvas.renew" (inClass (top 44) 1) ["self","width","height"]
 d_Canvas_init:Di K mg "Canvas" cCv "Canvas.__init__" (inClass (top 44) 0) ["self"]
 d_is_hidden:Df K mg "is_hidden" (top 81) ["canvas","place","depth"]
 d_laid_colour:Df K mg "laid_colour" (top 79) ["old","new","way"]
 d_draw_pixel:Df K mg "draw_pixel" (top 80) ["canvas","place","colour","depth","way"]
 d_draw_texel:Df K mg "draw_texel" (top 83) ["canvas","x","y","colour","depth","how"]
 d_draw_sprite:Df K mg "draw_sprite" (top 84) ["canvas","texture","how","x","y","depth"]
 d_Fog_init:Di K mg "Fog" cFg "Fog.__init__" (inClass (top 71) 0) ["self","colour","near","far"]
 d_clearness:Df K mg "clearness" (top 72) ["fog","depth"]
 d_colour_in_fog:Df K mg "colour_in_fog" (top 73) ["fog","colour","depth"]
 d_place_from_single:Df K mg "place_from_single" (top 88) ["number"]
 d_side_of:Df K mg "side_of" (top 89) ["a","b","x","y"]
 d_is_own:Df K mg "is_own" (top 90) ["a","b"]
 d_Edge_init:Di K mg "Edge" cEg "Edge.__init__" (inClass (top 91) 0) ["self","a","b"]
 d_Edge_side_at_row:Dm K cEg "side_at_row" "Edge.side_at_row" (inClass (top 91) 1) ["self","j"]
 d_first_in_row:Df K mg "first_in_row" (top 92) ["edges","sides"]
 d_last_in_row:Df K mg "last_in_row" (top 93) ["edges","sides","width"]
 d_Corner_init:Di K mg "Corner" cCo "Corner.__init__" (inClass (top 98) 0) ["self","numbers"]
 d_area_of:Df K mg "area_of" (top 99) ["corners"]
 d_Triangle_init:Di K mg "Triangle" cTr "Triangle.__init__" (inClass (top 100) 0) ["self","corners","texture","how"]
 d_texel_index:Df K mg "texel_index" (top 101) ["number","texture"]
 d_texel_at:Df K mg "texel_at" (top 102) ["triangle","shares"]
 d_brightness_at:Df K mg "brightness_at" (top 103) ["triangle","shares"]
 d_colour_at:Df K mg "colour_at" (top 104) ["triangle","shares","fog","depth"]
 d_draw_shares:Df K mg "draw_shares" (top 105) ["canvas","triangle","place","shares"]
 d_draw_row:Df K mg "draw_row" (top 106) ["canvas","triangle","j"]
 d_draw_triangle:Df K mg "draw_triangle" (top 107) ["canvas","texture","how","corners"]
 d_fade_colours:Df K mg "fade_colours" (top 65) ["canvas","colour","by"]
 d_means:Df K mg "means" (top 66) ["first","second"]
 d_soften_colours:Df K mg "soften_colours" (top 67) ["canvas"]
 d_mark_pixels:Df K mg "mark_pixels" (top 68) ["canvas","numbers","colour"]
 d_call_init:Df K mg "call_init" (top 125) ["canvas","wholes","row"]
 d_call_clear:Df K mg "call_clear" (top 126) ["canvas","wholes","row"]
 d_call_texture:Df K mg "call_texture" (top 127) ["canvas","wholes","row"]
 d_call_matrix:Df K mg "call_matrix" (top 128) ["canvas","wholes","row"]
 d_call_view:Df K mg "call_view" (top 129) ["canvas","wholes","row"]
 d_call_light:Df K mg "call_light" (top 131) ["canvas","wholes","row"]
 d_call_points:Df K mg "call_points" (top 130) ["canvas","wholes","row"]
 d_call_normals:Df K mg "call_normals" (top 132) ["canvas","wholes","row"]
 d_call_fog:Df K mg "call_fog" (top 133) ["canvas","wholes","row"]
 d_call_fade:Df K mg "call_fade" (top 137) ["canvas","wholes","row"]
 d_call_soften:Df K mg "call_soften" (top 138) ["canvas","wholes","row"]
 d_call_sprite:Df K mg "call_sprite" (top 136) ["canvas","wholes","row"]
 d_call_read:Df K mg "call_read" (top 140) ["canvas","wholes","row"]
 d_call_depth:Df K mg "call_depth" (top 141) ["canvas","wholes","row"]
 d_corner_from_bits:Df K mg "corner_from_bits" (top 134) ["row"]
 d_call_triangle:Df K mg "call_triangle" (top 135) ["canvas","wholes","row"]
 d_call_marks:Df K mg "call_marks" (top 139) ["canvas","wholes","row"]
 d_end_of_call:Df K mg "end_of_call" (top 145) ["calls","start"]
 d_answer_of:Df K mg "answer_of" (top 146) ["canvas","call"]
 c_UNIT_BITS_doubles:Cst mg "UNIT_BITS_doubles" (.int 1074)
 c_UNIT_BITS_singles:Cst mg "UNIT_BITS_singles" (.int 149)
 c_KEPT_BITS:Cst mg "KEPT_BITS" (.int 24)
 c_SINGLE_EXPONENT_BITS:Cst mg "SINGLE_EXPONENT_BITS" (.int 8)
 c_SINGLE_FRACTION_BITS:Cst mg "SINGLE_FRACTION_BITS" (.int 23)
 c_DOUBLE_EXPONENT_BITS:Cst mg "DOUBLE_EXPONENT_BITS" (.int 11)
 c_DOUBLE_FRACTION_BITS:Cst mg "DOUBLE_FRACTION_BITS" (.int 52)
 c_ADDED:Cst mg "ADDED" (.int 3)
 c_MIXED:Cst mg "MIXED" (.int 2)
 c_HOLED:Cst mg "HOLED" (.int 1)
 c_OPAQUE:Cst mg "OPAQUE" (.int 0)
 c_CLEAR:Cst mg "CLEAR" (.int 128)
 c_PIXEL:Cst mg "PIXEL" (.int 16)
 c_MIDDLE:Cst mg "MIDDLE" (.int 8)
 c_WAYS:Cst mg "WAYS" (.int 4)
 c_BRIGHTEST_triangles:Cst mg "BRIGHTEST_triangles" (.int 256)
 c_ONE_SIDED:Cst mg "ONE_SIDED" (.int 4)
 c_WIDEST:Cst mg "WIDEST" (.int 256)
 c_FARTHEST:Cst mg "FARTHEST" (.int 1048576)
 c_LARGEST_LOG:Cst mg "LARGEST_LOG" (.int 6)
 c_LAST_TEXTURE:Cst mg "LAST_TEXTURE" (.int 7)
 c_BRIGHTEST_picture:Cst mg "BRIGHTEST_picture" (.int 1)
 c_MOST_POINTS:Cst mg "MOST_POINTS" (.int 256)
 c_LONGEST_NORMAL:Cst mg "LONGEST_NORMAL" (.int 1024)
 c_MOST_FADED:Cst mg "MOST_FADED" (.int 128)
 c_FIRST_SPRITE_PLACE:Cst mg "FIRST_SPRITE_PLACE" (.int (-256))
 c_LAST_SPRITE_HOW:Cst mg "LAST_SPRITE_HOW" (.int 3)
 c_LAST_SPRITE_PLACE:Cst mg "LAST_SPRITE_PLACE" (.int 255)
 c_FARTHEST_CORNER:Cst mg "FARTHEST_CORNER" (.int 500)
 c_FARTHEST_TEXEL:Cst mg "FARTHEST_TEXEL" (.int 1024)
 c_CORNER_SIZE:Cst mg "CORNER_SIZE" (.int 7)
 c_LAST_TRIANGLE_HOW:Cst mg "LAST_TRIANGLE_HOW" (.int 7)
 c_MOST_MARKS:Cst mg "MOST_MARKS" (.int 256)
 t_ZEROS:∃ t,Cst mg "ZEROS" (.ref t)∧YN K t [.int 0,.int 0,.int 0,.int 0]
 t_FIRST_COLOUR:∃ t,Cst mg "FIRST_COLOUR" (.ref t)∧YN K t [.int 0,.int 0,.int 0,.int 0]
 t_FIRST_LIGHT:∃ t,Cst mg "FIRST_LIGHT" (.ref t)∧YN K t [.int 0,.int 0,.int 0]
 t_FIRST_VIEW:∃ t,Cst mg "FIRST_VIEW" (.ref t)∧YN K t [.int 0,.int 0,.int 1,.int 1]
 t_IDENTITY:∃ t,Cst mg "IDENTITY" (.ref t)∧YN K t [.int 1,.int 0,.int 0,.int 0,.int 0,.int 1,.int 0,.int 0,.int 0,.int 0,.int 1,.int 0,.int 0,.int 0,.int 0,.int 1]
 t_HAS_ROW:∃ t,Cst mg "HAS_ROW" (.ref t)∧YN K t [.bl false,.bl false,.bl true,.bl true,.bl true,.bl true,.bl true,.bl true,.bl false,.bl true,.bl false,.bl false,.bl false,.bl true,.bl false,.bl false]
 t_WHOLES:∃ t,Cst mg "WHOLES" (.ref t)∧YN K t [.int 2,.int 2,.int 2,.int 0,.int 0,.int 1,.int 0,.int 1,.int 3,.int 2,.int 5,.int 2,.int 0,.int 2,.int 1,.int 2]
 b_divmod:mg "divmod"=none
 b_enumerate:mg "enumerate"=none
 b_len:mg "len"=none
 b_list:mg "list"=none
 b_max:mg "max"=none
 b_min:mg "min"=none
 b_range:mg "range"=none
 b_tuple:mg "tuple"=none
 b_zip:mg "zip"=none
 q_Refused:ExcAt K RF
 m_Refused:mg "Refused"=some (.ref RF)
 q_NoTexture:ExcAt K NT
 m_NoTexture:mg "NoTexture"=some (.ref NT)
 bare:Zek K NT
 ne:RF≠NT
 hands:∃ t f0 f1 f2 f3 f4 f5 f6 f7 f8 f9 f10 f11 f12 f13 f14 f15,Cst mg "HANDLERS" (.ref t)∧YN K t [.ref f0,.ref f1,.ref f2,.ref f3,.ref f4,.ref f5,.ref f6,.ref f7,.ref f8,.ref f9,.ref f10,.ref f11,.ref f12,.ref f13,.ref f14,.ref f15]∧mg "call_init"=some (.ref f0)∧mg "call_clear"=some (.ref f1)∧mg "call_texture"=some (.ref f2)∧mg "call_matrix"=some (.ref f3)∧mg "call_view"=some (.ref f4)∧mg "call_points"=some (.ref f5)∧mg "call_light"=some (.ref f6)∧mg "call_normals"=some (.ref f7)∧mg "call_fog"=some (.ref f8)∧mg "call_triangle"=some (.ref f9)∧mg "call_sprite"=some (.ref f10)∧mg "call_fade"=some (.ref f11)∧mg "call_soften"=some (.ref f12)∧mg "call_marks"=some (.ref f13)∧mg "call_read"=some (.ref f14)∧mg "call_depth"=some (.ref f15)
section
variable {P:Program}{w:World}{K:PySem.W.Frag}{mg:Str→Option Value}{base:Heap}{RF NT cCv cTx cFg cEg cCo cTr:Addr}
theorem Cal.hand {k:Nat}{x:Str}{f:Addr}{n:Int}{b:Bool}(F:Cal P w K mg base (CXR P w) k x ["canvas","wholes","row"] (Zv K cCv cTx cFg RF NT n b)) (e:mg x=some (.ref f)) (hk:k≤20):∃ fd,Yi P w K mg base (CXR P w) 20 f fd ["canvas","wholes","row"] (Zv K cCv cTx cFg RF NT n b)∧PySem.W.keepIn K (.ref f)=true∧Binds K fd ["canvas","wholes","row"] []:=by
 obtain ⟨f',fd,h1,h2,h3,h4⟩:=F
 rw [h1] at e
 cases e
 exact ⟨fd,h4.mono hk,h2,h3⟩
theorem ZjC {f0 f1 f2 f3 f4 f5 f6 f7 f8 f9 f10 f11 f12 f13 f14 f15:Addr}(F0:∃ fd,Yi P w K mg base (CXR P w) 20 f0 fd ["canvas","wholes","row"] (Zv K cCv cTx cFg RF NT 0 false)∧PySem.W.keepIn K (.ref f0)=true∧Binds K fd ["canvas","wholes","row"] []) (F1:∃ fd,Yi P w K mg base (CXR P w) 20 f1 fd ["canvas","wholes","row"] (Zv K cCv cTx cFg RF NT 1 false)∧PySem.W.keepIn K (.ref f1)=true∧Binds K fd ["canvas","wholes","row"] []) (F2:∃ fd,Yi P w K mg base (CXR P w) 20 f2 fd ["canvas","wholes","row"] (Zv K cCv cTx cFg RF NT 2 true)∧PySem.W.keepIn K (.ref f2)=true∧Binds K fd ["canvas","wholes","row"] []) (F3:∃ fd,Yi P w K mg base (CXR P w) 20 f3 fd ["canvas","wholes","row"] (Zv K cCv cTx cFg RF NT 3 true)∧PySem.W.keepIn K (.ref f3)=true∧Binds K fd ["canvas","wholes","row"] []) (F4:∃ fd,Yi P w K mg base (CXR P w) 20 f4 fd ["canvas","wholes","row"] (Zv K cCv cTx cFg RF NT 4 true)∧PySem.W.keepIn K (.ref f4)=true∧Binds K fd ["canvas","wholes","row"] []) (F5:∃ fd,Yi P w K mg base (CXR P w) 20 f5 fd ["canvas","wholes","row"] (Zv K cCv cTx cFg RF NT 5 true)∧PySem.W.keepIn K (.ref f5)=true∧Binds K fd ["canvas","wholes","row"] []) (F6:∃ fd,Yi P w K mg base (CXR P w) 20 f6 fd ["canvas","wholes","row"] (Zv K cCv cTx cFg RF NT 6 true)∧PySem.W.keepIn K (.ref f6)=true∧Binds K fd ["canvas","wholes","row"] []) (F7:∃ fd,Yi P w K mg base (CXR P w) 20 f7 fd ["canvas","wholes","row"] (Zv K cCv cTx cFg RF NT 7 true)∧PySem.W.keepIn K (.ref f7)=true∧Binds K fd ["canvas","wholes","row"] []) (F8:∃ fd,Yi P w K mg base (CXR P w) 20 f8 fd ["canvas","wholes","row"] (Zv K cCv cTx cFg RF NT 8 false)∧PySem.W.keepIn K (.ref f8)=true∧Binds K fd ["canvas","wholes","row"] []) (F9:∃ fd,Yi P w K mg base (CXR P w) 20 f9 fd ["canvas","wholes","row"] (Zv K cCv cTx cFg RF NT 9 true)∧PySem.W.keepIn K (.ref f9)=true∧Binds K fd ["canvas","wholes","row"] []) (F10:∃ fd,Yi P w K mg base (CXR P w) 20 f10 fd ["canvas","wholes","row"] (Zv K cCv cTx cFg RF NT 10 false)∧PySem.W.keepIn K (.ref f10)=true∧Binds K fd ["canvas","wholes","row"] []) (F11:∃ fd,Yi P w K mg base (CXR P w) 20 f11 fd ["canvas","wholes","row"] (Zv K cCv cTx cFg RF NT 11 false)∧PySem.W.keepIn K (.ref f11)=true∧Binds K fd ["canvas","wholes","row"] []) (F12:∃ fd,Yi P w K mg base (CXR P w) 20 f12 fd ["canvas","wholes","row"] (Zv K cCv cTx cFg RF NT 12 false)∧PySem.W.keepIn K (.ref f12)=true∧Binds K fd ["canvas","wholes","row"] []) (F13:∃ fd,Yi P w K mg base (CXR P w) 20 f13 fd ["canvas","wholes","row"] (Zv K cCv cTx cFg RF NT 13 true)∧PySem.W.keepIn K (.ref f13)=true∧Binds K fd ["canvas","wholes","row"] []) (F14:∃ fd,Yi P w K mg base (CXR P w) 20 f14 fd ["canvas","wholes","row"] (Zv K cCv cTx cFg RF NT 14 false)∧PySem.W.keepIn K (.ref f14)=true∧Binds K fd ["canvas","wholes","row"] []) (F15:∃ fd,Yi P w K mg base (CXR P w) 20 f15 fd ["canvas","wholes","row"] (Zv K cCv cTx cFg RF NT 15 false)∧PySem.W.keepIn K (.ref f15)=true∧Binds K fd ["canvas","wholes","row"] []):Zlw P w K mg base cCv cTx cFg RF NT [.ref f0,.ref f1,.ref f2,.ref f3,.ref f4,.ref f5,.ref f6,.ref f7,.ref f8,.ref f9,.ref f10,.ref f11,.ref f12,.ref f13,.ref f14,.ref f15]:=by
 intro p a b hs
 by_cases q0:p=0
 ·subst q0
  have e:PySb20.shape 0=some (2,0):=rfl
  rw [e] at hs
  cases hs
  obtain ⟨fd,h1,h2,h3⟩:=F0
  exact ⟨f0,fd,rfl,h1,h2,h3⟩
 by_cases q1:p=1
 ·subst q1
  have e:PySb20.shape 1=some (2,0):=rfl
  rw [e] at hs
  cases hs
  obtain ⟨fd,h1,h2,h3⟩:=F1
  exact ⟨f1,fd,rfl,h1,h2,h3⟩
 by_cases q2:p=2
 ·subst q2
  have e:PySb20.shape 2=some (2,1):=rfl
  rw [e] at hs
  cases hs
  obtain ⟨fd,h1,h2,h3⟩:=F2
  exact ⟨f2,fd,rfl,h1,h2,h3⟩
 by_cases q3:p=3
 ·subst q3
  have e:PySb20.shape 3=some (0,1):=rfl
  rw [e] at hs
  cases hs
  obtain ⟨fd,h1,h2,h3⟩:=F3
  exact ⟨f3,fd,rfl,h1,h2,h3⟩
 by_cases q4:p=4
 ·subst q4
  have e:PySb20.shape 4=some (0,1):=rfl
  rw [e] at hs
  cases hs
  obtain ⟨fd,h1,h2,h3⟩:=F4
  exact ⟨f4,fd,rfl,h1,h2,h3⟩
 by_cases q5:p=5
 ·subst q5
  have e:PySb20.shape 5=some (1,1):=rfl
  rw [e] at hs
  cases hs
  obtain ⟨fd,h1,h2,h3⟩:=F5
  exact ⟨f5,fd,rfl,h1,h2,h3⟩
 by_cases q6:p=6
 ·subst q6
  have e:PySb20.shape 6=some (0,1):=rfl
  rw [e] at hs
  cases hs
  obtain ⟨fd,h1,h2,h3⟩:=F6
  exact ⟨f6,fd,rfl,h1,h2,h3⟩
 by_cases q7:p=7
 ·subst q7
  have e:PySb20.shape 7=some (1,1):=rfl
  rw [e] at hs
  cases hs
  obtain ⟨fd,h1,h2,h3⟩:=F7
  exact ⟨f7,fd,rfl,h1,h2,h3⟩
 by_cases q8:p=8
 ·subst q8
  have e:PySb20.shape 8=some (3,0):=rfl
  rw [e] at hs
  cases hs
  obtain ⟨fd,h1,h2,h3⟩:=F8
  exact ⟨f8,fd,rfl,h1,h2,h3⟩
 by_cases q9:p=9
 ·subst q9
  have e:PySb20.shape 9=some (2,1):=rfl
  rw [e] at hs
  cases hs
  obtain ⟨fd,h1,h2,h3⟩:=F9
  exact ⟨f9,fd,rfl,h1,h2,h3⟩
 by_cases q10:p=10
 ·subst q10
  have e:PySb20.shape 10=some (5,0):=rfl
  rw [e] at hs
  cases hs
  obtain ⟨fd,h1,h2,h3⟩:=F10
  exact ⟨f10,fd,rfl,h1,h2,h3⟩
 by_cases q11:p=11
 ·subst q11
  have e:PySb20.shape 11=some (2,0):=rfl
  rw [e] at hs
  cases hs
  obtain ⟨fd,h1,h2,h3⟩:=F11
  exact ⟨f11,fd,rfl,h1,h2,h3⟩
 by_cases q12:p=12
 ·subst q12
  have e:PySb20.shape 12=some (0,0):=rfl
  rw [e] at hs
  cases hs
  obtain ⟨fd,h1,h2,h3⟩:=F12
  exact ⟨f12,fd,rfl,h1,h2,h3⟩
 by_cases q13:p=13
 ·subst q13
  have e:PySb20.shape 13=some (2,1):=rfl
  rw [e] at hs
  cases hs
  obtain ⟨fd,h1,h2,h3⟩:=F13
  exact ⟨f13,fd,rfl,h1,h2,h3⟩
 by_cases q14:p=14
 ·subst q14
  have e:PySb20.shape 14=some (1,0):=rfl
  rw [e] at hs
  cases hs
  obtain ⟨fd,h1,h2,h3⟩:=F14
  exact ⟨f14,fd,rfl,h1,h2,h3⟩
 by_cases q15:p=15
 ·subst q15
  have e:PySb20.shape 15=some (2,0):=rfl
  rw [e] at hs
  cases hs
  obtain ⟨fd,h1,h2,h3⟩:=F15
  exact ⟨f15,fd,rfl,h1,h2,h3⟩
 exfalso
 unfold PySb20.shape at hs
 rw [if_neg q0,if_neg q1,if_neg q2,if_neg q3,if_neg q4,if_neg q5,if_neg q6,if_neg q7,if_neg q8,if_neg q9,if_neg q10,if_neg q11,if_neg q12,if_neg q13,if_neg q14,if_neg q15] at hs
 cases hs
theorem Zgz (Φ:Facts K mg RF NT cCv cTx cFg cEg cCo cTr){f:Addr}{fd:FuncData}(F:L2.Fun K "answers" "answers" (top 147) f fd):Yi P w K mg base CX0 22 f fd ["calls"] (Zhg K):=by
 obtain ⟨tZEROS,c_ZEROS,k_ZEROS⟩:=Φ.t_ZEROS
 obtain ⟨tFIRST_COLOUR,c_FIRST_COLOUR,k_FIRST_COLOUR⟩:=Φ.t_FIRST_COLOUR
 obtain ⟨tFIRST_LIGHT,c_FIRST_LIGHT,k_FIRST_LIGHT⟩:=Φ.t_FIRST_LIGHT
 obtain ⟨tFIRST_VIEW,c_FIRST_VIEW,k_FIRST_VIEW⟩:=Φ.t_FIRST_VIEW
 obtain ⟨tIDENTITY,c_IDENTITY,k_IDENTITY⟩:=Φ.t_IDENTITY
 obtain ⟨tHAS_ROW,c_HAS_ROW,k_HAS_ROW⟩:=Φ.t_HAS_ROW
 obtain ⟨tWHOLES,c_WHOLES,k_WHOLES⟩:=Φ.t_WHOLES
 obtain ⟨tHANDLERS,f0,f1,f2,f3,f4,f5,f6,f7,f8,f9,f10,f11,f12,f13,f14,f15,c_HANDLERS,k_HANDLERS,m0,m1,m2,m3,m4,m5,m6,m7,m8,m9,m10,m11,m12,m13,m14,m15⟩:=Φ.hands
 have f_exponent_of:Cal P w K mg base CX0 1 "exponent_of" ["bits","exponent_bits","fraction_bits"] Zhc:=ZbY Φ.d_exponent_of
 have f_is_finite:Cal P w K mg base CX0 2 "is_finite" ["bits","exponent_bits","fraction_bits"] ZiM:=ZdD Φ.d_is_finite f_exponent_of
 have f_steps_from_bits:Cal P w K mg base CX0 2 "steps_from_bits" ["bits","exponent_bits","fraction_bits"] ZdT:=Jn Φ.d_steps_from_bits f_exponent_of
 have f_nearest_whole:Cal P w K mg base CX0 1 "nearest_whole" ["number","bits"] ZaF:=Zav Φ.d_nearest_whole
 have f_cut_whole:Cal P w K mg base CX0 1 "cut_whole" ["number","bits"] ZjH:=Zei Φ.d_cut_whole
 have f_double_from_whole:Cal P w K mg base CX0 1 "double_from_whole" ["number"] ZjL:=QA Φ.d_double_from_whole Φ.c_UNIT_BITS_doubles
 have f_whole_from_double:Cal P w K mg base CX0 2 "whole_from_double" ["a"] Zmp:=QD Φ.d_whole_from_double f_nearest_whole Φ.c_UNIT_BITS_doubles
 have f_power_of_two:Cal P w K mg base CX0 1 "power_of_two" ["exponent"] QF:=ZaQ Φ.d_power_of_two Φ.c_UNIT_BITS_singles
 have f_plus:Cal P w K mg base CX0 2 "plus" ["a","b"] QB:=Zkr Φ.d_plus f_nearest_whole Φ.c_KEPT_BITS
 have f_times:Cal P w K mg base CX0 2 "times" ["a","b"] Xk:=Zkh Φ.d_times f_nearest_whole Φ.c_KEPT_BITS Φ.c_UNIT_BITS_singles
 have f_quotient:Cal P w K mg base CX0 2 "quotient" ["a","b"] Jg:=ZeS Φ.d_quotient f_nearest_whole Φ.c_KEPT_BITS Φ.c_UNIT_BITS_singles Φ.b_divmod
 have f_kept_whole:Cal P w K mg base CX0 3 "kept_whole" ["number"] Zbm:=Zcv Φ.d_kept_whole f_plus
 have f_reciprocal:Cal P w K mg base CX0 3 "reciprocal" ["a"] ZdM:=ZcA Φ.d_reciprocal f_power_of_two f_quotient
 have f_whole_from_single:Cal P w K mg base CX0 2 "whole_from_single" ["a"] Zkk:=QE Φ.d_whole_from_single f_nearest_whole Φ.c_UNIT_BITS_singles
 have f_cut_from_single:Cal P w K mg base CX0 2 "cut_from_single" ["a"] ZmK:=Ju Φ.d_cut_from_single f_cut_whole Φ.c_UNIT_BITS_singles
 have f_three_products:Cal P w K mg base CX0 3 "three_products" ["a","b"] (XO K):=JM Φ.d_three_products f_plus f_times
 have f_whole_root:Cal P w K mg base CX0 1 "whole_root" ["number"] Zgk:=Zcs Φ.d_whole_root
 have f_reciprocal_root:Cal P w K mg base CX0 2 "reciprocal_root" ["a"] Zeg:=Jt Φ.d_reciprocal_root f_whole_root Φ.c_KEPT_BITS Φ.c_UNIT_BITS_singles Φ.b_max
 have f_threes:Cal P w K mg base CX0 1 "threes" ["numbers"] (JK K):=ZhM Φ.d_threes Φ.b_len Φ.b_range
 have f_row_at:Cal P w K mg base CX0 4 "row_at" ["matrix","row","point"] (Zhm K):=Zht Φ.d_row_at f_plus f_three_products
 have f_is_behind:Cal P w K mg base CX0 5 "is_behind" ["matrix","point"] (Zck K):=Zdq Φ.d_is_behind f_power_of_two f_row_at
 have f_seen_point:Cal P w K mg base CX0 5 "seen_point" ["matrix","view","point"] (Zgj K):=Zcu Φ.d_seen_point f_plus f_reciprocal f_row_at f_times
 have f_moved_points:Cal P w K mg base CX0 6 "moved_points" ["matrix","view","numbers"] (Zej K):=ZaN Φ.d_moved_points f_is_behind f_seen_point f_threes c_ZEROS k_ZEROS
 have f_lit_normal:Cal P w K mg base CX0 4 "lit_normal" ["light","normal"] (Zkg K):=ZcD Φ.d_lit_normal f_power_of_two f_reciprocal_root f_three_products f_times c_ZEROS k_ZEROS Φ.b_list Φ.b_max Φ.b_min
 have f_lit_normals:Cal P w K mg base CX0 5 "lit_normals" ["light","numbers"] (ZfF K):=ZbC Φ.d_lit_normals f_lit_normal f_threes
 have f_whole_within:Cal P w K mg base (CXR P w) 1 "whole_within" ["number","low","high"] (Yv RF):=ZaS Φ.d_whole_within Φ.q_Refused Φ.m_Refused
 have f_float_between:Cal P w K mg base (CXR P w) 3 "float_between" ["bits","exponent_bits","fraction_bits","low","high"] (Zlm RF):=Zaj Φ.d_float_between f_is_finite f_steps_from_bits f_whole_within Φ.q_Refused Φ.m_Refused
 have f_single_between:Cal P w K mg base (CXR P w) 4 "single_between" ["bits","low","high"] (ZkW RF):=JZ Φ.d_single_between f_float_between Φ.c_SINGLE_EXPONENT_BITS Φ.c_SINGLE_FRACTION_BITS
 have f_single_within:Cal P w K mg base (CXR P w) 5 "single_within" ["bits","limit"] (ZfD RF):=Zaa Φ.d_single_within f_power_of_two f_single_between
 have f_singles_within:Cal P w K mg base (CXR P w) 6 "singles_within" ["row","limit"] (Zaz K RF):=JP Φ.d_singles_within f_single_within
 have f_double_within:Cal P w K mg base (CXR P w) 4 "double_within" ["bits","limit"] (Zmq RF):=Zae Φ.d_double_within f_double_from_whole f_float_between Φ.c_DOUBLE_EXPONENT_BITS Φ.c_DOUBLE_FRACTION_BITS
 have f_colour_from_number:Cal P w K mg base CX0 1 "colour_from_number" ["number"] Zih:=Qi Φ.d_colour_from_number
 have f_mixed:Cal P w K mg base CX0 1 "mixed" ["x","y","k"] Zim:=Zjt Φ.d_mixed
 have f_mixed_colour:Cal P w K mg base CX0 2 "mixed_colour" ["x","y","k"] (ZiE K):=ZaK Φ.d_mixed_colour f_mixed
 have f_fogged_colour:Cal P w K mg base CX0 3 "fogged_colour" ["fog","colour","k"] (Zbo K):=Zau Φ.d_fogged_colour f_mixed_colour
 have f_lit_colour:Cal P w K mg base CX0 1 "lit_colour" ["colour","brightness"] (Zgu K):=Zcx Φ.d_lit_colour
 have f_added_colour:Cal P w K mg base CX0 1 "added_colour" ["x","y"] (Zkb K):=ZaH Φ.d_added_colour Φ.b_min Φ.b_tuple Φ.b_zip
 have f_mean_colour:Cal P w K mg base CX0 1 "mean_colour" ["x","y"] (ZjY K):=Zbk Φ.d_mean_colour Φ.b_tuple Φ.b_zip
 have f_colours_from_bytes:Cal P w K mg base CX0 1 "colours_from_bytes" ["row"] (ZmO K):=Ql Φ.d_colours_from_bytes Φ.b_len Φ.b_range Φ.b_tuple
 have f_bytes_from_colours:Cal P w K mg base CX0 1 "bytes_from_colours" ["colours"] (Zmb K):=Qh Φ.d_bytes_from_colours
 have f_small_singles:Cal P w K mg base CX0 2 "small_singles" ["numbers"] (Zdt K):=Zag Φ.d_small_singles f_power_of_two
 have f_fill:Mth P w K mg base CX0 1 cCv "fill" ["self","colour","depth"] (ZdI cCv):=ZbF Φ.d_Canvas_fill Φ.T
 have f_has_pixel:Mth P w K mg base CX0 1 cCv "has_pixel" ["self","x","y"] (ZgH cCv):=QZ Φ.d_Canvas_has_pixel Φ.T
 have f_place_of:Mth P w K mg base CX0 1 cCv "place_of" ["self","x","y"] (XR cCv):=Jx Φ.d_Canvas_place_of Φ.T
 have f_texture_at:Mth P w K mg base (CXR P w) 1 cCv "texture_at" ["self","k"] (ZaX cCv NT):=Qy Φ.d_Canvas_texture_at Φ.q_NoTexture Φ.m_NoTexture Φ.T
 have f_Texture:Mak P w K mg base CX0 1 "Texture" cTx ["self","log","colours"] (Zfz cTx):=ZaI Φ.d_Texture_init Φ.T
 have f_renew:Mth P w K mg base CX0 3 cCv "renew" ["self","width","height"] (ZaV K cCv cTx cFg):=ZaR Φ.d_Canvas_renew f_fill f_power_of_two f_small_singles c_FIRST_COLOUR k_FIRST_COLOUR c_FIRST_LIGHT k_FIRST_LIGHT c_FIRST_VIEW k_FIRST_VIEW c_IDENTITY k_IDENTITY Φ.T
 have f_Canvas:Mak P w K mg base CX0 4 "Canvas" cCv ["self"] (ZfQ K cCv cTx cFg):=Zbw Φ.d_Canvas_init f_renew
 have f_is_hidden:Cal P w K mg base CX0 1 "is_hidden" ["canvas","place","depth"] (ZgJ K cCv cTx cFg):=Zdx Φ.d_is_hidden Φ.T
 have f_laid_colour:Cal P w K mg base CX0 3 "laid_colour" ["old","new","way"] (ZdN K):=Zbu Φ.d_laid_colour f_added_colour f_mixed_colour Φ.c_ADDED Φ.c_MIXED
 have f_draw_pixel:Cal P w K mg base CX0 4 "draw_pixel" ["canvas","place","colour","depth","way"] (Zds K cCv cTx cFg):=Zcz Φ.d_draw_pixel f_laid_colour Φ.c_HOLED Φ.c_OPAQUE Φ.T
 have f_draw_texel:Cal P w K mg base CX0 5 "draw_texel" ["canvas","x","y","colour","depth","how"] (ZdS K cCv cTx cFg):=ZcG Φ.d_draw_texel f_has_pixel f_place_of f_draw_pixel f_is_hidden Φ.T
 have f_draw_sprite:Cal P w K mg base CX0 6 "draw_sprite" ["canvas","texture","how","x","y","depth"] (Zcf K cCv cTx cFg):=ZbS Φ.d_draw_sprite f_draw_texel Φ.b_enumerate Φ.T
 have f_Fog:Mak P w K mg base CX0 3 "Fog" cFg ["self","colour","near","far"] (Zfu cFg):=ZeU Φ.d_Fog_init f_plus f_power_of_two f_quotient Φ.c_CLEAR Φ.T
 have f_clearness:Cal P w K mg base CX0 3 "clearness" ["fog","depth"] (ZdG cFg):=Zdr Φ.d_clearness f_plus f_times f_whole_from_single Φ.c_CLEAR Φ.b_max Φ.b_min Φ.T
 have f_colour_in_fog:Cal P w K mg base CX0 4 "colour_in_fog" ["fog","colour","depth"] (ZjT K cFg):=Zal Φ.d_colour_in_fog f_clearness f_fogged_colour Φ.T
 have f_place_from_single:Cal P w K mg base CX0 3 "place_from_single" ["number"] ZjS:=QO Φ.d_place_from_single f_whole_from_single Φ.c_PIXEL
 have f_side_of:Cal P w K mg base CX0 1 "side_of" ["a","b","x","y"] (ZdY cCo):=ZfU Φ.d_side_of Φ.T
 have f_is_own:Cal P w K mg base CX0 1 "is_own" ["a","b"] (ZiL cCo):=ZhB Φ.d_is_own Φ.T
 have f_Edge:Mak P w K mg base CX0 2 "Edge" cEg ["self","a","b"] (Zeq cEg cCo):=Zel Φ.d_Edge_init f_is_own Φ.c_PIXEL Φ.T
 have f_side_at_row:Mth P w K mg base CX0 2 cEg "side_at_row" ["self","j"] (Zhd cEg cCo):=Jc Φ.d_Edge_side_at_row f_side_of Φ.c_MIDDLE Φ.c_PIXEL Φ.T
 have f_first_in_row:Cal P w K mg base CX0 1 "first_in_row" ["edges","sides"] (Zeb K cEg cCo):=ZaT Φ.d_first_in_row Φ.b_max Φ.b_zip Φ.T
 have f_last_in_row:Cal P w K mg base CX0 1 "last_in_row" ["edges","sides","width"] (ZfK K cEg cCo):=Zbt Φ.d_last_in_row Φ.b_min Φ.b_zip Φ.T
 have f_Corner:Mak P w K mg base CX0 4 "Corner" cCo ["self","numbers"] (Zit K cCo):=Zcn Φ.d_Corner_init f_place_from_single f_times Φ.T
 have f_area_of:Cal P w K mg base CX0 2 "area_of" ["corners"] (ZdC K cCo):=Zgy Φ.d_area_of f_side_of Φ.T
 have f_Triangle:Mak P w K mg base CX0 4 "Triangle" cTr ["self","corners","texture","how"] (Zbz K cTx cEg cCo cTr):=Zam Φ.d_Triangle_init f_Edge f_area_of f_kept_whole Φ.c_WAYS Φ.T
 have f_texel_index:Cal P w K mg base CX0 3 "texel_index" ["number","texture"] (ZlH K cTx):=Zch Φ.d_texel_index f_cut_from_single Φ.T
 have f_texel_at:Cal P w K mg base CX0 4 "texel_at" ["triangle","shares"] (ZlG K cTx cEg cCo cTr):=Zes Φ.d_texel_at f_quotient f_texel_index f_three_products Φ.T
 have f_brightness_at:Cal P w K mg base CX0 4 "brightness_at" ["triangle","shares"] (ZmE K cTx cEg cCo cTr):=Zap Φ.d_brightness_at f_three_products f_whole_from_single Φ.c_BRIGHTEST_triangles Φ.b_max Φ.b_min Φ.T
 have f_colour_at:Cal P w K mg base CX0 5 "colour_at" ["triangle","shares","fog","depth"] (Zmu K cFg cTx cEg cCo cTr):=Zen Φ.d_colour_at f_brightness_at f_colour_in_fog f_lit_colour f_texel_at
 have f_draw_shares:Cal P w K mg base CX0 6 "draw_shares" ["canvas","triangle","place","shares"] (Zmr K cCv cFg cTx cEg cCo cTr):=Zcl Φ.d_draw_shares f_colour_at f_draw_pixel f_is_hidden f_three_products Φ.T
 have f_draw_row:Cal P w K mg base CX0 7 "draw_row" ["canvas","triangle","j"] (Zkc K cCv cFg cTx cEg cCo cTr):=ZeR Φ.d_draw_row f_place_of f_side_at_row f_draw_shares f_first_in_row f_kept_whole f_last_in_row f_quotient Φ.b_range Φ.b_zip Φ.T
 have f_draw_triangle:Cal P w K mg base CX0 8 "draw_triangle" ["canvas","texture","how","corners"] (ZlO K cCv cFg cTx cCo):=Zaw Φ.d_draw_triangle f_Triangle f_area_of f_draw_row Φ.c_ONE_SIDED Φ.b_range Φ.T
 have f_fade_colours:Cal P w K mg base CX0 3 "fade_colours" ["canvas","colour","by"] (ZfH K cCv cTx cFg):=ZaP Φ.d_fade_colours f_mixed_colour Φ.T
 have f_means:Cal P w K mg base CX0 2 "means" ["first","second"] (ZdW K):=Ziv Φ.d_means f_mean_colour Φ.b_zip
 have f_soften_colours:Cal P w K mg base CX0 3 "soften_colours" ["canvas"] (ZfL K cCv cTx cFg):=JF Φ.d_soften_colours f_means Φ.b_len Φ.b_range Φ.T
 have f_mark_pixels:Cal P w K mg base CX0 2 "mark_pixels" ["canvas","numbers","colour"] (Zft K cCv cTx cFg):=Zcj Φ.d_mark_pixels f_has_pixel f_place_of Φ.b_len Φ.b_range Φ.T
 have f_call_init:Cal P w K mg base (CXR P w) 4 "call_init" ["canvas","wholes","row"] (Zv K cCv cTx cFg RF NT 0 false):=ZdK Φ.d_call_init f_renew f_whole_within Φ.c_WIDEST Φ.T
 have f_call_clear:Cal P w K mg base (CXR P w) 6 "call_clear" ["canvas","wholes","row"] (Zv K cCv cTx cFg RF NT 1 false):=ZcH Φ.d_call_clear f_fill f_colour_from_number f_single_within Φ.c_FARTHEST Φ.T
 have f_call_texture:Cal P w K mg base (CXR P w) 3 "call_texture" ["canvas","wholes","row"] (Zv K cCv cTx cFg RF NT 2 true):=ZaJ Φ.d_call_texture f_Texture f_colours_from_bytes f_whole_within Φ.c_LARGEST_LOG Φ.c_LAST_TEXTURE Φ.T
 have f_call_matrix:Cal P w K mg base (CXR P w) 7 "call_matrix" ["canvas","wholes","row"] (Zv K cCv cTx cFg RF NT 3 true):=Zcg Φ.d_call_matrix f_singles_within Φ.c_FARTHEST Φ.T
 have f_call_view:Cal P w K mg base (CXR P w) 7 "call_view" ["canvas","wholes","row"] (Zv K cCv cTx cFg RF NT 4 true):=Zdn Φ.d_call_view f_singles_within Φ.c_FARTHEST Φ.T
 have f_call_light:Cal P w K mg base (CXR P w) 7 "call_light" ["canvas","wholes","row"] (Zv K cCv cTx cFg RF NT 6 true):=Zcw Φ.d_call_light f_singles_within Φ.c_BRIGHTEST_picture Φ.T
 have f_call_points:Cal P w K mg base (CXR P w) 7 "call_points" ["canvas","wholes","row"] (Zv K cCv cTx cFg RF NT 5 true):=ZbD Φ.d_call_points f_moved_points f_singles_within f_whole_within Φ.c_FARTHEST Φ.c_MOST_POINTS Φ.T
 have f_call_normals:Cal P w K mg base (CXR P w) 7 "call_normals" ["canvas","wholes","row"] (Zv K cCv cTx cFg RF NT 7 true):=ZaM Φ.d_call_normals f_lit_normals f_singles_within f_whole_within Φ.c_LONGEST_NORMAL Φ.c_MOST_POINTS Φ.T
 have f_call_fog:Cal P w K mg base (CXR P w) 6 "call_fog" ["canvas","wholes","row"] (Zv K cCv cTx cFg RF NT 8 false):=Zet Φ.d_call_fog f_Fog f_colour_from_number f_power_of_two f_single_within Φ.c_FARTHEST Φ.q_Refused Φ.m_Refused Φ.T
 have f_call_fade:Cal P w K mg base (CXR P w) 4 "call_fade" ["canvas","wholes","row"] (Zv K cCv cTx cFg RF NT 11 false):=ZdP Φ.d_call_fade f_colour_from_number f_fade_colours f_whole_within Φ.c_MOST_FADED
 have f_call_soften:Cal P w K mg base (CXR P w) 4 "call_soften" ["canvas","wholes","row"] (Zv K cCv cTx cFg RF NT 12 false):=Zcm Φ.d_call_soften f_soften_colours
 have f_call_sprite:Cal P w K mg base (CXR P w) 7 "call_sprite" ["canvas","wholes","row"] (Zv K cCv cTx cFg RF NT 10 false):=Zbl Φ.d_call_sprite f_texture_at f_draw_sprite f_single_within f_whole_within Φ.c_FARTHEST Φ.c_FIRST_SPRITE_PLACE Φ.c_LAST_SPRITE_HOW Φ.c_LAST_SPRITE_PLACE Φ.c_LAST_TEXTURE
 have f_call_read:Cal P w K mg base (CXR P w) 2 "call_read" ["canvas","wholes","row"] (Zv K cCv cTx cFg RF NT 14 false):=ZdJ Φ.d_call_read f_place_of f_bytes_from_colours f_whole_within Φ.T
 have f_call_depth:Cal P w K mg base (CXR P w) 2 "call_depth" ["canvas","wholes","row"] (Zv K cCv cTx cFg RF NT 15 false):=Zcr Φ.d_call_depth f_place_of f_whole_within Φ.T
 have f_corner_from_bits:Cal P w K mg base (CXR P w) 7 "corner_from_bits" ["row"] (Zkf K cCo RF):=Jb Φ.d_corner_from_bits f_Corner f_power_of_two f_single_between f_single_within f_singles_within Φ.c_FARTHEST Φ.c_FARTHEST_CORNER Φ.c_FARTHEST_TEXEL
 have f_call_triangle:Cal P w K mg base (CXR P w) 9 "call_triangle" ["canvas","wholes","row"] (Zv K cCv cTx cFg RF NT 9 true):=Zat Φ.d_call_triangle f_texture_at f_corner_from_bits f_draw_triangle f_whole_within Φ.c_CORNER_SIZE Φ.c_LAST_TEXTURE Φ.c_LAST_TRIANGLE_HOW Φ.b_len Φ.b_range
 have f_call_marks:Cal P w K mg base (CXR P w) 5 "call_marks" ["canvas","wholes","row"] (Zv K cCv cTx cFg RF NT 13 true):=Zct Φ.d_call_marks f_colour_from_number f_double_within f_mark_pixels f_whole_from_double f_whole_within Φ.c_FARTHEST Φ.c_MOST_MARKS
 have f_end_of_call:Cal P w K mg base CX0 1 "end_of_call" ["calls","start"] (Zjn K):=ZbH Φ.d_end_of_call c_HAS_ROW k_HAS_ROW c_WHOLES k_WHOLES
 have hands:=ZjC (P:=P) (w:=w) (K:=K) (mg:=mg) (base:=base) (cCv:=cCv) (cTx:=cTx) (cFg:=cFg) (RF:=RF) (NT:=NT) (f_call_init.hand m0 (by decide)) (f_call_clear.hand m1 (by decide)) (f_call_texture.hand m2 (by decide)) (f_call_matrix.hand m3 (by decide)) (f_call_view.hand m4 (by decide)) (f_call_points.hand m5 (by decide)) (f_call_light.hand m6 (by decide)) (f_call_normals.hand m7 (by decide)) (f_call_fog.hand m8 (by decide)) (f_call_triangle.hand m9 (by decide)) (f_call_sprite.hand m10 (by decide)) (f_call_fade.hand m11 (by decide)) (f_call_soften.hand m12 (by decide)) (f_call_marks.hand m13 (by decide)) (f_call_read.hand m14 (by decide)) (f_call_depth.hand m15 (by decide))
 have f_answer_of:Cal P w K mg base CX0 21 "answer_of" ["canvas","call"] (ZlF K cCv cTx cFg):=ZdU Φ.d_answer_of c_HANDLERS c_HAS_ROW k_HAS_ROW c_WHOLES k_WHOLES Φ.q_Refused Φ.m_Refused Φ.q_NoTexture Φ.m_NoTexture Φ.bare Φ.ne k_HANDLERS hands
 exact ZfX F f_Canvas f_answer_of f_end_of_call Φ.b_len
end
end Sg
namespace Sg
open PySem PySem.Spec PyProof.Rows L2 LX SbM
section
variable {K:PySem.W.Frag}{h:Heap}{mg:Str→Option Value}
theorem Znz {x:Str}{st:Stmt}{ps:List Str}{f:Addr}{oc:Value}{od an:Option Addr}{osl:Array (Option Value)}{kV doc pm cdv ct:Value}(X:K.In h) (G:h.Ns mainGlobals mg)
  (a:PySem.W.nsIn K mainGlobals x=some (some (.ref f))) (l:K.lookup f=some ⟨oc,od,.func (PySem.W.fnOf x x (Yz st) (ZK st) (Zk st) .none kV doc pm an cdv ct),osl⟩) (c:PySem.W.codeIn K cdv x=true) (k:PySem.W.keepIn K (.ref f)=true)
  (hb:∀ (kV doc pm:Value) (an:Option Addr) (cdv ct:Value) (us:List Value),us.length=ps.length→bindArgs (PySem.W.fnOf x x (Yz st) (ZK st) (Zk st) .none kV doc pm an cdv ct) ⟨us,[]⟩=pure (ps.zip us)):Df K mg x st ps :=
 have F:=Zdp (st:=st) l c k
 ⟨f,_,PySem.W.mg_of X G a,F,F.binds hb⟩
theorem Zmz {x:Str}{st:Stmt}{ps:List Str}{f:Addr}{oc:Value}{od an:Option Addr}{osl:Array (Option Value)}{kV doc pm cdv ct:Value}(X:K.In h) (G:h.Ns mainGlobals mg)
  (a:PySem.W.nsIn K mainGlobals x=some (some (.ref f))) (l:K.lookup f=some ⟨oc,od,.func (PySem.W.fnOf x x (Yz st) (ZK st) (Zk st) .none kV doc pm an cdv ct),osl⟩) (c:PySem.W.codeIn K cdv x=true) (k:PySem.W.keepIn K (.ref f)=true)
  (hb:∀ (kV doc pm:Value) (an:Option Addr) (cdv ct:Value) (us:List Value),us.length=ps.length→bindArgs (PySem.W.fnOf x x (Yz st) (ZK st) (Zk st) .none kV doc pm an cdv ct) ⟨us,[]⟩=pure (ps.zip us)) :
  ∃ f fd,mg x=some (.ref f)∧L2.Fun K x x st f fd∧∀ (s:Shared) (us:List Value),us.length=ps.length→BindsTo s fd ⟨us,[]⟩ (ps.zip us) :=
 ⟨f,_,PySem.W.mg_of X G a,Zdp (st:=st) l c k,fun _ us hl=>.of_eq (hb _ _ _ _ _ _ us hl)⟩
theorem Zkp {C:Addr}{oc:Value}{od:Option Addr}{cd:ClassData}{osl:Array (Option Value)}(l:K.lookup C=some ⟨oc,od,.cls cd,osl⟩) (e:cd.mro=[.ref C,.type "Exception",.type "BaseException",.type "object"]):Zek K C:=by
 unfold Zek
 rw [l]
 show (cd.mro==_)=true
 rw [e]
 simp
def Dm0 (K:PySem.W.Frag) (C:Addr) (m q:Str) (st:Stmt) (ps:List Str):Prop:=∃ f fd,Meth K C m f∧L2.Fun K m q st f fd∧Binds K fd ps []
theorem Dm0.dm {C:Addr}{m q:Str}{st:Stmt}{ps:List Str}(D:Dm0 K C m q st ps) (T:Cls K C):Dm K C m q st ps:=by
 obtain ⟨f,fd,a,b,c⟩:=D
 exact ⟨f,fd,T,a,b,c⟩
theorem ZnB {C:Addr}{m q:Str}{st:Stmt}{ps:List Str}{f:Addr}{oc:Value}{od an:Option Addr}{osl:Array (Option Value)}{kV doc pm cdv ct:Value}
  (a:PySem.W.findIn K (.ref C) m=some (some (.ref f))) (fn:PySem.W.isFn K (.ref f)=true) (l:K.lookup f=some ⟨oc,od,.func (PySem.W.fnOf m q (Yz st) (ZK st) (Zk st) .none kV doc pm an cdv ct),osl⟩) (c:PySem.W.codeIn K cdv q=true) (k:PySem.W.keepIn K (.ref f)=true)
  (hb:∀ (kV doc pm:Value) (an:Option Addr) (cdv ct:Value) (us:List Value),us.length=ps.length→bindArgs (PySem.W.fnOf m q (Yz st) (ZK st) (Zk st) .none kV doc pm an cdv ct) ⟨us,[]⟩=pure (ps.zip us)):Dm0 K C m q st ps :=
 have F:=Zdp (st:=st) l c k
 ⟨f,_,⟨a,fn,k⟩,F,F.binds hb⟩
theorem ZmV {x:Str}{C:Addr}{q:Str}{st:Stmt}{ps:List Str}{f:Addr}{oc:Value}{od an:Option Addr}{osl:Array (Option Value)}{kV doc pm cdv ct:Value}(g:mg x=some (.ref C)) (mk:PySem.W.makesIn K C=true)
  (a:PySem.W.findIn K (.ref C) "__init__"=some (some (.ref f))) (fn:PySem.W.isFn K (.ref f)=true) (l:K.lookup f=some ⟨oc,od,.func (PySem.W.fnOf "__init__" q (Yz st) (ZK st) (Zk st) .none kV doc pm an cdv ct),osl⟩) (c:PySem.W.codeIn K cdv q=true) (k:PySem.W.keepIn K (.ref f)=true) (kc:PySem.W.keepIn K (.ref C)=true)
  (hb:∀ (kV doc pm:Value) (an:Option Addr) (cdv ct:Value) (us:List Value),us.length=ps.length→bindArgs (PySem.W.fnOf "__init__" q (Yz st) (ZK st) (Zk st) .none kV doc pm an cdv ct) ⟨us,[]⟩=pure (ps.zip us)):Di K mg x C q st ps :=
 have F:=Zdp (st:=st) l c k
 ⟨f,_,⟨mk,a,fn,kc⟩,g,F,F.binds hb⟩
theorem ZjQ {x:Str}{v:V}{u:Value}(X:K.In h) (G:h.Ns mainGlobals mg) (a:PySem.W.nsIn K mainGlobals x=some (some u)) (r:RelV v u):Cst mg x v:=⟨u,PySem.W.mg_of X G a,r⟩
theorem exC {φ:Addr→Prop}{C:Addr}(h:φ C):∃ C,φ C:=⟨C,h⟩
theorem Zkz {zs:List V}{t:Addr}{its:Array Value}{n:Nat}(l:K.lookup t=some { cls:=.type "tuple",dict:=none,data:=.seq its n,slots:=#[] }) (s:its.size≤sizeLine) (v:Vals zs its.toList):YN K t zs:=⟨its,n,l,s,v⟩
theorem Zmw {x:Str}{zs:List V}{t:Addr}{its:Array Value}{n:Nat}(X:K.In h) (G:h.Ns mainGlobals mg) (a:PySem.W.nsIn K mainGlobals x=some (some (.ref t))) (l:K.lookup t=some { cls:=.type "tuple",dict:=none,data:=.seq its n,slots:=#[] })
  (s:its.size≤sizeLine) (v:Vals zs its.toList):∃ t,Cst mg x (.ref t)∧YN K t zs:=⟨t,⟨_,PySem.W.mg_of X G a,rfl⟩,its,n,l,s,v⟩
end
open PySem.W in
theorem ZmW (K:PySem.W.Frag) (H:Hp) (xs:List V) (a:Codec.denoteAll PySem.Challenge.rw_solidsdrawn_s01_answers.args) (hO:ZcN H) (hwi:Codec.withinAll PySem.Challenge.rw_solidsdrawn_s01_answers.args a=true) (hask:Codec.app PySem.Challenge.rw_solidsdrawn_s01_answers.args PySem.Challenge.rw_solidsdrawn_s01_answers.asked a=true) (hx:XE K H xs (Codec.encAll PySem.Challenge.rw_solidsdrawn_s01_answers.args a)) :
  Zhg K xs H (fun v H'=>Dw K H' v (PySem.Challenge.rw_solidsdrawn_s01_answers.ret.enc (Codec.app PySem.Challenge.rw_solidsdrawn_s01_answers.args PySem.Challenge.rw_solidsdrawn_s01_answers.f a))) fun _ _ _=>False:=by
 cases hx with
 | cons h1 h2 =>
  cases h2
  cases h1 with
  | lst hs ha =>
   have e:=L2.ZgC a.1 _ ha
   subst e
   exact ⟨_,a.1,rfl,hs,hask,fun H' p hp=>.lst (L2.SqL.of hp) (L2.ZgE _)⟩
end Sg
open PySem PySem.W PyProof.Rows
local macro_rules | `(tactic| walk_at "zbs") => `(tactic| (intro _ _ _ _ _ _ us hl; first | (obtain ⟨_, e⟩ := SbM.lm1 hl; subst e; exact rfl) | (obtain ⟨_, _, e⟩ := SbM.lm2 hl; subst e; exact rfl) | (obtain ⟨_, _, _, e⟩ := SbM.lm3 hl; subst e; exact rfl) | (obtain ⟨_, _, _, _, e⟩ := SbM.lm4 hl; subst e; exact rfl) | (obtain ⟨_, _, _, _, _, e⟩ := SbM.lm5 hl; subst e; exact rfl) | (obtain ⟨_, _, _, _, _, _, e⟩ := SbM.lm6 hl; subst e; exact rfl)))
local macro_rules | `(tactic| walk_at "zdf") => `(tactic| (dsimp only [L2.KOf]; refine' Sg.Znz $(Lean.mkIdent `KX) $(Lean.mkIdent `G) ?a ?l ?c ?k ?b; (case a => k_is); (case l => k_is); (case c => k_is); (case k => k_is); (case b => walk_at "zbs")))
local macro_rules | `(tactic| walk_at "zcs") => `(tactic| (refine' Sg.ZjQ $(Lean.mkIdent `KX) $(Lean.mkIdent `G) ?a ?r; (case a => k_is); (case r => exact ⟨_, rfl⟩)))
local macro_rules | `(tactic| walk_at "zno") => `(tactic| (refine' PySem.W.mg_none_of $(Lean.mkIdent `KX) $(Lean.mkIdent `G) ?a; (case a => k_is)))
local macro_rules | `(tactic| walk_at "zvs") => `(tactic| repeat (first | exact .nil | (refine .cons rfl ?_) | (refine .cons ⟨_, rfl⟩ ?_)))
local macro_rules | `(tactic| walk_at "ztu") => `(tactic| (dsimp only [L2.KOf]; refine' Sg.Zmw $(Lean.mkIdent `KX) $(Lean.mkIdent `G) ?a ?l ?s ?v; (case a => k_is); (case l => k_is); (case s => exact of_decide_eq_true rfl); (case v => walk_at "zvs")))
local macro_rules | `(tactic| walk_at "zdi") => `(tactic| (refine' Sg.ZmV (PySem.W.mg_of $(Lean.mkIdent `KX) $(Lean.mkIdent `G) ?g) ?m ?a ?fn ?l ?c ?k ?kc ?b; (case g => k_is); (case m => k_is); (case a => k_is); (case fn => k_is); (case l => k_is); (case c => k_is); (case k => k_is); (case kc => k_is); (case b => walk_at "zbs")))
local macro_rules | `(tactic| walk_at "zdm") => `(tactic| (refine' Sg.ZnB ?a ?fn ?l ?c ?k ?b; (case a => k_is); (case fn => k_is); (case l => k_is); (case c => k_is); (case k => k_is); (case b => walk_at "zbs")))
local macro_rules | `(tactic| walk_at "zna") => `(tactic| (show PySem.W.findIn _ _ _ = _; k_is))
local macro_rules | `(tactic| walk_at "zcl") => `(tactic| (refine' ⟨?a, ?b, ?c, ?d⟩; (case a => k_is); (case b => k_is); (case c => k_is); (case d => k_is)))
namespace PySem.W.Fast
def tw2116005884989215634:=0
def tw4928711755276428093:=0
def tw16352861114716604385:=0
def tw6489510741574001324:=0
def tw5172644440890009522:=0
def tw17847097800510618085:=0
def tw16736475646614837098:=0
def tw17594873601520329637:=0
def tw14213191190729490603:=0
def tw6115845129352308711:=0
def tw562893879778050958:=0
def tw3685731994993442351:=0
def tw4603936402178698751:=0
def tw14537917524398404505:=0
def tw956836024518630552:=0
def tw17655482908329204010:=0
def tw1980675602195876193:=0
def tw10646711138942122037:=0
def tw11273293746911313521:=0
def tw2202696005555614287:=0
def tw751347745126497938:=0
def tw15409181730477141604:=0
def tw12112679394664164358:=0
def tw13874562655237326411:=0
def tw69211147972706703:=0
def tw7255724080319120337:=0
def tw5378637835966586394:=0
def tw2175070410455242119:=0
def tw10560575402666031486:=0
def tw15788240831172076106:=0
def tw14514069790294400379:=0
def tw10632014884437786256:=0
def tw3554576139328770533:=0
def tw9089153826359680942:=0
def tw9198796002150868773:=0
def tw1405160240218520361:=0
def tw3053340439972794447:=0
def tw14363216837997042295:=0
def tw3890043986058600953:=0
def tw14395850372142526441:=0
def tw1466151663613088881:=0
def tw10258849804480623076:=0
def tw636372347651479208:=0
def tw2684141705761357026:=0
def tw12058342713505807982:=0
def tw2462432089653431256:=0
def tw5568280349660918687:=0
def tw3114860754935939485:=0
def tw5875918522810999530:=0
def tw3066037453243946606:=0
def tw12580657375396474759:=0
def tw5034791961790455586:=0
def tw7575118514376641039:=0
def tw9918703458357999696:=0
def tw11255786199297592426:=0
def tw1507222624018994528:=0
def tw12017128093593094231:=0
def tw532649869820004874:=0
def tw2899921079517521209:=0
def tw13534421925446915559:=0
def tw12021499836124243957:=0
def tw12014622342939442851:=0
def tw4208591400672152072:=0
def tw14673651263929032615:=0
def tw14360511730690189275:=0
def tw11876537115143270549:=0
def tw60627131178401353:=0
def tw4169758091833164275:=0
def tw14086386337319709166:=0
def tw9080410250604487271:=0
def tw17838480904264086319:=0
def tw8948120896210311993:=0
def tw5785082257660712679:=0
def tw4416729769907505804:=0
def tw13152808790059969412:=0
def tw600230689782418929:=0
def tw3454901077808243532:=0
def tw641328731042611650:=0
def tw7432661578639034149:=0
def tw6355764372164510822:=0
def tw7492084662013078631:=0
def tw11901623678916991601:=0
def tw17750001689716873845:=0
def tw8372478192560086745:=0
def tw2356419993149508613:=0
def tw10640108903756145209:=0
def tw7225551947411735165:=0
def tw18002601766946574768:=0
def tw5177437818863209961:=0
def tw10180689531545202423:=0
def tw5526359978950271956:=0
def tw1005345958310870693:=0
def tw289357245446762417:=0
def tw7150574953730855382:=0
def tw5995728785419641196:=0
def tw4291701313791152828:=0
def tw5004049975213760104:=0
def tw8846685204716083053:=0
def tw8506829790922081207:=0
def tw13688122383924538982:=0
def tw337066419438946351:=0
def tw18002301214472786828:=0
def tw10505012926144849070:=0
def tw9572762975552328909:=0
def tw6125091286927484476:=0
def tw2720839921703961734:=0
def tw6904497051918536771:=0
def tw16590841919228772769:=0
def tw137253304610333291:=0
def tw11415174658802790103:=0
def tw9573272127592190806:=0
def tw847689058315189304:=0
def tw15347492900235474788:=0
def tw13111447109462329122:=0
def tw14583971927710467718:=0
def tw17537613982561934649:=0
def tw15692327693543579246:=0
def tw9772503019534586036:=0
def tw12385472183709676160:=0
def tw3125793830134443229:=0
def tw7864015024265353146:=0
def tw17493455475242418595:=0
def tw3031715248524681557:=0
def tw11961380592013568574:=0
def tw17571014920233539197:=0
def tw5845003490644290600:=0
def tw1306956991146435422:=0
def tw5901737410813898905:=0
def tw4453047399594820583:=0
def tw12278045478372293265:=0
def tw15004954348608739861:=0
def tw15831759572595724614:=0
def tw16511211111255966020:=0
def tw4282499563830692008:=0
def tw8686126262426246282:=0
def tw17301890962200483621:=0
def tw13408354118006353873:=0
def tw17144807022036991077:=0
def tw4956376732113778737:=0
def tw9685941613751278435:=0
def tw9874142824627887424:=0
def tw3748414602622430451:=0
def tw7905764763341460693:=0
def tw10340055709998440897:=0
def tw1421711360972033816:=0
def tw16558431087381222816:=0
def tw10515020059004083950:=0
def tw14867274146947631351:=0
def tw16808935313532293833:=0
def tw8531727272737571408:=0
def tw1843050482260078864:=0
def tw17667935879135523412:=0
def tw4924131044429779114:=0
def tw6151345465799909548:=0
def tw6630005648689550165:=0
def tw222048085707885268:=0
def tw8187754155932055478:=0
def tw8619605251558023559:=0
def tw5357955488258602034:=0
def tw13448859589596378434:=0
def tw9839905104731384262:=0
def tw12670689516582593817:=0
def tw16252862916093988275:=0
def tw10241734850344572382:=0
def tw5223784568915168210:=0
def tw12294252915926108529:=0
def tw16802708438372366049:=0
def tw4182200769045003816:=0
def tw18318149893932865586:=0
def tw8086632558116081835:=0
def tw4281627663602548165:=0
def tw14379580329144334337:=0
def tw6440873398805674336:=0
def tw14084251834213226056:=0
def tw6925551008357925084:=0
def tw483231858510376819:=0
def tw14159619976217416944:=0
def tw14787895291523648394:=0
def tw7162406833090617115:=0
def tw14765693828834079037:=0
def tw15731074510770607700:=0
def tw5526068067321929233:=0
def tw12847608061315867852:=0
def tw14809672935973717862:=0
def tw10658816938079723064:=0
def tw429851282623146520:=0
def tw10897928677198554209:=0
def tw2387083459849108368:=0
def tw9157394157761666493:=0
def tw5006048318091919439:=0
def tw13561318268311085427:=0
def tw3811675921034263243:=0
def tw7985101143245253458:=0
def tw8198552219161037443:=0
def tw2928022891625860278:=0
def tw4091484495352936921:=0
def tw3548303810554949260:=0
def tw15621681963716519860:=0
def tw2190280096585390347:=0
def tw5112358153906582741:=0
def tw18337593382414092241:=0
def tw703110707437276771:=0
def tw3491688671867037014:=0
def tw3070690988326251117:=0
def tw9743083739728785211:=0
def tw13138526572317654841:=0
def tw14832386983882948942:=0
def tw4666840105451964620:=0
def tw3372680679007648750:=0
def tw4999734328182962849:=0
def tw13996210698348075862:=0
def tw14609312855205511101:=0
def tw2900492297440117175:=0
def tw156512192910574732:=0
def tw18101143438003368016:=0
def tw6654662722420102666:=0
def tw6218834877183274436:=0
def tw3226599906911920574:=0
def tw5976339338382400727:=0
def tw13831150608766581739:=0
def tw12563286094235279420:=0
def tw11683427299088330384:=0
def tw16940558691670531506:=0
def tw6307106953387518505:=0
def tw8333148959068828124:=0
def tw15771999344251603958:=0
def tw9018231339387509216:=0
def tw16171510028726964627:=0
def tw12405063540704757091:=0
def tw7400469246674816619:=0
def tw16268693705182425301:=0
def tw18243426311715104462:=0
def tw10726564743638495513:=0
def tw9873994876998022280:=0
def tw6889102625532244855:=0
def tw7090518997158852469:=0
def tw2873653332869212981:=0
def tw8854683958233395204:=0
def tw1057074495772286109:=0
def tw12464531575708678062:=0
def tw10491192885823762926:=0
def tw5651064081156379071:=0
def tw1625817556410135551:=0
def tw9255928798911071080:=0
def tw17878142083527228331:=0
def tw15227949405814916599:=0
def tw12479565752763069475:=0
def tw8601419839352400258:=0
def tw3907397849298942077:=0
def tw14608695994319003920:=0
def tw13782927450538457191:=0
def tw7950060020974686786:=0
def tw11048406346675703348:=0
def tw1382558674043352195:=0
def tw11565448353607263702:=0
def tw13631093572222700616:=0
def tw6190109252458719931:=0
def tw14597851981844665688:=0
def tw10506445003372182991:=0
def tw16209255467667380013:=0
def tw7135520953274941788:=0
def tw11265082736763253873:=0
def tw10540041850292793322:=0
def tw2930147093350209533:=0
def tw17692058637100181915:=0
def tw9620317948160998648:=0
def tw6347759128171109448:=0
def tw13612776080784153198:=0
def tw10934322945038003988:=0
def tw13039600164973457232:=0
def tw7745684987980361826:=0
def tw5836529461937209193:=0
def tw12977493773711710361:=0
def tw11053624399273768314:=0
def tw7986983007652464352:=0
def tw18292787465752149966:=0
def tw11373124434863975878:=0
def tw6569346643596567520:=0
def tw3828082269922013081:=0
def tw291866370299547811:=0
def tw282236755417479131:=0
def tw15349230795250927546:=0
def tw14728954169534564868:=0
def tw12635435443152248318:=0
def tw11497476693998502981:=0
def tw2687358156489410607:=0
def tw6537468393896159840:=0
def tw6542450395437505867:=0
def tw11213129106272382403:=0
def tw5973346836481969968:=0
def tw10445988350212950448:=0
def tw17742708217221086765:=0
def tw2943173294828685370:=0
def tw5613015714742590466:=0
def tw1298257650528009436:=0
def tw5685776010676359691:=0
def tw17561689707925430663:=0
def tw7475632212790806313:=0
def tw4104700327995447110:=0
def tw340246137914057056:=0
def tw227006223369436766:=0
def tw15417151765768742261:=0
def tw14511633998590636792:=0
def tw1403724995257617155:=0
def tw13003794355288783745:=0
def tw10375019138361615587:=0
def tw1016781400909507544:=0
def tw16386155266471922376:=0
def tw4338597145024785269:=0
def tw8002799574268638695:=0
def tw17189664847980865847:=0
def tw18401566153970025658:=0
def tw5001667935768259096:=0
def tw283596636104466560:=0
def tw18265392848812987755:=0
def tw17553052116071468413:=0
def tw14880632098854403767:=0
def tw14245778586265805927:=0
def tw11674811931597989438:=0
def tw6723972824138683138:=0
def tw5646076314992624252:=0
def tw12733749294802444272:=0
def tw940689087630503392:=0
def tw8567953640522447978:=0
def tw6207622053669019232:=0
def tw246273035609172825:=0
def tw17866140925070730463:=0
def tw15166585314233947858:=0
def tw15057885006997161881:=0
def tw14661010530792266034:=0
end PySem.W.Fast
set_option maxRecDepth 100000 in
set_option maxHeartbeats 0 in
theorem PySem.Challenge.cw_solidsdrawn_s01_answers_holds : PySem.Challenge.rw_solidsdrawn_s01_answers.Holds := by
  w_on; k_headS; (case hw => exact ⟨[.list [.int 0, .int 1, .int 1]], by decide +kernel, by decide +kernel⟩)
  k_fillS
  refine L2.Zgl (r := PySem.Challenge.rw_solidsdrawn_s01_answers) (k := 22) (CX := L2.CX0) (ps := ["calls"]) (sp := Sg.Zhg) (by decide +kernel) rfl rfl ⟨rfl, by decide, by decide⟩ (fun w h Y => PySem.W.kIn_of Y) ?F Sg.ZmW (fun _ _ _ _ z => z)
  case F =>
    intro w mg fa h Y KX G hmg
    have k_Canvas : ∃ C, mg "Canvas" = some (.ref C) ∧ Sg.Xa (L2.KOf KX) C ∧ Sg.Di (L2.KOf KX) mg "Canvas" C "Canvas.__init__" (L2.inClass (Sg.top 44) 0) ["self"] ∧ Sg.Dm0 (L2.KOf KX) C "fill" "Canvas.fill" (L2.inClass (Sg.top 44) 2) ["self", "colour", "depth"] ∧ Sg.Dm0 (L2.KOf KX) C "has_pixel" "Canvas.has_pixel" (L2.inClass (Sg.top 44) 3) ["self", "x", "y"] ∧ Sg.Dm0 (L2.KOf KX) C "place_of" "Canvas.place_of" (L2.inClass (Sg.top 44) 4) ["self", "x", "y"] ∧ Sg.Dm0 (L2.KOf KX) C "texture_at" "Canvas.texture_at" (L2.inClass (Sg.top 44) 5) ["self", "k"] ∧ Sg.Dm0 (L2.KOf KX) C "renew" "Canvas.renew" (L2.inClass (Sg.top 44) 1) ["self", "width", "height"] := by
      dsimp only [L2.KOf]
      refine' Sg.exC ⟨PySem.W.mg_of KX G ?zzgCanvas, ⟨?zzcCanvas, ?zznCanvas0, ?zznCanvas1, ?zznCanvas2, ?zznCanvas3, ?zznCanvas4, ?zznCanvas5, ?zznCanvas6, ?zznCanvas7, ?zznCanvas8⟩, ?zzdCanvas0, ?zzdCanvas1, ?zzdCanvas2, ?zzdCanvas3, ?zzdCanvas4, ?zzdCanvas5⟩
      (case zzgCanvas => k_is)
      (case zzcCanvas => walk_at "zcl")
      (case zznCanvas0 => walk_at "zna")
      (case zznCanvas1 => walk_at "zna")
      (case zznCanvas2 => walk_at "zna")
      (case zznCanvas3 => walk_at "zna")
      (case zznCanvas4 => walk_at "zna")
      (case zznCanvas5 => walk_at "zna")
      (case zznCanvas6 => walk_at "zna")
      (case zznCanvas7 => walk_at "zna")
      (case zznCanvas8 => walk_at "zna")
      (case zzdCanvas0 => walk_at "zdi")
      (case zzdCanvas1 => walk_at "zdm")
      (case zzdCanvas2 => walk_at "zdm")
      (case zzdCanvas3 => walk_at "zdm")
      (case zzdCanvas4 => walk_at "zdm")
      (case zzdCanvas5 => walk_at "zdm")
    have k_Texture : ∃ C, mg "Texture" = some (.ref C) ∧ Sg.JG (L2.KOf KX) C ∧ Sg.Di (L2.KOf KX) mg "Texture" C "Texture.__init__" (L2.inClass (Sg.top 43) 0) ["self", "log", "colours"] := by
      dsimp only [L2.KOf]
      refine' Sg.exC ⟨PySem.W.mg_of KX G ?zzgTexture, ⟨?zzcTexture, ?zznTexture0, ?zznTexture1, ?zznTexture2⟩, ?zzdTexture0⟩
      (case zzgTexture => k_is)
      (case zzcTexture => walk_at "zcl")
      (case zznTexture0 => walk_at "zna")
      (case zznTexture1 => walk_at "zna")
      (case zznTexture2 => walk_at "zna")
      (case zzdTexture0 => walk_at "zdi")
    have k_Fog : ∃ C, mg "Fog" = some (.ref C) ∧ Sg.ZkB (L2.KOf KX) C ∧ Sg.Di (L2.KOf KX) mg "Fog" C "Fog.__init__" (L2.inClass (Sg.top 71) 0) ["self", "colour", "near", "far"] := by
      dsimp only [L2.KOf]
      refine' Sg.exC ⟨PySem.W.mg_of KX G ?zzgFog, ⟨?zzcFog, ?zznFog0, ?zznFog1, ?zznFog2⟩, ?zzdFog0⟩
      (case zzgFog => k_is)
      (case zzcFog => walk_at "zcl")
      (case zznFog0 => walk_at "zna")
      (case zznFog1 => walk_at "zna")
      (case zznFog2 => walk_at "zna")
      (case zzdFog0 => walk_at "zdi")
    have k_Edge : ∃ C, mg "Edge" = some (.ref C) ∧ Sg.ZeL (L2.KOf KX) C ∧ Sg.Di (L2.KOf KX) mg "Edge" C "Edge.__init__" (L2.inClass (Sg.top 91) 0) ["self", "a", "b"] ∧ Sg.Dm0 (L2.KOf KX) C "side_at_row" "Edge.side_at_row" (L2.inClass (Sg.top 91) 1) ["self", "j"] := by
      dsimp only [L2.KOf]
      refine' Sg.exC ⟨PySem.W.mg_of KX G ?zzgEdge, ⟨?zzcEdge, ?zznEdge0, ?zznEdge1, ?zznEdge2, ?zznEdge3⟩, ?zzdEdge0, ?zzdEdge1⟩
      (case zzgEdge => k_is)
      (case zzcEdge => walk_at "zcl")
      (case zznEdge0 => walk_at "zna")
      (case zznEdge1 => walk_at "zna")
      (case zznEdge2 => walk_at "zna")
      (case zznEdge3 => walk_at "zna")
      (case zzdEdge0 => walk_at "zdi")
      (case zzdEdge1 => walk_at "zdm")
    have k_Corner : ∃ C, mg "Corner" = some (.ref C) ∧ Sg.Zbb (L2.KOf KX) C ∧ Sg.Di (L2.KOf KX) mg "Corner" C "Corner.__init__" (L2.inClass (Sg.top 98) 0) ["self", "numbers"] := by
      dsimp only [L2.KOf]
      refine' Sg.exC ⟨PySem.W.mg_of KX G ?zzgCorner, ⟨?zzcCorner, ?zznCorner0, ?zznCorner1, ?zznCorner2, ?zznCorner3, ?zznCorner4, ?zznCorner5, ?zznCorner6⟩, ?zzdCorner0⟩
      (case zzgCorner => k_is)
      (case zzcCorner => walk_at "zcl")
      (case zznCorner0 => walk_at "zna")
      (case zznCorner1 => walk_at "zna")
      (case zznCorner2 => walk_at "zna")
      (case zznCorner3 => walk_at "zna")
      (case zznCorner4 => walk_at "zna")
      (case zznCorner5 => walk_at "zna")
      (case zznCorner6 => walk_at "zna")
      (case zzdCorner0 => walk_at "zdi")
    have k_Triangle : ∃ C, mg "Triangle" = some (.ref C) ∧ Sg.QQ (L2.KOf KX) C ∧ Sg.Di (L2.KOf KX) mg "Triangle" C "Triangle.__init__" (L2.inClass (Sg.top 100) 0) ["self", "corners", "texture", "how"] := by
      dsimp only [L2.KOf]
      refine' Sg.exC ⟨PySem.W.mg_of KX G ?zzgTriangle, ⟨?zzcTriangle, ?zznTriangle0, ?zznTriangle1, ?zznTriangle2, ?zznTriangle3, ?zznTriangle4, ?zznTriangle5, ?zznTriangle6, ?zznTriangle7, ?zznTriangle8⟩, ?zzdTriangle0⟩
      (case zzgTriangle => k_is)
      (case zzcTriangle => walk_at "zcl")
      (case zznTriangle0 => walk_at "zna")
      (case zznTriangle1 => walk_at "zna")
      (case zznTriangle2 => walk_at "zna")
      (case zznTriangle3 => walk_at "zna")
      (case zznTriangle4 => walk_at "zna")
      (case zznTriangle5 => walk_at "zna")
      (case zznTriangle6 => walk_at "zna")
      (case zznTriangle7 => walk_at "zna")
      (case zznTriangle8 => walk_at "zna")
      (case zzdTriangle0 => walk_at "zdi")
    have k_exc : ∃ RF NT, mg "Refused" = some (.ref RF) ∧ LX.ExcAt (L2.KOf KX) RF ∧ mg "NoTexture" = some (.ref NT) ∧ LX.ExcAt (L2.KOf KX) NT ∧ LX.Zek (L2.KOf KX) NT ∧ RF ≠ NT := by
      dsimp only [L2.KOf]
      refine' Sg.exC (Sg.exC ⟨PySem.W.mg_of KX G ?zzxg, ?zzxe, PySem.W.mg_of KX G ?zzxg2, ?zzxe2, Sg.Zkp ?zzxb ?zzxm, ?zzxn⟩)
      (case zzxg => k_is); (case zzxg2 => k_is); (case zzxe => show PySem.W.excIn _ _ _ _ = true; k_exc); (case zzxe2 => show PySem.W.excIn _ _ _ _ = true; k_exc); (case zzxb => k_is); (case zzxm => exact rfl); (case zzxn => decide)
    have hands : ∃ t f0 f1 f2 f3 f4 f5 f6 f7 f8 f9 f10 f11 f12 f13 f14 f15, Sg.Cst mg "HANDLERS" (.ref t) ∧ Sg.YN (L2.KOf KX) t [.ref f0, .ref f1, .ref f2, .ref f3, .ref f4, .ref f5, .ref f6, .ref f7, .ref f8, .ref f9, .ref f10, .ref f11, .ref f12, .ref f13, .ref f14, .ref f15] ∧ mg "call_init" = some (.ref f0) ∧ mg "call_clear" = some (.ref f1) ∧ mg "call_texture" = some (.ref f2) ∧ mg "call_matrix" = some (.ref f3) ∧ mg "call_view" = some (.ref f4) ∧ mg "call_points" = some (.ref f5) ∧ mg "call_light" = some (.ref f6) ∧ mg "call_normals" = some (.ref f7) ∧ mg "call_fog" = some (.ref f8) ∧ mg "call_triangle" = some (.ref f9) ∧ mg "call_sprite" = some (.ref f10) ∧ mg "call_fade" = some (.ref f11) ∧ mg "call_soften" = some (.ref f12) ∧ mg "call_marks" = some (.ref f13) ∧ mg "call_read" = some (.ref f14) ∧ mg "call_depth" = some (.ref f15) := by
      dsimp only [L2.KOf]
      refine' Sg.exC (Sg.exC (Sg.exC (Sg.exC (Sg.exC (Sg.exC (Sg.exC (Sg.exC (Sg.exC (Sg.exC (Sg.exC (Sg.exC (Sg.exC (Sg.exC (Sg.exC (Sg.exC (Sg.exC (⟨Sg.ZjQ KX G ?zzha ?zzhr, Sg.Zkz ?zzhl ?zzhs ?zzhv, PySem.W.mg_of KX G ?zzh0, PySem.W.mg_of KX G ?zzh1, PySem.W.mg_of KX G ?zzh2, PySem.W.mg_of KX G ?zzh3, PySem.W.mg_of KX G ?zzh4, PySem.W.mg_of KX G ?zzh5, PySem.W.mg_of KX G ?zzh6, PySem.W.mg_of KX G ?zzh7, PySem.W.mg_of KX G ?zzh8, PySem.W.mg_of KX G ?zzh9, PySem.W.mg_of KX G ?zzh10, PySem.W.mg_of KX G ?zzh11, PySem.W.mg_of KX G ?zzh12, PySem.W.mg_of KX G ?zzh13, PySem.W.mg_of KX G ?zzh14, PySem.W.mg_of KX G ?zzh15⟩)))))))))))))))))
      (case zzha => k_is); (case zzhr => exact rfl); (case zzhl => k_is); (case zzhs => exact of_decide_eq_true rfl)
      (case zzh0 => k_is); (case zzh1 => k_is); (case zzh2 => k_is); (case zzh3 => k_is); (case zzh4 => k_is); (case zzh5 => k_is); (case zzh6 => k_is); (case zzh7 => k_is); (case zzh8 => k_is); (case zzh9 => k_is); (case zzh10 => k_is); (case zzh11 => k_is); (case zzh12 => k_is); (case zzh13 => k_is); (case zzh14 => k_is); (case zzh15 => k_is)
      (case zzhv => walk_at "zvs")
    have d_answers : ∃ f fd, mg "answers" = some (.ref f) ∧ L2.Fun (L2.KOf KX) "answers" "answers" (Sg.top 147) f fd ∧ ∀ (s : Shared) (us : List Value), us.length = (["calls"] : List Str).length → BindsTo s fd ⟨us, []⟩ ((["calls"] : List Str).zip us) := by
      dsimp only [L2.KOf]
      refine' Sg.Zmz KX G ?zzaa ?zzal ?zzac ?zzak ?zzab
      (case zzaa => k_is); (case zzal => k_is); (case zzac => k_is); (case zzak => k_is); (case zzab => walk_at "zbs")
    obtain ⟨RF, NT, m_Refused, q_Refused, m_NoTexture, q_NoTexture, bare, ne⟩ := k_exc
    obtain ⟨cCv, m_Canvas, Xa, d_Canvas_init, d_Canvas_fill, d_Canvas_has_pixel, d_Canvas_place_of, d_Canvas_texture_at, d_Canvas_renew⟩ := k_Canvas
    obtain ⟨cTx, m_Texture, JG, d_Texture_init⟩ := k_Texture
    obtain ⟨cFg, m_Fog, ZkB, d_Fog_init⟩ := k_Fog
    obtain ⟨cEg, m_Edge, ZeL, d_Edge_init, d_Edge_side_at_row⟩ := k_Edge
    obtain ⟨cCo, m_Corner, Zbb, d_Corner_init⟩ := k_Corner
    obtain ⟨cTr, m_Triangle, QQ, d_Triangle_init⟩ := k_Triangle
    have Φ : Sg.Facts (L2.KOf KX) mg RF NT cCv cTx cFg cEg cCo cTr := ⟨⟨Xa, JG, ZkB, ZeL, Zbb, QQ⟩, by walk_at "zdf", by walk_at "zdf", by walk_at "zdf", by walk_at "zdf", by walk_at "zdf", by walk_at "zdf", by walk_at "zdf", by walk_at "zdf", by walk_at "zdf", by walk_at "zdf", by walk_at "zdf", by walk_at "zdf", by walk_at "zdf", by walk_at "zdf", by walk_at "zdf", by walk_at "zdf", by walk_at "zdf", by walk_at "zdf", by walk_at "zdf", by walk_at "zdf", by walk_at "zdf", by walk_at "zdf", by walk_at "zdf", by walk_at "zdf", by walk_at "zdf", by walk_at "zdf", by walk_at "zdf", by walk_at "zdf", by walk_at "zdf", by walk_at "zdf", by walk_at "zdf", by walk_at "zdf", by walk_at "zdf", by walk_at "zdf", by walk_at "zdf", by walk_at "zdf", by walk_at "zdf", by walk_at "zdf", by walk_at "zdf", by walk_at "zdf", by walk_at "zdf", d_Canvas_fill.dm Xa.cl, d_Canvas_has_pixel.dm Xa.cl, d_Canvas_place_of.dm Xa.cl, d_Canvas_texture_at.dm Xa.cl, d_Texture_init, d_Canvas_renew.dm Xa.cl, d_Canvas_init, by walk_at "zdf", by walk_at "zdf", by walk_at "zdf", by walk_at "zdf", by walk_at "zdf", d_Fog_init, by walk_at "zdf", by walk_at "zdf", by walk_at "zdf", by walk_at "zdf", by walk_at "zdf", d_Edge_init, d_Edge_side_at_row.dm ZeL.cl, by walk_at "zdf", by walk_at "zdf", d_Corner_init, by walk_at "zdf", d_Triangle_init, by walk_at "zdf", by walk_at "zdf", by walk_at "zdf", by walk_at "zdf", by walk_at "zdf", by walk_at "zdf", by walk_at "zdf", by walk_at "zdf", by walk_at "zdf", by walk_at "zdf", by walk_at "zdf", by walk_at "zdf", by walk_at "zdf", by walk_at "zdf", by walk_at "zdf", by walk_at "zdf", by walk_at "zdf", by walk_at "zdf", by walk_at "zdf", by walk_at "zdf", by walk_at "zdf", by walk_at "zdf", by walk_at "zdf", by walk_at "zdf", by walk_at "zdf", by walk_at "zdf", by walk_at "zdf", by walk_at "zdf", by walk_at "zdf", by walk_at "zdf", by walk_at "zcs", by walk_at "zcs", by walk_at "zcs", by walk_at "zcs", by walk_at "zcs", by walk_at "zcs", by walk_at "zcs", by walk_at "zcs", by walk_at "zcs", by walk_at "zcs", by walk_at "zcs", by walk_at "zcs", by walk_at "zcs", by walk_at "zcs", by walk_at "zcs", by walk_at "zcs", by walk_at "zcs", by walk_at "zcs", by walk_at "zcs", by walk_at "zcs", by walk_at "zcs", by walk_at "zcs", by walk_at "zcs", by walk_at "zcs", by walk_at "zcs", by walk_at "zcs", by walk_at "zcs", by walk_at "zcs", by walk_at "zcs", by walk_at "zcs", by walk_at "zcs", by walk_at "zcs", by walk_at "zcs", by walk_at "ztu", by walk_at "ztu", by walk_at "ztu", by walk_at "ztu", by walk_at "ztu", by walk_at "ztu", by walk_at "ztu", by walk_at "zno", by walk_at "zno", by walk_at "zno", by walk_at "zno", by walk_at "zno", by walk_at "zno", by walk_at "zno", by walk_at "zno", by walk_at "zno", q_Refused, m_Refused, q_NoTexture, m_NoTexture, bare, ne, hands⟩
    obtain ⟨f, fd, e1, F1, B1⟩ := d_answers
    have q : some (Value.ref f) = some (Value.ref fa) := e1.symm.trans hmg
    cases q
    exact ⟨fd, B1, fun base X0 N0 => Sg.Zgz Φ F1⟩
