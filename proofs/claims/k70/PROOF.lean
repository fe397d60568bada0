import PyProof.Rows.All
import Wide.All
import OpenK.AllK
import Wide.FinOn
import Lean
import PyProof.EqAt
import PyProof.EqKinds
import PyProof.TupleCall
import PyProof.NeKinds
import PyProof.IsRules
import PyProof.CompFree
import KE.LcSums
import PyProof.FactsAll.range_1
import PyProof.SeqRoads2
import KE.KRevSl
import PyProof.ZipIter
import PyProof.TupleIter
import PyProof.FitsBits
import PyProof.NoPylong
import KE.IntBitsLaws
import PyProof.CompMap
import PyProof.AutoSeq1
import PyProof.SeqInW
import KE.KDictList
import PyProof.Rows.TupDisplay
import KE.KSortTup
import PyProof.ListMulRoad
import PyProof.Rows.SumAny
import PySem.Challenge.RW_arcmill_k70_strokes_drawn
set_option Elab.async false
set_option linter.all false
set_option bootstrap.genMatcherCode false
set_option maxRecDepth 100000
namespace L2
open PySem PySem.Spec PyProof.Rows
noncomputable abbrev Key:=Sum Int Str
noncomputable def aHA:Key->Value->Bool
 | .inl k,v=>Value.isInt k v
 | .inr x,v=>Value.isStrOf x v
noncomputable def aL3 (w:World):Key->Int
 | .inl k=>hashInt k
 | .inr x=>hashStr w x
theorem dW:∀ {k:Key} {v:Value},aHA k v = true->(∃ i t,k = Sum.inl i/\v = Value.int i t) ∨ (∃ x t,k = Sum.inr x/\v = Value.str x t)
 | .inl i,v,h=>by
  obtain ⟨t,e⟩:=Value.isInt_shape (k:=i) (v:=v) h
  exact .inl ⟨i,t,rfl,e⟩
 | .inr x,v,h=>by
  obtain ⟨t,e⟩:=Value.isStrOf_shape (x:=x) (v:=v) h
  exact .inr ⟨x,t,rfl,e⟩
theorem aIi (a b:Int):decide ((Sum.inl a:Key) = Sum.inl b) = (a == b):=by
 by_cases e:a = b
 ·subst e;simp
 ·have h:¬ (Sum.inl a:Key) = Sum.inl b:=fun q=>e (Sum.inl.inj q)
  rw [decide_eq_false h]
  exact (beq_eq_false_iff_ne.mpr e).symm
theorem aIw (a b:Str):decide ((Sum.inr a:Key) = Sum.inr b) = decide (a = b):=by
 by_cases e:a = b
 ·subst e;simp
 ·have h:¬ (Sum.inr a:Key) = Sum.inr b:=fun q=>e (Sum.inr.inj q)
  rw [decide_eq_false h,decide_eq_false e]
theorem aI2 (a:Int) (b:Str):decide ((Sum.inl a:Key) = Sum.inr b) = false:=decide_eq_false (fun q=>nomatch q)
theorem aKc (a:Str) (b:Int):decide ((Sum.inr a:Key) = Sum.inl b) = false:=decide_eq_false (fun q=>nomatch q)
noncomputable def aCr (prog:Program) (w:World):PySem.KeyKind prog w Key where
 is:=aHA
 hash:=aL3 w
 inj:=fun v a b ha hb=>by
  rcases dW ha with ⟨i,t,rfl,rfl⟩ | ⟨x,t,rfl,rfl⟩
  ·rcases dW hb with ⟨j,u,rfl,e⟩ | ⟨y,u,rfl,e⟩
   ·injection e with e1 _;rw [e1]
   ·exact nomatch e
  ·rcases dW hb with ⟨j,u,rfl,e⟩ | ⟨y,u,rfl,e⟩
   ·exact nomatch e
   ·injection e with e1 _;rw [e1]
 byValue:=fun k v h=>by
  rcases dW h with ⟨i,t,rfl,rfl⟩ | ⟨x,t,rfl,rfl⟩<;>rfl
 pyHash:=fun hv h=>by
  rcases dW hv with ⟨i,t,rfl,rfl⟩ | ⟨x,t,rfl,rfl⟩
  ·exact wpAny_pyHash_int h
  ·exact wpAny_pyHash_str h
 eqBool:=fun hu hv h=>by
  rcases dW hu with ⟨i,t,rfl,rfl⟩ | ⟨x,t,rfl,rfl⟩
  ·rcases dW hv with ⟨j,u,rfl,rfl⟩ | ⟨y,u,rfl,rfl⟩
   ·rw [aIi] at h;exact wpAny_eqBool_int h
   ·rw [aI2] at h;exact SeqAt.EqAt.int_str i t y u _ _ _ _ h
  ·rcases dW hv with ⟨j,u,rfl,rfl⟩ | ⟨y,u,rfl,rfl⟩
   ·rw [aKc] at h;exact SeqAt.EqAt.str_int x t j u _ _ _ _ h
   ·rw [aIw] at h;exact wpAny_eqBool_str h
 «strs»:=fun k x t v h=>by
  rcases dW h with ⟨i,u,rfl,e⟩ | ⟨y,u,rfl,e⟩
  ·exact nomatch e
  ·injection e with e1 _
   subst e1
   cases v<;>rfl
end L2
namespace L2
open PySem PySem.Spec PyProof.Rows
inductive V where
 | non | bl (b:Bool) | int (i:Int) | str (x:Str) | byt (b:Array UInt8) | flt (b:UInt64) | ref (a:Addr) | ty (n:String)
 deriving DecidableEq
noncomputable def bO:V->Value->Prop
 | .non,u=>u = Value.none
 | .bl b,u=>u = Value.bool b
 | .int i,u=>∃ t,u = Value.int i t
 | .str x,u=>∃ t,u = Value.str x t
 | .byt b,u=>∃ t,u = Value.bytes b t
 | .flt b,u=>∃ t,u = Value.float b t
 | .ref a,u=>u = Value.ref a
 | .ty n,u=>u = Value.type n
noncomputable abbrev bT:List V->List Value->Prop:=Paired bO
theorem bT.length {xs:List V} {us:List Value} (r:bT xs us):xs.length = us.length:=Paired.length r
theorem bT.get:∀ {xs:List V} {us:List Value} {i:Nat} {x:V},bT xs us->xs[i]? = some x->∃ u,us[i]? = some u/\bO x u
 | _,_,_,_,.nil,e=>by simp at e
 | _,_,0,_,.cons r _,e=>by simp at e;subst e;exact ⟨_,rfl,r⟩
 | _,_,i + 1,x,.cons _ t,e=>by
  obtain ⟨u,h1,h2⟩:=bT.get (i:=i) (x:=x) t (by simpa using e)
  exact ⟨u,by simpa using h1,h2⟩
theorem bT.append:∀ {xs ys:List V} {us ws:List Value},bT xs us->bT ys ws->bT (xs ++ ys) (us ++ ws)
 | _,_,_,_,.nil,s=>s
 | _,_,_,_,.cons r t,s=>.cons r (bT.append t s)
theorem bT.take:∀ {xs:List V} {us:List Value} (n:Nat),bT xs us->bT (xs.take n) (us.take n)
 | _,_,0,_=>.nil
 | _,_,_ + 1,.nil=>.nil
 | _,_,n + 1,.cons r t=>.cons r (bT.take n t)
theorem bT.drop:∀ {xs:List V} {us:List Value} (n:Nat),bT xs us->bT (xs.drop n) (us.drop n)
 | _,_,0,r=>r
 | _,_,_ + 1,.nil=>.nil
 | _,_,n + 1,.cons _ t=>bT.drop n t
noncomputable def aJI:Option V->Option Value->Prop
 | some v,some u=>bO v u
 | none,none=>True
 | _,_=>False
noncomputable def KV {κ:Type}:List (κ × V)->List (κ × Value)->Prop:=Paired fun (p:κ × V) (q:κ × Value)=>p.1 = q.1/\bO p.2 q.2
noncomputable def kV:Key->V
 | .inl i=>.int i
 | .inr x=>.str x
inductive HO where
  | lst (xs:List V)
  | tup (xs:List V)
  | dK (kvs:List (Key × V)) | dT (kvs:List (List Key × V))
  | set (S:Int->Bool) (n:Nat)
  | ins (C dx:Addr) (fs:List (Str × V))
  | own (x:Addr)
  | xd (fs:List (Str × V))
  | met (f x:Addr)
  | rng (lo hi:Int)
  | frz (o:Obj) (u:HO)
  | tbl (ps:Array Value)
  | ext (φ:Heap->Prop)
noncomputable abbrev Hp:=Addr->Option HO
noncomputable def upd (H:Hp) (a:Addr) (o:HO):Hp:=fun b=>if b = a then some o else H b
theorem dF {H:Hp} {a:Addr} {o:HO}:upd H a o a = some o:=by unfold upd;rw [if_pos rfl]
theorem bG {H:Hp} {a b:Addr} {o:HO} (h:b ≠ a):upd H a o b = H b:=by unfold upd;rw [if_neg h]
theorem zC {H:Hp} {a b:Addr} {o u:HO} (h:H a = some o) (h':H b = some u) (d:o ≠ u):a ≠ b:=by
 intro e;subst e;rw [h] at h';exact d (Option.some.inj h')
theorem bL {H:Hp} {a b:Addr} {o:HO} (h:H a = some o) (h':H b = none):a ≠ b:=by
 intro e;subst e;rw [h] at h';cases h'
section
variable (P:Program) (w:World)
noncomputable def eN (H:Hp) (h:Heap) (a:Addr):HO->Prop
 | .lst xs=>xs.length<=sizeLine/\∃ (its:List Value) (n:Nat),bT xs its/\h.get? a = some { cls:=.type "list",data:=.seq its.toArray n }
 | .tup xs=>xs.length<=sizeLine/\∃ its:List Value,bT xs its/\IsTup h a its.toArray
 | .dK kvs=>kvs.length<=sizeLine/\(a == sysModules) = false/\∃ vs,KV kvs vs/\h.DictOf (aCr P w) a vs
 | .dT kvs=>kvs.length<=sizeLine/\(a == sysModules) = false/\∃ xs:List (List Key × Addr × Value),
   Paired (fun (p:List Key × V) (q:List Key × Addr × Value)=>p.1 = q.1/\H q.2.1 = some (.tup (p.1.map kV))/\bO p.2 q.2.2) kvs xs /\
   ∃ o es ep,h.get? a = some o/\o.ExactDict/\o.data = .dict es ep/\es.toList = xs.map (entryOfKey (tupleKind (aCr P w)))/\(xs.map (·.1)).Nodup
 | .set S n=>h.SetOf (intKind P w) a S n
 | .ins C dx fs=>H dx = some (.own a)/\fs.length<=1000/\dx ≠ a/\h.get? a = some (PySem.W.instObj C dx) /\
   ∃ mA,h.Ns1 dx mA/\(∀ f,aJI (fs.lookup f) (mA f))/\PySem.Within mA (fs.map (·.1))
 | .own _=>∃ o,h.get? a = some o
 | .xd fs=>∃ mA,h.Ns1 a mA/\∀ f,aJI (fs.lookup f) (mA f)
 | .rng lo hi=>∃ t u v,h.get? a = some { cls:=.type "range",data:=.fields #[.int lo t,.int hi u,.int 1 v] }
 | .frz o u=>h.get? a = some o/\eN H h a u
 | .tbl ps=>h.get? a = some { cls:=.none,data:=.fields ps }
 | .met f x=>h.get? a = some (PySem.W.methodObj (.ref f) (.ref x))
 | .ext φ=>φ h/\(∃ o,h.get? a = some o)/\∀ h1 h2:Heap,φ h1->(∀ o,h1.get? a = some o->h2.get? a = some o)->φ h2
noncomputable def HOk (H:Hp) (h:Heap):Prop:=∀ a o,H a = some o->eN P w H h a o
end
section
variable {P:Program} {w:World} {H H':Hp} {h h':Heap} {a:Addr} {o:HO}
theorem eN.lt (x:eN P w H h a o):a < h.objs.size:=by
 cases o with
 | lst xs=>obtain ⟨_,_,_,_,e⟩:=x;exact Heap.lt_size e
 | tup xs=>obtain ⟨_,_,_,p⟩:=x;exact p.lt
 | dK kvs=>obtain ⟨_,_,_,_,o,_,_,e,_⟩:=x;exact Heap.lt_size e
 | dT kvs=>obtain ⟨_,_,_,_,o,_,_,e,_⟩:=x;exact Heap.lt_size e
 | set S n=>obtain ⟨o,_,_,_,e,_⟩:=x;exact Heap.lt_size e
 | ins C dx fs=>obtain ⟨_,_,_,e,_⟩:=x;exact Heap.lt_size e
 | own y=>obtain ⟨_,e⟩:=x;exact Heap.lt_size e
 | xd fs=>obtain ⟨_,⟨_,_,_,e,_⟩,_⟩:=x;exact Heap.lt_size e
 | rng lo hi=>obtain ⟨_,_,_,e⟩:=x;exact Heap.lt_size e
 | frz ob u=>obtain ⟨e,_⟩:=x;exact Heap.lt_size e
 | tbl ps=>exact Heap.lt_size (show h.get? a = some _ from x)
 | met f y=>exact Heap.lt_size (show h.get? a = some _ from x)
 | ext φ=>obtain ⟨_,⟨_,e⟩,_⟩:=x;exact Heap.lt_size e
theorem Paired.mapP {α β:Type} {F G:α->β->Prop}:∀ {l₁:List α} {l₂:List β},Paired F l₁ l₂->(∀ a b,F a b->G a b)->Paired G l₁ l₂
 | _,_,.nil,_=>.nil
 | _,_,.cons r t,f=>.cons (f _ _ r) (Paired.mapP t f)
theorem eN.stay (x:eN P w H h a o) (k:∀ b u,(b = a ∨ H b = some (.own a))->h.get? b = some u->h'.get? b = some u)
  (ho:∀ b,H b = some (.own a)->H' b = some (.own a)) (ht:∀ b xs,H b = some (.tup xs)->H' b = some (.tup xs)):eN P w H' h' a o:=by
 induction o with
 | lst xs=>obtain ⟨z,its,n,r,e⟩:=x;exact ⟨z,its,n,r,k _ _ (.inl rfl) e⟩
 | tup xs=>obtain ⟨z,its,r,ob,e,c⟩:=x;exact ⟨z,its,r,ob,k _ _ (.inl rfl) e,c⟩
 | dK kvs=>obtain ⟨z,y,vs,r,ob,es,ep,e,c⟩:=x;exact ⟨z,y,vs,r,ob,es,ep,k _ _ (.inl rfl) e,c⟩
 | dT kvs =>
  obtain ⟨z,y,xs,r,ob,es,ep,e,c⟩:=x
  exact ⟨z,y,xs,Paired.mapP r fun p q z=>⟨z.1,ht _ _ z.2.1,z.2.2⟩,ob,es,ep,k _ _ (.inl rfl) e,c⟩
 | set S n=>obtain ⟨ob,es,ep,t,e,c⟩:=x;exact ⟨ob,es,ep,t,k _ _ (.inl rfl) e,c⟩
 | ins C dx fs =>
  obtain ⟨d,z,ne,e,mA,⟨od,es,ep,e2,c⟩,r⟩:=x
  exact ⟨ho _ d,z,ne,k _ _ (.inl rfl) e,mA,⟨od,es,ep,k _ _ (.inr d) e2,c⟩,r⟩
 | own y=>obtain ⟨ob,e⟩:=x;exact ⟨ob,k _ _ (.inl rfl) e⟩
 | xd fs=>obtain ⟨mA,⟨od,es,ep,e,c⟩,r⟩:=x;exact ⟨mA,⟨od,es,ep,k _ _ (.inl rfl) e,c⟩,r⟩
 | rng lo hi=>obtain ⟨t,u,v,e⟩:=x;exact ⟨t,u,v,k _ _ (.inl rfl) e⟩
 | frz ob u ih=>obtain ⟨e,q⟩:=x;exact ⟨k _ _ (.inl rfl) e,ih q⟩
 | tbl ps =>
  have e:h.get? a = some { cls:=.none,data:=.fields ps }:=x
  show h'.get? a = some { cls:=.none,data:=.fields ps }
  exact k a _ (.inl rfl) e
 | met f y =>
  have e:h.get? a = some (PySem.W.methodObj (.ref f) (.ref y)):=x
  show h'.get? a = some (PySem.W.methodObj (.ref f) (.ref y))
  exact k a _ (.inl rfl) e
 | ext φ=>obtain ⟨p,⟨o,e⟩,st⟩:=x;exact ⟨st _ _ p fun o q=>k _ _ (.inl rfl) q,⟨o,k _ _ (.inl rfl) e⟩,st⟩
theorem HOk.lt (x:HOk P w H h) (e:H a = some o):a < h.objs.size:=(x a o e).lt
theorem HOk.fresh (x:HOk P w H h) (e:h.objs.size<=a):H a = none:=by
 cases q:H a with
 | none=>rfl
 | some u=>exact absurd (Nat.lt_of_lt_of_le (x.lt q) e) (Nat.lt_irrefl _)
theorem HOk.kept (x:HOk P w H h) (k:∀ b u,h.get? b = some u->h'.get? b = some u):HOk P w H h':=fun a o e =>
 (x a o e).stay (fun b u _ q=>k b u q) (fun _ q=>q) fun _ _ q=>q
theorem HOk.laid (x:HOk P w H h) (k:∀ b u,h.get? b = some u->h'.get? b = some u) (hp:h.objs.size<=a) (new:eN P w (upd H a o) h' a o):HOk P w (upd H a o) h':=fun b u e=>by
 have hn:=x.fresh hp
 by_cases hb:b = a
 ·subst hb;rw [dF] at e;cases e;exact new
 ·rw [bG hb] at e
  exact (x b u e).stay (fun c v _ q=>k c v q) (fun c q=>by rw [bG (bL q hn)];exact q) fun c xs q=>by rw [bG (bL q hn)];exact q
end
noncomputable def Rd (H:Hp) (a:Addr) (u:HO):Prop:=H a = some u ∨ ∃ o,H a = some (.frz o u)
theorem Rd.ok {P:Program} {w:World} {H:Hp} {h:Heap} {a:Addr} {u:HO} (r:Rd H a u) (x:HOk P w H h):eN P w H h a u:=by
 rcases r with r | ⟨o,r⟩
 ·exact x a u r
 ·obtain ⟨_,q⟩:=x a _ r
  exact q
noncomputable def Mut:Option HO->Prop
 | some (.lst _)=>True
 | some (.dK _)=>True
 | some (.dT _)=>True
 | some (.set _ _)=>True
 | some (.ins _ _ _)=>True
 | some (.ext _)=>True
 | _=>False
section
variable {P:Program} {w:World} {H:Hp} {h h':Heap} {x e:Addr} {o':HO}
theorem HOk.write (ok:HOk P w H h) (mu:Mut (H x)) (he:e = x ∨ H e = some (.own x)) (k:∀ b u,b ≠ e->h.get? b = some u->h'.get? b = some u) (heo:∃ u,h'.get? e = some u)
  (new:eN P w (upd H x o') h' x o'):HOk P w (upd H x o') h':=fun b u q=>by
 have nown:∀ c y,H c = some (.own y)->c ≠ x:=fun c y r z=>by subst z;rw [r] at mu;exact mu
 have ntup:∀ c xs,H c = some (.tup xs)->c ≠ x:=fun c xs r z=>by subst z;rw [r] at mu;exact mu
 by_cases hb:b = x
 ·subst hb;rw [dF] at q;cases q;exact new
 ·rw [bG hb] at q
  by_cases hbe:b = e
  ·have q':H b = some (.own x):=by
    rcases he with z | z
    ·exact absurd (hbe.trans z) hb
    ·rw [hbe];exact z
   rw [q] at q';cases q'
   obtain ⟨v,hv⟩:=heo
   exact ⟨v,by rw [hbe];exact hv⟩
  ·refine (ok b u q).stay (fun c v hc r=>k c v ?_ r) (fun c r=>by rw [bG (nown c b r)];exact r) fun c xs r=>by rw [bG (ntup c xs r)];exact r
   rcases hc with rfl | hc
   ·exact hbe
   ·rintro rfl
    rcases he with z | z
    ·exact nown c b hc z
    ·rw [hc] at z;cases z;exact hb rfl
end
structure Un (fs ex:List Addr) (H H':Hp) (h h':Heap):Prop where
 keep:∀ b o,h.get? b = some o->H b = none->b ∉ fs->b ∉ ex->h'.get? b = some o
 slot:∀ b o,h.get? b = some o->H b = none->b ∈ fs->b ∉ ex->∃ sl,h'.get? b = some { o with slots:=sl }
 free:∀ b o,h.get? b = some o->H b = none->b ∉ ex->H' b = none
 there:∀ b o,h.get? b = some o->b ∉ ex->∃ o',h'.get? b = some o'
 tups:∀ b xs,H b = some (.tup xs)->H' b = some (.tup xs)
 frzs:∀ b o u,H b = some (.frz o u)->H' b = some (.frz o u)
 tbls:∀ b ps,H b = some (.tbl ps)->∃ more,H' b = some (.tbl (ps ++ more))
section
variable {fs fs' ex ex':List Addr} {H H1 H2:Hp} {h h1 h2 h':Heap} {a x e:Addr} {o:HO}
theorem Un.any (u:Un fs ex H H1 h h1) {b:Addr} {ob:Obj} (q:h.get? b = some ob) (n:H b = none) (hx:b ∉ ex):∃ sl,h1.get? b = some { ob with slots:=sl }:=by
 by_cases hb:b ∈ fs
 ·exact u.slot b ob q n hb hx
 ·exact ⟨ob.slots,u.keep b ob q n hb hx⟩
theorem Un.trans (a:Un fs ex H H1 h h1) (b:Un fs ex H1 H2 h1 h2):Un fs ex H H2 h h2 where
 keep:=fun c ob q n hc hx=>b.keep c ob (a.keep c ob q n hc hx) (a.free c ob q n hx) hc hx
 slot:=fun c ob q n hc hx=>by
  obtain ⟨sl,e1⟩:=a.slot c ob q n hc hx
  obtain ⟨sl',e2⟩:=b.slot c _ e1 (a.free c ob q n hx) hc hx
  exact ⟨sl',e2⟩
 free:=fun c ob q n hx=>by
  obtain ⟨o',e1⟩:=a.there c ob q hx
  exact b.free c o' e1 (a.free c ob q n hx) hx
 there:=fun c ob q hx=>by
  obtain ⟨o',e1⟩:=a.there c ob q hx
  exact b.there c o' e1 hx
 tups:=fun c xs q=>b.tups c xs (a.tups c xs q)
 frzs:=fun c ob xs q=>b.frzs c ob xs (a.frzs c ob xs q)
 tbls:=fun c ps q=>by
  obtain ⟨m1,e1⟩:=a.tbls c ps q
  obtain ⟨m2,e2⟩:=b.tbls c _ e1
  exact ⟨m1 ++ m2,by rw [e2,Array.append_assoc]⟩
theorem Un.kept (k:∀ b u,h.get? b = some u->h'.get? b = some u):Un fs ex H H h h' :=
 ⟨fun b ob q _ _ _=>k b ob q,fun b ob q _ _ _=>⟨ob.slots,k b ob q⟩,fun _ _ _ n _=>n,fun b ob q _=>⟨ob,k b ob q⟩,fun _ _ q=>q,fun _ _ _ q=>q,fun _ ps q=>⟨#[],by rw [q];simp⟩⟩
theorem Un.refl:Un fs ex H H h h:=Un.kept fun _ _ q=>q
theorem Un.laid (k:∀ b u,h.get? b = some u->h'.get? b = some u) (hp:h.objs.size<=a) (hn:H a = none):Un fs ex H (upd H a o) h h' where
 keep:=fun b u q _ _ _=>k b u q
 slot:=fun b u q _ _ _=>⟨u.slots,k b u q⟩
 free:=fun b u q n _=>by rw [bG (Nat.ne_of_lt (Nat.lt_of_lt_of_le (Heap.lt_size q) hp))];exact n
 there:=fun b u q _=>⟨u,k b u q⟩
 tups:=fun b xs q=>by rw [bG (bL q hn)];exact q
 frzs:=fun b u xs q=>by rw [bG (bL q hn)];exact q
 tbls:=fun b ps q=>⟨#[],by rw [bG (bL q hn),q];simp⟩
theorem Un.write (mu:Mut (H x)) (he:e = x ∨ H e = some (.own x)) (k:∀ b u,b ≠ e->h.get? b = some u->h'.get? b = some u) (heo:∃ u,h'.get? e = some u):Un fs ex H (upd H x o) h h':=by
 have hx:∀ b,H b = none->b ≠ x:=fun b n z=>by subst z;rw [n] at mu;exact mu
 have hb:∀ b,H b = none->b ≠ e:=fun b n z=>by
  subst z
  rcases he with r | r
  ·exact hx b n r
  ·rw [n] at r;cases r
 have hm:∀ b u,H b = some u->¬ Mut (some u)->b ≠ x:=fun b u q nm z=>by subst z;rw [q] at mu;exact nm mu
 refine ⟨fun b u q n _ _=>k b u (hb b n) q,fun b u q n _ _=>⟨u.slots,k b u (hb b n) q⟩,fun b u q n _=>by rw [bG (hx b n)];exact n,fun b u q _=>?_,
  fun b xs q=>by rw [bG (hm b _ q fun z=>z)];exact q,fun b u xs q=>by rw [bG (hm b _ q fun z=>z)];exact q,fun b ps q=>⟨#[],by rw [bG (hm b _ q fun z=>z),q];simp⟩⟩
 by_cases hbe:b = e
 ·subst hbe;exact heo
 ·exact ⟨u,k b u hbe q⟩
end
noncomputable def trk (h:Heap) (H:Hp):List Addr:=(List.range h.objs.size).filter fun a=>(H a).isSome
noncomputable def zS (h:Heap) (H:Hp):Heap:=PySem.W.hideAll h (trk h H)
theorem aDx (h:Heap) (H:Hp):(zS h H).objs.size = h.objs.size:=PySem.W.hideAll_size _ _
theorem aEg {h:Heap} {H:Hp} {b:Addr} {o:Obj} (e:h.get? b = some o) (n:H b = none):(zS h H).get? b = some o :=
 PySem.W.hideAll_get _ e fun hm=>by
  have q:(H b).isSome = true:=(List.mem_filter.mp hm).2
  rw [n] at q;simp at q
theorem aFU {h:Heap} {H:Hp} {b:Addr} {o:Obj} (e:(zS h H).get? b = some o):h.get? b = some o/\H b = none:=by
 have e':h.get? b = some o:=PySem.W.of_hideAll (trk h H) e
 refine ⟨e',?_⟩
 cases q:H b with
 | none=>rfl
 | some x =>
  have hm:b ∈ trk h H:=List.mem_filter.mpr ⟨List.mem_range.mpr (Heap.lt_size e'),by simp [q]⟩
  have z:(zS h H).get? b = none:=PySem.W.hideAll_none (trk h H) hm
  rw [z] at e;cases e
noncomputable def aHn (g h:Heap) (L:Addr):List (Addr × Obj):=(List.range h.objs.size).filterMap fun a=>if a = L ∨ (g.get? a).isSome = true then none else (h.get? a).map fun o=>(a,o)
noncomputable def cJ (g h:Heap) (L d:Addr):List (Addr × Obj):=(aHn g h L).filter fun p=>decide (p.1 ≠ d)
end L2
namespace L2
open PySem PySem.Spec PyProof.Rows
structure Mod (K:PySem.W.Frag) (mg:Str->Option Value) (base:Heap):Prop where
 kin:K.In base
 glob:base.Ns mainGlobals mg
 blt:∃ mb,base.Ns builtinsNs mb/\∀ x:Str,x ≠ "__name__"->mb x = bootBuiltins x
 nolimit:base.NoLimit
structure Cx where
 prog:Program
 w:World
 K:PySem.W.Frag
 mg:Str->Option Value
 base:Heap
 A:Around
 N:List Str
 s₀:Shared
 H₀:Hp
 env:Env
 outer:List Env
 stack:List Env
 ex:List Addr
 fn:Str->Bool
 calm:Bool
 pn:List (Addr × Obj)
 xe:Value->Shared->Prop
noncomputable def frs (l:List Env):List Addr:=l.filterMap (·.frame)
noncomputable abbrev Cx.fs (X:Cx):List Addr:=frs X.outer
noncomputable def Vis (sc:Scope) (x:Str):Prop:=sc.names.lookup x = some .local ∨ sc.names.lookup x = some .cell ∨ sc.names.lookup x = some .free
noncomputable def Loc (sc:Scope) (x:Str):Prop:=sc.names.lookup x = some .local ∨ sc.names.lookup x = some .cell
noncomputable def aKJ (env:Env) (h:Heap) (m:Str->Option Value) (x:Str) (u:Value):Prop :=
 (env.kindOf x = some .local/\m x = some u) ∨ ((env.kindOf x = some .cell ∨ env.kindOf x = some .free)/\∃ c,env.cells.lookup x = some c/\h.IsCell c (some u))
structure Cx.Ok (X:Cx):Prop where
 mod:Mod X.K X.mg X.base
 kind:X.env.scope.kind = .function
 glob:X.env.globals = mainGlobals
 blt:X.env.builtins = builtinsNs
 above:X.s₀.heap.objs.size<=X.env.locals
 inj:∀ x y c,X.env.cells.lookup x = some c->X.env.cells.lookup y = some c->x = y
 has:∀ x,(X.env.kindOf x = some .cell ∨ X.env.kindOf x = some .free)->∃ c,X.env.cells.lookup x = some c
 cab:∀ x c,X.fn x = true->X.env.cells.lookup x = some c->X.s₀.heap.objs.size<=c
 hd:X.calm = true->X.A.handled = none
 frames:X.A.frames = some X.stack
 stk:X.stack = X.outer ∨ (X.stack = X.env :: X.outer/\X.env.frame = some X.env.locals)
 exf:∀ b ∈ X.ex,b ≠ X.env.locals/\∀ x c,X.env.cells.lookup x = some c->c ≠ b
 bs:∀ b o,X.base.get? b = some o->X.s₀.heap.get? b = some o/\X.H₀ b = none
 bsz:X.base.objs.size<=X.s₀.heap.objs.size
 noex:∀ b o,X.base.get? b = some o->b ∉ X.ex
 exfs:∀ b ∈ X.ex,b ∉ X.fs
 funs:X.s₀.heap.FunFrames X.base X.outer
 frf:∀ b ∈ X.fs,X.H₀ b = none
structure Inv (X:Cx) (pins:List (Addr × Obj)) (σ:List (Option V)) (H:Hp) (s:Shared):Prop where
 ok:X.Ok
 os:s.os = X.s₀.os
 bare:AllBare s.gens
 base:Un X.fs X.ex X.H₀ H X.s₀.heap s.heap
 loc:∃ m,s.heap.Ns X.env.locals m/\∀ (i:Nat) (x:Str) (v:V),X.N[i]? = some x->σ[i]? = some (some v)->Vis X.env.scope x->∃ u,bO v u/\aKJ X.env s.heap m x u
 cell:∀ x c,X.env.cells.lookup x = some c->∃ v,s.heap.IsCell c v
 free:H X.env.locals = none
 freeC:∀ x c,X.env.cells.lookup x = some c->H c = none
 pin:∀ p ∈ X.pn ++ pins,s.heap.get? p.1 = some p.2/\H p.1 = none/\p.1 ≠ X.env.locals/\p.1 ∉ X.fs/\∀ v,p.2.data ≠ .cell v
 hok:HOk X.prog X.w H s.heap
 len:σ.length = X.N.length
section
variable {X:Cx} {pins:List (Addr × Obj)} {σ:List (Option V)} {H H':Hp} {s:Shared} {h':Heap}
theorem Cx.Ok.nofr (ok:X.Ok) {b:Addr} {o:Obj} (e:X.base.get? b = some o):b ∉ X.fs:=fun hb=>by
 have:=(ok.funs.mem hb).1
 rw [e] at this;cases this
theorem Inv.bs (I:Inv X pins σ H s):∀ b o,X.base.get? b = some o->s.heap.get? b = some o/\H b = none:=fun b o e =>
 ⟨I.base.keep b o (I.ok.bs b o e).1 (I.ok.bs b o e).2 (I.ok.nofr e) (I.ok.noex b o e),I.base.free b o (I.ok.bs b o e).1 (I.ok.bs b o e).2 (I.ok.noex b o e)⟩
theorem Inv.bk (I:Inv X pins σ H s):∀ b o,X.base.get? b = some o->s.heap.get? b = some o:=fun b o e=>(I.bs b o e).1
theorem Inv.mod (I:Inv X pins σ H s):Mod X.K X.mg X.base:=I.ok.mod
theorem Inv.kIn (I:Inv X pins σ H s):X.K.In s.heap:=I.ok.mod.kin.keeps I.bk
theorem Inv.lt (I:Inv X pins σ H s):X.env.locals < s.heap.objs.size:=let ⟨_,hn,_⟩:=I.loc;hn.lt
theorem Inv.sz (I:Inv X pins σ H s):X.s₀.heap.objs.size<=s.heap.objs.size:=Nat.le_trans I.ok.above (Nat.le_of_lt I.lt)
theorem Inv.nofs (I:Inv X pins σ H s) {a:Addr} (h:s.heap.objs.size<=a):a ∉ X.fs:=fun hb=>by
 obtain ⟨_,o,ho,_⟩:=I.ok.funs.mem hb
 exact absurd (Nat.lt_of_lt_of_le (Heap.lt_size ho) (Nat.le_trans I.sz h)) (Nat.lt_irrefl _)
theorem Inv.cne (I:Inv X pins σ H s):∀ x c,X.env.cells.lookup x = some c->c ≠ X.env.locals:=fun x c e z=>by
 obtain ⟨v,o,ho,hd⟩:=I.cell x c e
 obtain ⟨m,⟨o',es,ep,ho',hd',_⟩,_⟩:=I.loc
 rw [z,ho'] at ho;cases ho;rw [hd'] at hd;cases hd
theorem Inv.funs (I:Inv X pins σ H s):s.heap.FunFrames X.base X.outer:=by
 have all:∀ (l:List Env),(∀ b ∈ frs l,b ∈ X.fs)->X.s₀.heap.FunFrames X.base l->s.heap.FunFrames X.base l:=by
  intro l
  induction l with
  | nil=>intro _ _;trivial
  | cons env r ih =>
   intro hs hl
   obtain ⟨hk,⟨L,o,hf,hn,ho,hd⟩,hr⟩:=hl
   have hL:L ∈ X.fs:=hs L (by unfold frs;rw [List.filterMap_cons,hf];exact List.mem_cons_self)
   obtain ⟨sl,e⟩:=I.base.slot L o ho (I.ok.frf L hL) hL fun z=>I.ok.exfs L z hL
   exact ⟨hk,⟨L,_,hf,hn,e,hd⟩,ih (fun b hb=>hs b (by unfold frs;rw [List.filterMap_cons,hf];exact List.mem_cons_of_mem _ hb)) hr⟩
 exact all X.outer (fun _ hb=>hb) I.ok.funs
theorem Inv.stack (I:Inv X pins σ H s):s.heap.FunFrames X.base X.stack:=by
 rcases I.ok.stk with e | ⟨e,hf⟩
 ·rw [e];exact I.funs
 ·rw [e]
  obtain ⟨m,hn,_⟩:=I.loc
  refine .cons (by rw [I.ok.kind];decide) hf hn ?_ I.funs
  exact Heap.get?_none_of_le (Nat.le_trans I.ok.bsz I.ok.above)
theorem Inv.stkSub (I:Inv X pins σ H s):∀ b ∈ frs X.stack,b ∈ X.env.locals :: X.fs:=fun b hb=>by
 rcases I.ok.stk with e | ⟨e,hf⟩
 ·rw [e] at hb;exact List.mem_cons_of_mem _ hb
 ·rw [e] at hb
  unfold frs at hb
  rw [List.filterMap_cons,hf] at hb
  exact hb
theorem Inv.stkFree (I:Inv X pins σ H s):∀ b ∈ frs X.stack,H b = none:=fun b hb=>by
 rcases List.mem_cons.mp (I.stkSub b hb) with e | hb
 ·rw [e];exact I.free
 ·obtain ⟨_,o,ho,_⟩:=I.ok.funs.mem hb
  exact I.base.free b o ho (I.ok.frf b hb) fun z=>I.ok.exfs b z hb
theorem Inv.step {g':Array GenState} {t':Nat} {d':Drawn} {ch:List Addr} (I:Inv X pins σ H s)
  (hch:∀ b ∈ ch,(b ∈ X.ex ∨ X.s₀.heap.objs.size<=b)/\b ≠ X.env.locals/\(∀ x c,X.env.cells.lookup x = some c->c ≠ b)/\∀ p ∈ X.pn ++ pins,p.1 ≠ b)
  (keep:∀ b o,b ≠ X.env.locals->b ∉ X.fs->b ∉ ch->s.heap.get? b = some o->H b = none->h'.get? b = some o)
  (slot:∀ b o,b ≠ X.env.locals->b ∈ X.fs->b ∉ ch->s.heap.get? b = some o->H b = none->∃ sl,h'.get? b = some { o with slots:=sl }) (free:∀ b o,b ∉ ch->s.heap.get? b = some o->H b = none->H' b = none)
  (there:∀ b o,b ∉ ch->s.heap.get? b = some o->∃ o',h'.get? b = some o')
  (tups:∀ b xs,H b = some (.tup xs)->H' b = some (.tup xs)) (frzs:∀ b o u,H b = some (.frz o u)->H' b = some (.frz o u)) (tbls:∀ b ps,H b = some (.tbl ps)->∃ more,H' b = some (.tbl (ps ++ more)))
  (ns:∀ m,s.heap.Ns X.env.locals m->h'.Ns X.env.locals m) (hok:HOk X.prog X.w H' h') (hg:AllBare g') :
  Inv X pins σ H' { s with heap:=h',gens:=g',drawn:=d',toks:=t' }:=by
 have neL:∀ b o,X.s₀.heap.get? b = some o->b ≠ X.env.locals:=fun b o e=>Nat.ne_of_lt (Nat.lt_of_lt_of_le (Heap.lt_size e) I.ok.above)
 have neC:∀ b o,X.s₀.heap.get? b = some o->b ∉ X.ex->b ∉ ch:=fun b o e hx hb=>by
  rcases (hch b hb).1 with z | z
  ·exact hx z
  ·exact absurd (Nat.lt_of_lt_of_le (Heap.lt_size e) z) (Nat.lt_irrefl _)
 have cellK:∀ x c,X.env.cells.lookup x = some c->∀ v,s.heap.IsCell c v->h'.IsCell c v:=fun x c e v ⟨o,ho,hd⟩=>by
  have nch:c ∉ ch:=fun z=>(hch c z).2.2.1 x c e rfl
  by_cases hc:c ∈ X.fs
  ·obtain ⟨sl,q⟩:=slot c o (I.cne x c e) hc nch ho (I.freeC x c e)
   exact ⟨_,q,hd⟩
  ·exact ⟨o,keep c o (I.cne x c e) hc nch ho (I.freeC x c e),hd⟩
 refine ⟨I.ok,I.os,hg,⟨fun b o e n hb hx=>?_,fun b o e n hb hx=>?_,fun b o e n hx=>?_,fun b o e hx=>?_,fun b xs e=>tups b xs (I.base.tups b xs e),fun b o xs e=>frzs b o xs (I.base.frzs b o xs e),fun b ps e=>?_⟩,?_,fun x c e=>?_,?_,fun x c e=>?_,fun p hp=>?_,hok,I.len⟩
 ·exact keep b o (neL b o e) hb (neC b o e hx) (I.base.keep b o e n hb hx) (I.base.free b o e n hx)
 ·obtain ⟨sl,e1⟩:=I.base.slot b o e n hb hx
  obtain ⟨sl',e2⟩:=slot b _ (neL b o e) hb (neC b o e hx) e1 (I.base.free b o e n hx)
  exact ⟨sl',e2⟩
 ·obtain ⟨o',e1⟩:=I.base.there b o e hx
  exact free b o' (neC b o e hx) e1 (I.base.free b o e n hx)
 ·obtain ⟨o',e1⟩:=I.base.there b o e hx
  exact there b o' (neC b o e hx) e1
 ·obtain ⟨m1,e1⟩:=I.base.tbls b ps e
  obtain ⟨m2,e2⟩:=tbls b _ e1
  exact ⟨m1 ++ m2,by rw [e2,Array.append_assoc]⟩
 ·obtain ⟨m,hn,hl⟩:=I.loc
  refine ⟨m,ns m hn,fun i x v e1 e2 e3=>?_⟩
  obtain ⟨u,r,l⟩:=hl i x v e1 e2 e3
  refine ⟨u,r,?_⟩
  rcases l with l | ⟨k,c,e,z⟩
  ·exact .inl l
  ·exact .inr ⟨k,c,e,cellK x c e _ z⟩
 ·obtain ⟨v,z⟩:=I.cell x c e
  exact ⟨v,cellK x c e v z⟩
 ·obtain ⟨m,⟨o,_,_,ho,_⟩,_⟩:=I.loc
  exact free _ o (fun z=>(hch _ z).2.1 rfl) ho I.free
 ·obtain ⟨v,o,ho,hd⟩:=I.cell x c e
  exact free c o (fun z=>(hch c z).2.2.1 x c e rfl) ho (I.freeC x c e)
 ·obtain ⟨e,n,ne,nf,d⟩:=I.pin p hp
  have nch:p.1 ∉ ch:=fun z=>(hch p.1 z).2.2.2 p hp rfl
  exact ⟨keep p.1 p.2 ne nf nch e n,free p.1 p.2 nch e n,ne,nf,d⟩
theorem Inv.un {t':Nat} (I:Inv X pins σ H s) (u:Un X.fs [] H H' s.heap h') (hok:HOk X.prog X.w H' h'):Inv X pins σ H' { s with heap:=h',toks:=t' }:=by
 obtain ⟨m,⟨o,es,ep,ho,r⟩,_⟩:=id I.loc
 obtain ⟨sl,hL⟩:=u.any ho I.free (by simp)
 exact I.step (g':=s.gens) (d':=s.drawn) (ch:=[]) (fun _ z=>nomatch z) (fun b o _ hb _ e n=>u.keep b o e n hb (by simp)) (fun b o _ hb _ e n=>u.slot b o e n hb (by simp)) (fun b o _ e n=>u.free b o e n (by simp)) (fun b o _ e=>u.there b o e (by simp)) u.tups u.frzs u.tbls (fun m' hm=>by
  obtain ⟨o',es',ep',ho',r'⟩:=hm
  rw [ho] at ho';cases ho'
  exact ⟨_,es',ep',hL,r'⟩) hok I.bare
theorem Inv.call {g':Array GenState} {t':Nat} {d':Drawn} {ch:List Addr} (I:Inv X pins σ H s) (u:Un (frs X.stack) ch H H' s.heap h') (hok:HOk X.prog X.w H' h') (hg:AllBare g')
  (hch:∀ b ∈ ch,(b ∈ X.ex ∨ X.s₀.heap.objs.size<=b)/\b ≠ X.env.locals/\(∀ x c,X.env.cells.lookup x = some c->c ≠ b)/\∀ p ∈ X.pn ++ pins,p.1 ≠ b) :
  Inv X pins σ H' { s with heap:=h',gens:=g',drawn:=d',toks:=t' }:=by
 obtain ⟨m,⟨o,es,ep,ho,r⟩,_⟩:=id I.loc
 obtain ⟨sl,hL⟩:=u.any ho I.free fun z=>(hch _ z).2.1 rfl
 exact I.step (ch:=ch) hch (fun b o hL hb hc e n=>u.keep b o e n (fun z=>(List.mem_cons.mp (I.stkSub b z)).elim hL hb) hc) (fun b o _ _ hc e n=>u.any e n hc) (fun b o hc e n=>u.free b o e n hc) (fun b o hc e=>u.there b o e hc) u.tups u.frzs u.tbls (fun m' hm=>by
  obtain ⟨o',es',ep',ho',r'⟩:=hm
  rw [ho] at ho';cases ho'
  exact ⟨_,es',ep',hL,r'⟩) hok hg
theorem Inv.turned {t':Nat} {it:Addr} (I:Inv X pins σ H s) (k:∀ b o,b ≠ it->s.heap.get? b = some o->h'.get? b = some o) (hn:H it = none) (hL:it ≠ X.env.locals)
  (h1:it ∈ X.ex ∨ X.s₀.heap.objs.size<=it) (h2:∀ x c,X.env.cells.lookup x = some c->c ≠ it) (h3:∀ p ∈ X.pn ++ pins,p.1 ≠ it):Inv X pins σ H { s with heap:=h',toks:=t' }:=by
 have nit:∀ b u,H b = some u->b ≠ it:=fun b u e z=>by rw [z,hn] at e;cases e
 refine I.step (g':=s.gens) (d':=s.drawn) (ch:=[it]) (fun b hb=>?_) (fun b o _ _ hc e _=>k b o (fun z=>hc (by simp [z])) e) (fun b o _ _ hc e _=>⟨o.slots,k b o (fun z=>hc (by simp [z])) e⟩) (fun _ _ _ _ n=>n)
  (fun b o hc e=>⟨o,k b o (fun z=>hc (by simp [z])) e⟩) (fun _ _ e=>e) (fun _ _ _ e=>e) (fun b ps e=>⟨#[],by rw [e];simp⟩) (fun m hm=>?_) (fun b u e=>?_) I.bare
 ·have e:b = it:=by simpa using hb
  subst e
  exact ⟨h1,hL,h2,h3⟩
 ·obtain ⟨o,es,ep,ho,r⟩:=hm
  exact ⟨o,es,ep,k _ o (Ne.symm hL) ho,r⟩
 ·refine (I.hok b u e).stay (fun c v hc q=>k c v ?_ q) (fun _ q=>q) fun _ _ q=>q
  rcases hc with z | z
  ·rw [z];exact nit b u e
  ·exact nit c _ z
theorem Inv.tok (I:Inv X pins σ H s) (t:Nat):Inv X pins σ H { s with toks:=t }:=I.un (h':=s.heap) (t':=t) Un.refl I.hok
theorem Inv.kept {t':Nat} (I:Inv X pins σ H s) (k:∀ b u,s.heap.get? b = some u->h'.get? b = some u):Inv X pins σ H { s with heap:=h',toks:=t' }:=I.un (Un.kept k) (I.hok.kept k)
theorem Inv.laid {a:Addr} {o:HO} {t':Nat} (I:Inv X pins σ H s) (k:∀ b u,s.heap.get? b = some u->h'.get? b = some u) (hp:s.heap.objs.size<=a) (new:eN X.prog X.w (upd H a o) h' a o) :
  Inv X pins σ (upd H a o) { s with heap:=h',toks:=t' }:=I.un (Un.laid k hp (I.hok.fresh hp)) (I.hok.laid k hp new)
theorem Inv.write {x e:Addr} {o:HO} {t':Nat} (I:Inv X pins σ H s) (mu:Mut (H x)) (he:e = x ∨ H e = some (.own x)) (k:∀ b u,b ≠ e->s.heap.get? b = some u->h'.get? b = some u) (heo:∃ u,h'.get? e = some u)
  (new:eN X.prog X.w (upd H x o) h' x o):Inv X pins σ (upd H x o) { s with heap:=h',toks:=t' }:=I.un (Un.write mu he k heo) (I.hok.write mu he k heo new)
theorem Inv.pins_of {pins':List (Addr × Obj)} (I:Inv X pins σ H s) (h:∀ p ∈ pins',s.heap.get? p.1 = some p.2/\H p.1 = none/\p.1 ≠ X.env.locals/\p.1 ∉ X.fs/\∀ v,p.2.data ≠ .cell v):Inv X pins' σ H s :=
 ⟨I.ok,I.os,I.bare,I.base,I.loc,I.cell,I.free,I.freeC,fun p hp=>(List.mem_append.mp hp).elim (fun z=>I.pin p (List.mem_append_left _ z)) (h p),I.hok,I.len⟩
theorem xD {N:List Str} (hN:N.Nodup) {i j:Nat} {x:Str} (a:N[i]? = some x) (b:N[j]? = some x):i = j:=by
 obtain ⟨h1,e1⟩:=List.getElem?_eq_some_iff.mp a
 obtain ⟨h2,e2⟩:=List.getElem?_eq_some_iff.mp b
 exact (List.getElem_inj hN).mp (e1.trans e2.symm)
theorem sH {M:Model} {A:Around} {E:Value->Shared->Prop} {i:Nat} {x:Str} {v:V} {u:Value} {Q:Unit->Shared->Prop} (I:Inv X pins σ H s) (hN:X.N.Nodup) (hi:X.N[i]? = some x) (hx:Loc X.env.scope x) (r:bO v u)
  (h:∀ s',Inv X pins (σ.set i (some v)) H s'->(∃ a,Heap.SameBut a s.heap s'.heap/\(a = X.env.locals ∨ X.env.cells.lookup x = some a))->Q () s') (hf:X.fn x = true ∨ X.env.scope.names.lookup x = some .local:=by first | exact .inl rfl | exact .inr rfl | assumption):wpAny M A (storeName X.env x u) Q E s:=by
 obtain ⟨m,hn,hl⟩:=id I.loc
 have hcls:(X.env.scope.kind == .class || (X.env.scope.kind == .module && X.env.locals != X.env.globals)) = false:=by rw [I.ok.kind];rfl
 have hiσ:i < σ.length:=by rw [I.len];exact (List.getElem?_eq_some_iff.mp hi).1
 have cne:=I.cne
 have tracked:∀ {a:Addr} {h':Heap},(∃ o,s.heap.get? a = some o/\H a = none)->Heap.SameBut a s.heap h'->HOk X.prog X.w H h':=fun {a h'} ha hs b ob e=>by
  obtain ⟨_,_,hfree⟩:=ha
  refine (I.hok b ob e).stay (fun c w' hc q=>(hs.2 c ?_).trans q) (fun _ q=>q) fun _ _ q=>q
  rintro rfl
  rcases hc with rfl | hc
  ·rw [hfree] at e;cases e
  ·rw [hfree] at hc;cases hc
 rcases hx with hk | hk
 ·refine wpAny_storeName_local hk hn (fun h' hn' hs=>?_) hcls
  obtain ⟨oL,_,_,hoL,_⟩:=id hn
  refine h _ ⟨I.ok,I.os,I.bare,⟨fun b o e n hb hx=>?_,fun b o e n hb hx=>?_,I.base.free,fun b o e hx=>?_,I.base.tups,I.base.frzs,I.base.tbls⟩,⟨_,hn',fun j y v' e1 e2 e3=>?_⟩,fun y c e=>?_,I.free,I.freeC,fun p hp=>?_,tracked ⟨oL,hoL,I.free⟩ hs,by simpa using I.len⟩ ⟨_,hs,.inl rfl⟩
  ·exact (hs.2 b (Nat.ne_of_lt (Nat.lt_of_lt_of_le (Heap.lt_size e) I.ok.above))).trans (I.base.keep b o e n hb hx)
  ·obtain ⟨sl,e1⟩:=I.base.slot b o e n hb hx
   exact ⟨sl,(hs.2 b (Nat.ne_of_lt (Nat.lt_of_lt_of_le (Heap.lt_size e) I.ok.above))).trans e1⟩
  ·obtain ⟨o',e1⟩:=I.base.there b o e hx
   exact ⟨o',(hs.2 b (Nat.ne_of_lt (Nat.lt_of_lt_of_le (Heap.lt_size e) I.ok.above))).trans e1⟩
  ·by_cases hj:j = i
   ·subst hj
    rw [hi] at e1;cases e1
    rw [List.getElem?_set_self hiσ] at e2
    cases e2
    exact ⟨u,r,.inl ⟨hk,by simp⟩⟩
   ·rw [List.getElem?_set_ne (Ne.symm hj)] at e2
    obtain ⟨u',r',q⟩:=hl j y v' e1 e2 e3
    refine ⟨u',r',?_⟩
    rcases q with ⟨k,e⟩ | ⟨k,c,e,z⟩
    ·refine .inl ⟨k,?_⟩
     have:y ≠ x:=fun e=>hj (xD hN e1 (e ▸ hi))
     simp [this,e]
    ·exact .inr ⟨k,c,e,z.sameBut hs (cne y c e)⟩
  ·obtain ⟨w',z⟩:=I.cell y c e
   exact ⟨w',z.sameBut hs (cne y c e)⟩
  ·obtain ⟨e,n,ne,nf,d⟩:=I.pin p hp
   exact ⟨(hs.2 p.1 ne).trans e,n,ne,nf,d⟩
 ·have hfn:X.fn x = true:=by
   rcases hf with z | z
   ·exact z
   ·rw [z] at hk;cases hk
  obtain ⟨c,hc⟩:=I.ok.has x (.inl hk)
  obtain ⟨w',z⟩:=I.cell x c hc
  refine wpAny_storeName_cell I.ok.kind hk hc z (fun h' hc' hs=>?_)
  obtain ⟨oc,hoc,hocd⟩:=id z
  refine h { s with heap:=h' } ⟨I.ok,I.os,I.bare,⟨fun b o e n hb hx=>?_,fun b o e n hb hx=>?_,I.base.free,fun b o e hx=>?_,I.base.tups,I.base.frzs,I.base.tbls⟩,⟨m,hn.sameBut hs (Ne.symm (cne x c hc)),fun j y v' e1 e2 e3=>?_⟩,fun y c' e=>?_,I.free,I.freeC,fun p hp=>?_,tracked ⟨oc,hoc,I.freeC x c hc⟩ hs,by simpa using I.len⟩ ⟨c,hs,.inr hc⟩
  ·exact (hs.2 b (Nat.ne_of_lt (Nat.lt_of_lt_of_le (Heap.lt_size e) (I.ok.cab x c hfn hc)))).trans (I.base.keep b o e n hb hx)
  ·obtain ⟨sl,e1⟩:=I.base.slot b o e n hb hx
   exact ⟨sl,(hs.2 b (Nat.ne_of_lt (Nat.lt_of_lt_of_le (Heap.lt_size e) (I.ok.cab x c hfn hc)))).trans e1⟩
  ·obtain ⟨o',e1⟩:=I.base.there b o e hx
   exact ⟨o',(hs.2 b (Nat.ne_of_lt (Nat.lt_of_lt_of_le (Heap.lt_size e) (I.ok.cab x c hfn hc)))).trans e1⟩
  ·by_cases hj:j = i
   ·subst hj
    rw [hi] at e1;cases e1
    rw [List.getElem?_set_self hiσ] at e2
    cases e2
    exact ⟨u,r,.inr ⟨.inl hk,c,hc,hc'⟩⟩
   ·rw [List.getElem?_set_ne (Ne.symm hj)] at e2
    obtain ⟨u',r',q⟩:=hl j y v' e1 e2 e3
    refine ⟨u',r',?_⟩
    rcases q with q | ⟨k,c',e,z'⟩
    ·exact .inl q
    ·refine .inr ⟨k,c',e,z'.sameBut hs ?_⟩
     rintro rfl
     exact hj (xD hN e1 (I.ok.inj _ _ _ e hc ▸ hi))
  ·by_cases hcc:c' = c
   ·subst hcc;exact ⟨_,hc'⟩
   ·obtain ⟨w2,z2⟩:=I.cell y c' e
    exact ⟨w2,z2.sameBut hs hcc⟩
  ·obtain ⟨e,n,ne,nf,d⟩:=I.pin p hp
   refine ⟨(hs.2 p.1 ?_).trans e,n,ne,nf,d⟩
   intro q
   rw [q,hoc] at e
   have q':oc = p.2:=Option.some.inj e
   exact d w' (by rw [<- q'];exact hocd)
theorem oI {M:Model} {A:Around} {E:Value->Shared->Prop} {i:Nat} {x:Str} {v:V} {u:Value} {Q:Unit->Shared->Prop} (I:Inv X pins σ H s) (hN:X.N.Nodup) (hi:X.N[i]? = some x) (hx:Loc X.env.scope x) (r:bO v u)
  (h:∀ s',Inv X pins (σ.set i (some v)) H s'->Q () s') (hf:X.fn x = true ∨ X.env.scope.names.lookup x = some .local:=by first | exact .inl rfl | exact .inr rfl | assumption):wpAny M A (storeName X.env x u) Q E s :=
 sH I hN hi hx r (fun s' I' _=>h s' I') hf
theorem Inv.call' {s':Shared} {ch:List Addr} (I:Inv X pins σ H s) (ho:s'.os = s.os) (u:Un (frs X.stack) ch H H' s.heap s'.heap) (hok:HOk X.prog X.w H' s'.heap) (hg:AllBare s'.gens)
  (hch:∀ b ∈ ch,(b ∈ X.ex ∨ X.s₀.heap.objs.size<=b)/\b ≠ X.env.locals/\(∀ x c,X.env.cells.lookup x = some c->c ≠ b)/\∀ p ∈ X.pn ++ pins,p.1 ≠ b):Inv X pins σ H' s':=by
 obtain ⟨h',g',d',t',o'⟩:=s'
 have e:o' = s.os:=ho
 subst e
 exact I.call (g':=g') (t':=t') (d':=d') u hok hg hch
end
noncomputable abbrev XK:=Value->Option Addr->Hp->Prop
noncomputable abbrev St:=List (Option V)
noncomputable abbrev VK:=V->Hp->Prop
noncomputable abbrev TE:=St->Hp->VK->Prop
noncomputable abbrev TT:=St->Hp->(Bool->Hp->Prop)->Prop
noncomputable abbrev TA:=St->Hp->(List V->Hp->Prop)->Prop
structure pT where
 nx:St->Hp->Prop
 rt:VK
 bk:St->Hp->Prop:=fun _ _=>False
 ct:St->Hp->Prop:=fun _ _=>False
noncomputable abbrev TS:=pT->St->Hp->Prop
noncomputable def EP (X:Cx) (pins:List (Addr × Obj)) (σ:St) (Q:VK) (u:Value) (s':Shared):Prop:=∃ v H',Inv X pins σ H' s'/\bO v u/\Q v H'
noncomputable def TP (X:Cx) (pins:List (Addr × Obj)) (σ:St) (Q:Bool->Hp->Prop) (b:Bool) (s':Shared):Prop:=∃ H',Inv X pins σ H' s'/\Q b H'
noncomputable def AP (X:Cx) (pins:List (Addr × Obj)) (σ:St) (Q:List V->Hp->Prop) (us:List Value) (s':Shared):Prop:=∃ vs H',Inv X pins σ H' s'/\bT vs us/\Q vs H'
noncomputable def SP (X:Cx) (pins:List (Addr × Obj)) (D:pT) (f:Flow) (s':Shared):Prop :=
 match f with
 | .next=>∃ σ' H',Inv X pins σ' H' s'/\D.nx σ' H'
 | .brk=>∃ σ' H',Inv X pins σ' H' s'/\D.bk σ' H'
 | .cont=>∃ σ' H',Inv X pins σ' H' s'/\D.ct σ' H'
 | .ret u=>∃ v σ' H',Inv X pins σ' H' s'/\bO v u/\D.rt v H'
noncomputable def PE (X:Cx) (e:Expr) (t:TE):Prop :=
 ∀ (pins:List (Addr × Obj)) (s:Shared) (σ:St) (H:Hp) (Q:VK),Inv X pins σ H s->t σ H Q->wpAny (model X.prog X.w) X.A (eval e X.env) (EP X pins σ Q) X.xe s
noncomputable def PT (X:Cx) (e:Expr) (t:TT):Prop :=
 ∀ (pins:List (Addr × Obj)) (s:Shared) (σ:St) (H:Hp) (Q:Bool->Hp->Prop),Inv X pins σ H s->t σ H Q->wpAny (model X.prog X.w) X.A (isTrue e X.env (eval e X.env)) (TP X pins σ Q) X.xe s
noncomputable def PW (X:Cx) (e:Expr) (t:TT):Prop :=
 ∀ (whole:Sem Value) (pins:List (Addr × Obj)) (s:Shared) (σ:St) (H:Hp) (Q:Bool->Hp->Prop),Inv X pins σ H s->t σ H Q->wpAny (model X.prog X.w) X.A (isTrue e X.env whole) (TP X pins σ Q) X.xe s
theorem PW.pt {X:Cx} {e:Expr} {t:TT} (h:PW X e t):PT X e t:=h _
noncomputable def PA (X:Cx) (es:List Expr) (t:TA):Prop :=
 ∀ (pos:Pos) (pins:List (Addr × Obj)) (s:Shared) (σ:St) (H:Hp) (Q:List V->Hp->Prop),Inv X pins σ H s->t σ H Q->wpAny (model X.prog X.w) X.A (spliced (backTo pos (starEach es X.env))) (AP X pins σ Q) X.xe s
noncomputable def PS (X:Cx) (st:Stmt) (t:TS):Prop :=
 ∀ (pins:List (Addr × Obj)) (s:Shared) (σ:St) (H:Hp) (D:pT),Inv X pins σ H s->t D σ H->wpAny (model X.prog X.w) X.A (exec st X.env) (SP X pins D) X.xe s
noncomputable def PSs (X:Cx) (st:List Stmt) (t:TS):Prop :=
 ∀ (pins:List (Addr × Obj)) (s:Shared) (σ:St) (H:Hp) (D:pT),Inv X pins σ H s->t D σ H->wpAny (model X.prog X.w) X.A (execs st X.env) (SP X pins D) X.xe s
theorem thn {α:Type} {t:Sem α} {Q Q':α->Shared->Prop} {M:Model} {A:Around} {E:Value->Shared->Prop} {s:Shared} (h:wpAny M A t Q E s) (hQ:∀ a s,Q a s->Q' a s):wpAny M A t Q' E s:=wpAny_mono h hQ fun _ _ x=>x
end L2
namespace L2
open PySem PySem.Spec PyProof.Rows
section
variable {X:Cx}
noncomputable def aMp (i:Nat):TE:=fun σ H Q=>∃ v,σ[i]? = some (some v)/\Q v H
noncomputable def tC (v:V):TE:=fun _ H Q=>Q v H
theorem aBH {i:Nat} {x:Str} {pos:Pos} (hN:X.N[i]? = some x) (hv:Vis X.env.scope x) (hd:(x == ("__debug__":Str)) = false:=by decide) (hcd:(x == ("__classdict__":Str)) = false:=by decide):PE X (.Name x pos) (aMp i):=by
 intro pins s σ H Q I h
 obtain ⟨v,e,h⟩:=h
 obtain ⟨m,hn,hl⟩:=I.loc
 obtain ⟨u,r,l⟩:=hl i x v hN e hv
 have fin:EP X pins σ Q u s:=⟨v,H,I,r,h⟩
 rcases l with ⟨hk,hm⟩ | ⟨hk,c,hc,hcell⟩
 ·exact wpAny_Name (wpAny_loadName_local I.ok.kind hk hn hm fin) hd
 ·rcases hk with hk | hk
  ·exact wpAny_Name (wpAny_loadName_cell I.ok.kind hk hc hcell fin) hd
  ·exact wpAny_Name (wpAny_loadName_free I.ok.kind hk hc hcell fin hcd) hd
theorem aIs {i j pos}:PE X (.Constant (.int i) j pos) (tC (.int i)):=fun _ _ _ H _ I h=>wpAny_Constant_int ⟨.int i,H,I.tok _,⟨_,rfl⟩,h⟩
theorem aKN {b j pos}:PE X (.Constant (.bool b) j pos) (tC (.bl b)):=fun _ _ _ H _ I h=>Constant_bool ⟨.bl b,H,I,rfl,h⟩
theorem aJj {j pos}:PE X (.Constant .none j pos) (tC .non):=fun _ _ _ H _ I h=>Constant_none ⟨.non,H,I,rfl,h⟩
theorem aIc {x j pos}:PE X (.Constant (.str x) j pos) (tC (.str x)):=fun _ _ _ H _ I h=>Calls.Constant_str ⟨.str x,H,I.tok _,⟨_,rfl⟩,h⟩
noncomputable def Gl (X:Cx) (x:Str):Prop:=X.env.kindOf x = some .globalImplicit
theorem jL {E:Value->Shared->Prop} {pins:List (Addr × Obj)} {s:Shared} {σ:St} {H:Hp} {x:Str} {u:Value} {pos:Pos} {Q:Value->Shared->Prop} (I:Inv X pins σ H s) (hg:Gl X x) (hm:X.mg x = some u) (h:Q u s)
  (hd:(x == ("__debug__":Str)) = false:=by decide):wpAny (model X.prog X.w) X.A (eval (.Name x pos) X.env) Q E s :=
 Calls.Name_function_global I.ok.kind hg (Calls.loadGlobal_global (by rw [I.ok.glob];exact I.mod.glob.keeps I.bk) hm h) hd
theorem wA {E:Value->Shared->Prop} {pins:List (Addr × Obj)} {s:Shared} {σ:St} {H:Hp} {x:Str} {u:Value} {pos:Pos} {Q:Value->Shared->Prop} (I:Inv X pins σ H s) (hg:Gl X x) (hm:X.mg x = none) (hv:bootBuiltins x = some u) (h:Q u s)
  (hn:x ≠ "__name__":=by decide) (hd:(x == ("__debug__":Str)) = false:=by decide):wpAny (model X.prog X.w) X.A (eval (.Name x pos) X.env) Q E s:=by
 obtain ⟨mb,h1,h2⟩:=I.mod.blt
 exact Calls.Name_function_global I.ok.kind hg (Calls.loadGlobal_builtin (by rw [I.ok.glob];exact I.mod.glob.keeps I.bk) hm (by rw [I.ok.blt];exact h1.keeps I.bk) ((h2 x hn).trans hv) h) hd
theorem aCX {x:Str} {v:V} {u:Value} {pos:Pos} (hg:Gl X x) (hm:X.mg x = some u) (r:bO v u) (hd:(x == ("__debug__":Str)) = false:=by decide):PE X (.Name x pos) (tC v) :=
 fun _ _ _ H _ I h=>jL I hg hm ⟨v,H,I,r,h⟩ hd
theorem aCi {x:Str} {v:V} {u:Value} {pos:Pos} (hg:Gl X x) (hm:X.mg x = none) (hv:bootBuiltins x = some u) (r:bO v u) (hn:x ≠ "__name__":=by decide) (hd:(x == ("__debug__":Str)) = false:=by decide):PE X (.Name x pos) (tC v) :=
 fun _ _ _ H _ I h=>wA I hg hm hv ⟨v,H,I,r,h⟩ hn hd
variable {a b:Expr} {ta tb:TE} {pos:Pos}
noncomputable def tB (t:TE):TT:=fun σ H Q=>t σ H fun x H1=>∃ c,x = .bl c/\Q c H1
theorem aIj {e:Expr} {t:TE} (h:PE X e t) (he:∀ whole,isTrue e X.env whole = (do let v <- whole;standAt e.pos;holding [v] (truthy v)):=by intro _;rfl):PT X e (tB t):=by
 intro pins s σ H Q I hw
 refine isTrue_plain (thn (h pins s σ H _ I hw) fun v s1 ⟨x,H1,I1,r1,q1⟩=>?_) (he _)
 obtain ⟨d,rfl,q⟩:=q1
 cases r1
 exact wpAny_truthy_bool ⟨H1,I1,q⟩
variable {tA tB':TT} {cJ:List Expr}
noncomputable def aMj (t u:TT):TT:=fun σ H Q=>t σ H fun c H1=>if c = true then u σ H1 Q else Q false H1
noncomputable def tOr (t u:TT):TT:=fun σ H Q=>t σ H fun c H1=>if c = true then Q true H1 else u σ H1 Q
noncomputable def aL2 (t:TT):TT:=fun σ H Q=>t σ H fun c H1=>Q (!c) H1
theorem aG3 (ha:PT X a tA):PW X (.BoolOp .And [a] pos) tA:=by
 intro wh pins s σ H Q I h
 refine isTrue_and (thn (ha pins s σ H Q I h) fun c s1 e=>?_)
 cases c with
 | true=>exact isTrue_and_nil e
 | false=>exact e
theorem aJc (ha:PT X a tA):PW X (.BoolOp .Or [a] pos) tA:=by
 intro wh pins s σ H Q I h
 refine isTrue_or (thn (ha pins s σ H Q I h) fun c s1 e=>?_)
 cases c with
 | false=>exact isTrue_or_nil e
 | true=>exact e
theorem aKd (ha:PT X a tA) (hb:PW X (.BoolOp .And (b :: cJ) pos) tB'):PW X (.BoolOp .And (a :: b :: cJ) pos) (aMj tA tB'):=by
 intro wh pins s σ H Q I h
 refine isTrue_and (thn (ha pins s σ H _ I h) fun c s1 ⟨H1,I1,q1⟩=>?_)
 cases c with
 | true=>exact hb wh pins s1 σ H1 Q I1 q1
 | false=>exact ⟨H1,I1,q1⟩
theorem aK6 (ha:PT X a tA) (hb:PW X (.BoolOp .Or (b :: cJ) pos) tB'):PW X (.BoolOp .Or (a :: b :: cJ) pos) (tOr tA tB'):=by
 intro wh pins s σ H Q I h
 refine isTrue_or (thn (ha pins s σ H _ I h) fun c s1 ⟨H1,I1,q1⟩=>?_)
 cases c with
 | true=>exact ⟨H1,I1,q1⟩
 | false=>exact hb wh pins s1 σ H1 Q I1 q1
theorem aJz (ha:PT X a tA):PT X (.UnaryOp .Not a pos) (aL2 tA):=by
 intro pins s σ H Q I h
 exact isTrue_not (ha pins s σ H (fun c H1=>Q (!c) H1) I h)
noncomputable def aLo (ta tb:TE):TE:=fun σ H Q=>ta σ H fun x H1=>∃ c,x = .bl c/\if c = true then tb σ H1 Q else Q (.bl false) H1
noncomputable def aL1 (ta tb:TE):TE:=fun σ H Q=>ta σ H fun x H1=>∃ c,x = .bl c/\if c = true then Q (.bl true) H1 else tb σ H1 Q
noncomputable def aLJ (ta:TE):TE:=fun σ H Q=>ta σ H fun x H1=>∃ c,x = .bl c/\Q (.bl (!c)) H1
theorem aII {op} {t:TE} (h:PE X a t):PE X (.BoolOp op [a] pos) t:=fun pins s σ H Q I hw=>BoolOp_one (h pins s σ H Q I hw)
theorem aKf (ha:PE X a ta) (hb:PE X (.BoolOp .And (b :: cJ) pos) tb):PE X (.BoolOp .And (a :: b :: cJ) pos) (aLo ta tb):=by
 intro pins s σ H Q I h
 refine BoolOp_and (thn (ha pins s σ H _ I h) fun v s1 ⟨x,H1,I1,r1,q1⟩=>?_)
 obtain ⟨c,rfl,q1⟩:=q1
 cases r1
 refine wpAny_truthy_bool ?_
 cases c with
 | true=>exact hb pins s1 σ H1 Q I1 q1
 | false=>exact ⟨.bl false,H1,I1,rfl,q1⟩
theorem aLO (ha:PE X a ta) (hb:PE X (.BoolOp .Or (b :: cJ) pos) tb):PE X (.BoolOp .Or (a :: b :: cJ) pos) (aL1 ta tb):=by
 intro pins s σ H Q I h
 refine BoolOp_or (thn (ha pins s σ H _ I h) fun v s1 ⟨x,H1,I1,r1,q1⟩=>?_)
 obtain ⟨c,rfl,q1⟩:=q1
 cases r1
 refine wpAny_truthy_bool ?_
 cases c with
 | false=>exact hb pins s1 σ H1 Q I1 q1
 | true=>exact ⟨.bl true,H1,I1,rfl,q1⟩
theorem aI3 (ha:PE X a ta):PE X (.UnaryOp .Not a pos) (aLJ ta):=by
 intro pins s σ H Q I h
 refine UnaryOp_ (thn (ha pins s σ H _ I h) fun v s1 ⟨x,H1,I1,r1,q1⟩=>?_)
 obtain ⟨c,rfl,q1⟩:=q1
 cases r1
 exact not_of (wpAny_truthy_bool ⟨.bl (!c),H1,I1,rfl,q1⟩)
noncomputable def tIf (t:TT) (ta tb:TE):TE:=fun σ H Q=>t σ H fun c H1=>if c = true then ta σ H1 Q else tb σ H1 Q
theorem aFo {c:Expr} (hc:PT X c tA) (ha:PE X a ta) (hb:PE X b tb):PE X (.IfExp c a b pos) (tIf tA ta tb):=by
 intro pins s σ H Q I h
 refine wpAny_IfExp (thn (hc pins s σ H _ I h) fun d s1 ⟨H1,I1,q1⟩=>?_)
 cases d with
 | true=>exact ha pins s1 σ H1 Q I1 q1
 | false=>exact hb pins s1 σ H1 Q I1 q1
end
end L2
namespace L2
open PySem PySem.Spec PyProof.Rows
noncomputable def SqL (K:PySem.W.Frag) (H:Hp) (a:Addr) (xs:List V):Prop :=
 Rd H a (.lst xs) ∨
  ∃ (o:Obj) (its:Array Value) (n:Nat),K.lookup a = some o/\o.cls = .type "list"/\o.dict = none/\o.data = .seq its n/\its.size<=sizeLine/\bT xs its.toList
noncomputable def SqT (K:PySem.W.Frag) (H:Hp) (a:Addr) (xs:List V):Prop :=
 Rd H a (.tup xs) ∨
  ∃ (o:Obj) (its:Array Value) (n:Nat),K.lookup a = some o/\o.cls = .type "tuple"/\o.data = .seq its n/\its.size<=sizeLine/\bT xs its.toList
noncomputable def aMo:Value->Option V
 | .none=>some .non
 | .bool b=>some (.bl b)
 | .int i _=>some (.int i)
 | .str x _=>some (.str x)
 | .bytes b _=>some (.byt b)
 | .float b _=>some (.flt b)
 | .ref a=>some (.ref a)
 | .type n=>some (.ty n)
 | _=>none
theorem bO.abs {x:V} {u:Value} (r:bO x u):aMo u = some x:=by
 cases x with
 | non=>cases r;rfl
 | bl _=>cases r;rfl
 | int _=>obtain ⟨t,rfl⟩:=r;rfl
 | str _=>obtain ⟨t,rfl⟩:=r;rfl
 | byt _=>obtain ⟨t,rfl⟩:=r;rfl
 | flt _=>obtain ⟨t,rfl⟩:=r;rfl
 | ref _=>cases r;rfl
 | ty _=>cases r;rfl
theorem bO.inj {x y:V} {u:Value} (r:bO x u) (q:bO y u):x = y:=Option.some.inj (r.abs.symm.trans q.abs)
theorem bT.inj:∀ {xs ys:List V} {us:List Value},bT xs us->bT ys us->xs = ys
 | _,_,_,.nil,.nil=>rfl
 | _,_,_,.cons r t,.cons r' t'=>by rw [r.inj r',bT.inj t t']
section
variable {X:Cx} {pins:List (Addr × Obj)} {σ:St} {H:Hp} {s:Shared} {a:Addr} {xs ys:List V}
theorem SqL.of {K:PySem.W.Frag} (h:H a = some (.lst xs)):SqL K H a xs:=.inl (.inl h)
theorem SqT.of {K:PySem.W.Frag} (h:H a = some (.tup xs)):SqT K H a xs:=.inl (.inl h)
theorem Inv.list (I:Inv X pins σ H s) (h:SqL X.K H a xs):∃ its:List Value,bT xs its/\PlainL s.heap a its.toArray/\xs.length<=sizeLine:=by
 rcases h with h | ⟨o,its,n,hk,hc,hd,hs,hz,r⟩
 ·obtain ⟨z,its,n,r,e⟩:=h.ok I.hok
  exact ⟨its,r,⟨_,n,e,rfl,rfl,rfl⟩,z⟩
 ·refine ⟨its.toList,r,⟨o,n,I.kIn a o hk,hc,hd,by simpa using hs⟩,?_⟩
  have e:=r.length
  simp only [Array.length_toList] at e
  omega
theorem Inv.tuple (I:Inv X pins σ H s) (h:SqT X.K H a xs):∃ its:List Value,bT xs its/\IsTup s.heap a its.toArray/\xs.length<=sizeLine:=by
 rcases h with h | ⟨o,its,n,hk,hc,hs,hz,r⟩
 ·obtain ⟨z,its,r,p⟩:=h.ok I.hok
  exact ⟨its,r,p,z⟩
 ·refine ⟨its.toList,r,⟨o,I.kIn a o hk,hc,n,by simpa using hs⟩,?_⟩
  have e:=r.length
  simp only [Array.length_toList] at e
  omega
theorem Inv.list_inj (I:Inv X pins σ H s) (h:SqL X.K H a xs) (h':SqL X.K H a ys):xs = ys:=by
 obtain ⟨its,r,⟨o,n,e,_,_,d⟩,_⟩:=I.list h
 obtain ⟨its',r',⟨o',n',e',_,_,d'⟩,_⟩:=I.list h'
 rw [e] at e';cases e'
 rw [d] at d'
 injection d' with d1 _
 have:its = its':=by simpa using congrArg Array.toList d1
 subst this
 exact r.inj r'
theorem Inv.tuple_inj (I:Inv X pins σ H s) (h:SqT X.K H a xs) (h':SqT X.K H a ys):xs = ys:=by
 obtain ⟨its,r,⟨o,e,_,n,d⟩,_⟩:=I.tuple h
 obtain ⟨its',r',⟨o',e',_,n',d'⟩,_⟩:=I.tuple h'
 rw [e] at e';cases e'
 rw [d] at d'
 injection d' with d1 _
 have:its = its':=by simpa using congrArg Array.toList d1
 subst this
 exact r.inj r'
end
noncomputable abbrev Cx.wish (X:Cx) (E:Value->Shared->Prop):Cx:={ X with xe:=E }
noncomputable abbrev Cx.nox (X:Cx):Cx:=X.wish fun _ _=>False
theorem Cx.Ok.wish {X:Cx} (ok:X.Ok) (E:Value->Shared->Prop):(X.wish E).Ok :=
 ⟨ok.mod,ok.kind,ok.glob,ok.blt,ok.above,ok.inj,ok.has,ok.cab,ok.hd,ok.frames,ok.stk,ok.exf,ok.bs,ok.bsz,ok.noex,ok.exfs,ok.funs,ok.frf⟩
theorem Cx.Ok.unwish {X:Cx} {E:Value->Shared->Prop} (ok:(X.wish E).Ok):X.Ok :=
 ⟨ok.mod,ok.kind,ok.glob,ok.blt,ok.above,ok.inj,ok.has,ok.cab,ok.hd,ok.frames,ok.stk,ok.exf,ok.bs,ok.bsz,ok.noex,ok.exfs,ok.funs,ok.frf⟩
section
variable {X:Cx} {pins:List (Addr × Obj)} {σ:St} {H:Hp} {s:Shared} {E:Value->Shared->Prop}
theorem Inv.wish (I:Inv X pins σ H s) (E:Value->Shared->Prop):Inv (X.wish E) pins σ H s:=⟨I.ok.wish E,I.os,I.bare,I.base,I.loc,I.cell,I.free,I.freeC,I.pin,I.hok,I.len⟩
theorem Inv.unwish (I:Inv (X.wish E) pins σ H s):Inv X pins σ H s:=⟨I.ok.unwish,I.os,I.bare,I.base,I.loc,I.cell,I.free,I.freeC,I.pin,I.hok,I.len⟩
theorem SP.unwish {D:pT} {f:Flow} {s':Shared} (h:SP (X.wish E) pins D f s'):SP X pins D f s':=by
 cases f with
 | next=>obtain ⟨σ',H',I,q⟩:=h;exact ⟨σ',H',I.unwish,q⟩
 | brk=>obtain ⟨σ',H',I,q⟩:=h;exact ⟨σ',H',I.unwish,q⟩
 | cont=>obtain ⟨σ',H',I,q⟩:=h;exact ⟨σ',H',I.unwish,q⟩
 | ret u=>obtain ⟨v,σ',H',I,r,q⟩:=h;exact ⟨v,σ',H',I.unwish,r,q⟩
theorem PSs.nox {st:List Stmt} {t:TS} (h:PSs X.nox st t):PSs X st t:=fun pins s σ H D I hw =>
 wpAny_mono (h pins s σ H D (I.wish _) hw) (fun _ _ q=>q.unwish) fun _ _ z=>False.elim z
end
section
variable {X:Cx} {st:Stmt} {cJ:List Stmt} {t u:TS} {e:Expr} {te:TE} {pos:Pos}
noncomputable def aK1:TS:=fun D σ H=>D.nx σ H
noncomputable def aLU (t u:TS):TS:=fun D σ H=>t { D with nx:=u D } σ H
theorem aGV:PSs X [] aK1:=fun _ _ σ H _ I h=>wpAny_execs_nil ⟨σ,H,I,h⟩
theorem aBj (h1:PS X st t) (h2:PSs X cJ u):PSs X (st :: cJ) (aLU t u):=by
 intro pins s σ H D I h
 refine wpAny_execs_cons (thn (h1 pins s σ H { D with nx:=u D } I h) fun f s1 q=>?_)
 cases f with
 | next =>
  obtain ⟨σ',H',I',q⟩:=q
  exact h2 pins s1 σ' H' D I' q
 | ret v=>exact q
 | brk=>exact q
 | cont=>exact q
theorem aHf (h1:PS X st t):PSs X [st] t:=by
 intro pins s σ H D I h
 refine wpAny_execs_cons (thn (h1 pins s σ H D I h) fun f s1 q=>?_)
 cases f with
 | next=>exact wpAny_execs_nil q
 | ret v=>exact q
 | brk=>exact q
 | cont=>exact q
theorem Inv.quiet {pins:List (Addr × Obj)} {σ:St} {H:Hp} {s:Shared} (I:Inv X pins σ H s):interactive X.env = false:=by simp [interactive,I.ok.kind]
noncomputable def aLT (te:TE):TS:=fun D σ H=>te σ H fun _ H1=>D.nx σ H1
theorem aGI (he:PE X e te) (hs:swapsWith e none pos.line X.env = pure false:=by rfl):PS X (.Expr e pos) (aLT te):=by
 intro pins s σ H D I h
 exact wpAny_Expr_any (thn (he pins s σ H _ I h) fun v s1 ⟨x,H1,I1,r1,q1⟩=>⟨σ,H1,I1,q1⟩) I.quiet hs
noncomputable def aL7 (te:TE):TS:=fun D σ H=>te σ H D.rt
theorem aIu (he:PE X e te):PS X (.Return (some e) pos) (aL7 te):=by
 intro pins s σ H D I h
 exact wpAny_Return_some (thn (he pins s σ H _ I h) fun v s1 ⟨x,H1,I1,r1,q1⟩=>⟨x,σ,H1,I1,r1,q1⟩)
noncomputable def aMn (c:TT) (t u:TS):TS:=fun D σ H=>c σ H fun b H1=>if b = true then t D σ H1 else u D σ H1
theorem aLS {c:Expr} {a b:List Stmt} {tc:TT} (hc:PT X c tc) (ha:PSs X a t) (hb:PSs X b u):PS X (.If c a b pos) (aMn tc t u):=by
 intro pins s σ H D I h
 refine wpAny_If (thn (hc pins s σ H _ I h) fun d s1 ⟨H1,I1,q1⟩=>?_)
 cases d with
 | true=>exact ha pins s1 σ H1 D I1 q1
 | false=>exact hb pins s1 σ H1 D I1 q1
end
noncomputable abbrev TG:=V->St->Hp->(St->Hp->Prop)->Prop
noncomputable abbrev TGs:=List V->St->Hp->(St->Hp->Prop)->Prop
noncomputable def PG (X:Cx) (target:Expr) (t:TG):Prop :=
 ∀ (pins:List (Addr × Obj)) (s:Shared) (σ:St) (H:Hp) (v:V) (u:Value) (Q:St->Hp->Prop),Inv X pins σ H s->bO v u->t v σ H Q ->
  wpAny (model X.prog X.w) X.A (assign target X.env u) (fun _ s'=>∃ σ' H',Inv X pins σ' H' s'/\Q σ' H') X.xe s
noncomputable def PGs (X:Cx) (ts:List Expr) (t:TGs):Prop :=
 ∀ (pins:List (Addr × Obj)) (s:Shared) (σ:St) (H:Hp) (vs:List V) (us:List Value) (Q:St->Hp->Prop),Inv X pins σ H s->bT vs us->t vs σ H Q ->
  wpAny (model X.prog X.w) X.A (assignInOrder ((assignEach ts X.env).map (·.2)) us) (fun _ s'=>∃ σ' H',Inv X pins σ' H' s'/\Q σ' H') X.xe s
noncomputable abbrev aJl:=V->V->V->Hp->(Hp->Prop)->Prop
noncomputable def aKG (X:Cx) (t:aJl):Prop :=
 ∀ (pins:List (Addr × Obj)) (s:Shared) (σ:St) (H:Hp) (o i v:V) (ov iv u:Value) (Q:Hp->Prop),Inv X pins σ H s->bO o ov->bO i iv->bO v u->t o i v H Q ->
  wpAny (model X.prog X.w) X.A (setItem ov iv u) (fun _ s'=>∃ H',Inv X pins σ H' s'/\Q H') X.xe s
noncomputable abbrev TIp:=V->V->Hp->VK->Prop
noncomputable def PIp (X:Cx) (op:Operator) (t:TIp):Prop :=
 ∀ (pins:List (Addr × Obj)) (s:Shared) (σ:St) (H:Hp) (x y:V) (v u:Value) (Q:VK),Inv X pins σ H s->bO x v->bO y u->t x y H Q ->
  wpAny (model X.prog X.w) X.A (inplaceOp op v u) (EP X pins σ Q) X.xe s
section
variable {X:Cx} {pos:Pos}
noncomputable def aHK (i:Nat):TG:=fun v σ H Q=>Q (σ.set i (some v)) H
theorem aGL {i:Nat} {x:Str} (hN:X.N.Nodup) (hi:X.N[i]? = some x) (hx:Loc X.env.scope x) (hf:X.fn x = true ∨ X.env.scope.names.lookup x = some .local:=by first | exact .inl rfl | exact .inr rfl | assumption):PG X (.Name x pos) (aHK i):=by
 intro pins s σ H v u Q I r h
 exact wpAny_assign_Name (oI I hN hi hx r (fun s' I'=>⟨_,H,I',h⟩) hf)
noncomputable def aLZ:TGs:=fun vs σ H Q=>vs = []/\Q σ H
noncomputable def aLx (t:TG) (u:TGs):TGs:=fun vs σ H Q=>∃ v r,vs = v :: r/\t v σ H fun σ' H'=>u r σ' H' Q
theorem aHp:PGs X [] aLZ:=by
 intro pins s σ H vs us Q I r h
 obtain ⟨e,h⟩:=h
 subst e
 cases r
 exact assignInOrder_nil ⟨σ,H,I,h⟩
theorem aFC {e:Expr} {es:List Expr} {t:TG} {u:TGs} (h1:PG X e t) (h2:PGs X es u)
  (hs:(assignEach (e :: es) X.env).map (·.2) = assign e X.env :: (assignEach es X.env).map (·.2):=by rfl):PGs X (e :: es) (aLx t u):=by
 intro pins s σ H vs us Q I r h
 obtain ⟨v,vr,e1,h⟩:=h
 subst e1
 cases r with
 | cons r rr =>
  rw [hs]
  refine assignInOrder_cons (thn (h1 pins s σ H _ _ _ I r h) fun _ s1 ⟨σ1,H1,I1,q1⟩=>?_)
  exact h2 pins s1 σ1 H1 _ _ Q I1 rr q1
noncomputable def aMf (K:PySem.W.Frag) (n:Nat) (t:TGs):TG:=fun v σ H Q=>∃ a xs,v = .ref a/\SqT K H a xs/\xs.length = n/\t xs σ H Q
theorem aKl {es:List Expr} {k:Nat} {t:TGs} {n:Nat} (hc:X.calm = true) (h:PGs X es t)
  (hn:(assignEach es X.env).length = n:=by rfl) (hst:(assignEach es X.env).findIdx? (·.1) = none:=by rfl):PG X (.Tuple es k pos) (aMf X.K n t):=by
 intro pins s σ H v u Q I r hw
 obtain ⟨a,xs,e1,hq,hl,hw⟩:=hw
 subst e1
 cases r
 obtain ⟨its,rv,ht,hz⟩:=I.tuple hq
 refine assign_Tuple_tuple (I.ok.hd hc) ht (by simp [hn,<- hl,rv.length]) hst fun h' hx=>?_
 have I1:Inv X pins σ H { s with heap:=h' }:=I.kept (t':=s.toks) fun b o e=>hx b o (Nat.ne_of_lt (Heap.lt_size e)) e
 exact h pins _ σ H xs _ Q I1 (by simpa using rv) hw
noncomputable def aMv (to ti:TE) (t:aJl):TG:=fun v σ H Q=>to σ H fun o H1=>ti σ H1 fun i H2=>t o i v H2 fun H3=>Q σ H3
theorem aKb {o i:Expr} {to ti:TE} {t:aJl} (ho:PE X o to) (hi:PE X i ti) (hs:aKG X t)
  (ha:∀ v,assign (.Subscript o i pos) X.env v = (do
   let ov <- holding [v] (eval o X.env)
   let iv <- holding [v,ov] (eval i X.env)
   standAt pos
   holding [v,ov,iv] (setItem ov iv v)
   release [v,ov,iv] []):=by intro _;rfl):PG X (.Subscript o i pos) (aMv to ti t):=by
 intro pins s σ H v u Q I r h
 rw [ha]
 refine wpAny_bind (wpAny_holding (thn (ho pins s σ H _ I h) fun ov s1 ⟨x,H1,I1,r1,q1⟩=>?_))
 refine wpAny_bind (wpAny_holding (thn (hi pins s1 σ H1 _ I1 q1) fun iv s2 ⟨y,H2,I2,r2,q2⟩=>?_))
 refine wpAny_bind (wpAny_standAt (wpAny_bind (wpAny_holding (thn (hs pins s2 σ H2 x y v ov iv u _ I2 r1 r2 r q2) fun _ s3 ⟨H3,I3,q3⟩=>?_))))
 exact wpAny_release ⟨σ,H3,I3,q3⟩
noncomputable def aKP (te:TE) (g:TG):TS:=fun D σ H=>te σ H fun x H1=>g x σ H1 D.nx
theorem aKa {tg e:Expr} {te:TE} {g:TG} (he:PE X e te) (hg:PG X tg g) (hs:swapsWithSole [tg] e pos.line X.env = pure false:=by rfl) (hw:swappedStores [tg] e X.env = pure none:=by rfl)
  (h1:(assignEach [tg] X.env).map (·.2) = [assign tg X.env]:=by rfl):PS X (.Assign [tg] e pos) (aKP te g):=by
 intro pins s σ H D I h
 refine wpAny_Assign_stores (thn (he pins s σ H _ I h) fun v s1 ⟨x,H1,I1,r1,q1⟩=>?_) hs hw
 rw [h1]
 exact thn (hg pins s1 σ H1 x v _ I1 r1 q1) fun _ s2 q=>q
theorem aKh {i:Nat} {x:Str} {e:Expr} {te:TE} {pos':Pos} (hN:X.N.Nodup) (hi:X.N[i]? = some x) (hx:Loc X.env.scope x) (he:PE X e te) (hs:swapsWith e (some (.Name x pos')) pos.line X.env = pure false:=by rfl) (hf:X.fn x = true ∨ X.env.scope.names.lookup x = some .local:=by first | exact .inl rfl | exact .inr rfl | assumption) :
  PS X (.Assign [.Name x pos'] e pos) (aKP te (aHK i)):=by
 intro pins s σ H D I h
 refine wpAny_Assign_Name (thn (he pins s σ H _ I h) fun v s1 ⟨y,H1,I1,r1,q1⟩=>?_) hs
 exact oI I1 hN hi hx r1 (fun s2 I2=>⟨_,H1,I2,q1⟩) hf
noncomputable def aMu (i j:Nat) (ta:TA):TS:=fun D σ H=>ta σ H fun vs H1=>∃ v w,vs = [v,w]/\D.nx ((σ.set i (some v)).set j (some w)) H1
theorem aH8 {i j:Nat} {x y:Str} {a b:Expr} {ta:TA} {px py pt:Pos} {kt k2 pt2} (hc:X.calm = true) (hN:X.N.Nodup) (hi:X.N[i]? = some x) (hj:X.N[j]? = some y) (hij:i ≠ j)
  (hx:X.env.scope.names.lookup x = some .local) (hy:X.env.scope.names.lookup y = some .local) (ha:PA X [a,b] ta)
  (hw:swappedStores [.Tuple [.Name x px,.Name y py] kt pt] (.Tuple [a,b] k2 pt2) X.env = pure (some [x,y]))
  (hs:swapsWithSole [.Tuple [.Name x px,.Name y py] kt pt] (.Tuple [a,b] k2 pt2) pos.line X.env = pure false:=by rfl) :
  PS X (.Assign [.Tuple [.Name x px,.Name y py] kt pt] (.Tuple [a,b] k2 pt2) pos) (aMu i j ta):=by
 intro pins s σ H D I h
 rw [exec_Assign_arm]
 refine wpAny_bind (wpAny_standAt ?_)
 rw [hs]
 refine wpAny_bind (wpAny_pure ?_)
 rw [if_neg (by decide)]
 refine wpAny_bind (Tuple_ (thn (ha _ pins s σ H _ I h) fun us s1 ⟨vs,H1,I1,r1,q1⟩=>?_))
 obtain ⟨v,w,e1,q1⟩:=q1
 subst e1
 obtain ⟨u1,u2,rfl,rv,rw'⟩:∃ u1 u2,us = [u1,u2]/\bO v u1/\bO w u2:=by
  cases r1 with
  | cons p q =>
   cases q with
   | cons p' q' =>
    cases q'
    exact ⟨_,_,rfl,p,p'⟩
 refine wpAny_newObj_type ?_ (by show 2<=sizeLine;decide)
 have I2:Inv X pins σ H1 { s1 with heap:=s1.heap.push { cls:=.type "tuple",data:=.seq [u1,u2].toArray } }:=I1.kept (t':=s1.toks) fun b o e=>Heap.get?_push_of_some _ e
 rw [hw]
 refine wpAny_bind (wpAny_pure ?_)
 show wpAny (model X.prog X.w) X.A (do rule "assign.swapped-stores";let items <- unpackItems (.ref s1.heap.objs.size) 2 none;assignInOrder [fun v=>bindName X.env y v,fun v=>bindName X.env x v] items.reverse;pure Flow.next) _ _ _
 refine wpAny_bind (wpAny_rule (wpAny_bind (unpackItems_tuple (items:=#[u1,u2]) (I.ok.hd hc) (IsTup.new s1.heap _) fun h' hx'=>?_)))
 have I3:=I2.kept (h':=h') (t':=s1.toks) fun b o e=>hx' b o (Nat.ne_of_lt (Heap.lt_size e)) e
 show wpAny _ _ (assignInOrder [fun v=>bindName X.env y v,fun v=>bindName X.env x v] [u2,u1] >>= fun _=>pure Flow.next) _ _ _
 refine wpAny_bind (assignInOrder_cons (wpAny_bindName (oI I3 hN hj (.inl hy) rw' (fun s2 I4=>?_) (.inr hy))))
 refine assignInOrder_cons (wpAny_bindName (oI I4 hN hi (.inl hx) rv (fun s3 I5=>assignInOrder_nil (wpAny_pure ?_)) (.inr hx)))
 rw [List.set_comm _ _ (Ne.symm hij)] at I5
 exact ⟨_,H1,I5,q1⟩
noncomputable def aMb (i:Nat) (te:TE) (ti:TIp):TS:=fun D σ H=>∃ x,σ[i]? = some (some x)/\te σ H fun y H1=>ti x y H1 fun z H2=>D.nx (σ.set i (some z)) H2
theorem aJk {i:Nat} {x:Str} {e:Expr} {te:TE} {op:Operator} {ti:TIp} {pos':Pos} (hN:X.N.Nodup) (hi:X.N[i]? = some x) (hx:Loc X.env.scope x) (he:PE X e te) (ho:PIp X op ti) (hf:X.fn x = true ∨ X.env.scope.names.lookup x = some .local:=by first | exact .inl rfl | exact .inr rfl | assumption) :
  PS X (.AugAssign (.Name x pos') op e pos) (aMb i te ti):=by
 intro pins s σ H D I h
 obtain ⟨v,e1,h⟩:=h
 obtain ⟨m,hn,hl⟩:=I.loc
 have vis:Vis X.env.scope x:=by rcases hx with k | k;exact .inl k;exact .inr (.inl k)
 obtain ⟨u,r,l⟩:=hl i x v hi e1 vis
 refine wpAny_AugAssign_Name ?_
 have go:wpAny (model X.prog X.w) X.A (eval e X.env) (fun w s₂=>wpAny (model X.prog X.w) X.A (inplaceOp op u w) (fun r s₃=>wpAny (model X.prog X.w) X.A (storeName X.env x r) (fun _=>SP X pins D .next) X.xe s₃) X.xe s₂) X.xe s:=by
  refine thn (he pins s σ H _ I h) fun w s1 ⟨y,H1,I1,r1,q1⟩=>?_
  refine thn (ho pins s1 σ H1 v y u w _ I1 r r1 q1) fun z s2 ⟨zv,H2,I2,r2,q2⟩=>?_
  exact oI I2 hN hi hx r2 (fun s3 I3=>⟨_,H2,I3,q2⟩) hf
 rcases l with ⟨hk,hm⟩ | ⟨hk,c,hc,hcell⟩
 ·exact wpAny_loadName_local I.ok.kind hk hn hm go
 ·rcases hk with hk | hk
  ·exact wpAny_loadName_cell I.ok.kind hk hc hcell go
  ·rcases hx with k | k
   ·have:X.env.scope.names.lookup x = some .free:=hk
    rw [k] at this;cases this
   ·have:X.env.scope.names.lookup x = some .free:=hk
    rw [k] at this;cases this
noncomputable def ipI (f:Int->Int->Int):TIp:=fun x y H Q=>∃ i j,x = .int i/\y = .int j/\Q (.int (f i j)) H
theorem aCf:PIp X .Add (ipI fun i j=>i + j):=by
 intro pins s σ H x y v u Q I r1 r2 h
 obtain ⟨i,j,e1,e2,q⟩:=h
 subst e1;subst e2
 obtain ⟨t,rfl⟩:=r1
 obtain ⟨t',rfl⟩:=r2
 exact iadd_int ⟨.int _,H,I.tok _,⟨_,rfl⟩,q⟩
theorem aIq:PIp X .Sub (ipI fun i j=>i - j):=by
 intro pins s σ H x y v u Q I r1 r2 h
 obtain ⟨i,j,e1,e2,q⟩:=h
 subst e1;subst e2
 obtain ⟨t,rfl⟩:=r1
 obtain ⟨t',rfl⟩:=r2
 exact isub_int ⟨.int _,H,I.tok _,⟨_,rfl⟩,q⟩
end
section
variable {X:Cx} {pos:Pos}
noncomputable def aHX (c:TT) (tb:TS):TS:=fun D σ H=>∃ W:Nat->St->Hp->Prop,(∃ m,W m σ H)/\∀ m σ H,W m σ H ->
 c σ H fun b H1=>if b = true then ∃ N:St->Hp->Prop,(∀ σ' H',N σ' H'->∃ m',m' < m/\W m' σ' H')/\tb { D with nx:=N,ct:=N,bk:=D.nx } σ H1 else D.nx σ H1
theorem aEW {c:Expr} {body:List Stmt} {tc:TT} {tb:TS} (hp:PassesOwn (model X.prog X.w) X.A X.env X.xe) (hc:PT X c tc) (hb:PSs X body tb):PS X (.While c body [] pos) (aHX tc tb):=by
 intro pins s σ H D I h
 obtain ⟨W,⟨m0,w0⟩,turn⟩:=h
 refine wpAny_While (codeAny_whileLoop (fun n s'=>∃ σ' H',Inv X pins σ' H' s'/\W n σ' H') ?_ m0 ⟨σ,H,I,w0⟩)
 rintro n s1 ⟨σ1,H1,I1,w1⟩
 refine wpAny_passesOwn hp (thn (hc pins s1 σ1 H1 _ I1 (turn n σ1 H1 w1)) fun b s2 ⟨H2,I2,q2⟩=>?_)
 cases b with
 | true =>
  obtain ⟨N,hN,q2⟩:=q2
  rw [if_pos rfl]
  refine wpAny_passesOwn hp (thn (hb pins s2 σ1 H2 _ I2 q2) fun f s3 q3=>?_)
  cases f with
  | next =>
   obtain ⟨σ3,H3,I3,n3⟩:=q3
   obtain ⟨m',hm,w3⟩:=hN σ3 H3 n3
   exact ⟨m',hm,σ3,H3,I3,w3⟩
  | cont =>
   obtain ⟨σ3,H3,I3,n3⟩:=q3
   obtain ⟨m',hm,w3⟩:=hN σ3 H3 n3
   exact ⟨m',hm,σ3,H3,I3,w3⟩
  | brk=>exact q3
  | ret v=>exact q3
 | false =>
  rw [if_neg Bool.false_ne_true]
  exact wpAny_execs_nil ⟨σ1,H2,I2,q2⟩
end
structure It where
 go:Nat->Hp->Prop
 yld:Nat->Hp->V->Hp->Prop
 stop:Nat->Hp->Prop
noncomputable def vP (X:Cx) (pins:List (Addr × Obj)) (H:Hp) (b:Addr):Prop :=
 H b = none/\b ≠ X.env.locals/\b ∉ X.fs/\(b ∈ X.ex ∨ X.s₀.heap.objs.size<=b)/\(∀ x c,X.env.cells.lookup x = some c->c ≠ b)/\∀ p ∈ X.pn ++ pins,p.1 ≠ b
theorem Inv.fpOk {X:Cx} {pins:List (Addr × Obj)} {σ:St} {H H':Hp} {s:Shared} {b:Addr} (I:Inv X pins σ H s) (hb:s.heap.objs.size<=b) (hn:H' b = none):vP X pins H' b:=by
 refine ⟨hn,Nat.ne_of_gt (Nat.lt_of_lt_of_le I.lt hb),I.nofs hb,.inr (Nat.le_trans I.sz hb),fun x c e z=>?_,fun p hp z=>?_⟩
 ·obtain ⟨v,q⟩:=I.cell x c e
  exact absurd (Nat.lt_of_lt_of_le q.lt (by rw [z];exact hb)) (Nat.lt_irrefl _)
 ·exact absurd (Nat.lt_of_lt_of_le (Heap.lt_size (I.pin p hp).1) (by rw [z];exact hb)) (Nat.lt_irrefl _)
structure aFA (P:Program) (w:World) (K:PySem.W.Frag) (tg:Expr) (J:It) (fp:List Addr) (it:Addr) (tn:Nat->Heap->Prop):Prop where
 mem:it ∈ fp
 obj:∀ i h,tn i h->∀ b ∈ fp,∃ o,h.get? b = some o/\∀ v,o.data ≠ .cell v
 keep:∀ i h h',tn i h->(∀ b ∈ fp,∀ o,h.get? b = some o->h'.get? b = some o)->tn i h'
 item:∀ (X:Cx),X.prog = P->X.w = w->X.K = K->X.calm = true->∀ (i:Nat) (pins:List (Addr × Obj)) (s:Shared) (σ:St) (H:Hp) (E:Value->Shared->Prop),Inv X pins σ H s->(∀ b ∈ fp,vP X pins H b)->tn i s.heap->J.go i H ->
  wpAny (model P w) X.A (pyNext (.ref it)) (fun r s1=>∃ u,r = some u /\
   wpAny (model P w) X.A (letOwnedTupleGo tg (.ref it) u) (fun _ s2=>∃ x H',Inv X pins σ H' s2/\bO x u/\J.yld i H x H'/\tn (i + 1) s2.heap/\∀ b ∈ fp,H' b = none) E s1) E s
 done:∀ (X:Cx),X.prog = P->X.w = w->X.K = K->X.calm = true->∀ (i:Nat) (pins:List (Addr × Obj)) (s:Shared) (σ:St) (H:Hp) (E:Value->Shared->Prop),Inv X pins σ H s->(∀ b ∈ fp,vP X pins H b)->tn i s.heap->J.stop i H ->
  wpAny (model P w) X.A (pyNext (.ref it)) (fun r s1=>r = none/\Inv X pins σ H s1) E s
 self:∀ (A:Around) (i:Nat) (s:Shared) (Q:Value->Shared->Prop) (E:Value->Shared->Prop),tn i s.heap->Q (.ref it) s->wpAny (model P w) A (pyIter (.ref it)) Q E s
noncomputable abbrev TI:=St->Hp->(It->Hp->Prop)->Prop
noncomputable def PIE (X:Cx) (pins:List (Addr × Obj)) (σ:St) (tg:Expr) (R:It->Hp->Prop) (itv:Value) (s2:Shared):Prop :=
 ∃ (it:Addr) (fp:List Addr) (tn:Nat->Heap->Prop) (J:It) (H':Hp),itv = .ref it/\Inv X pins σ H' s2/\aFA X.prog X.w X.K tg J fp it tn/\tn 0 s2.heap/\(∀ b ∈ fp,vP X pins H' b)/\R J H'
noncomputable def PI (X:Cx) (tg iter:Expr) (wi:TI):Prop :=
 ∀ (pins:List (Addr × Obj)) (s:Shared) (σ:St) (H:Hp) (R:It->Hp->Prop),Inv X pins σ H s->wi σ H R ->
  wpAny (model X.prog X.w) X.A (eval iter X.env) (fun v s1=>wpAny (model X.prog X.w) X.A (pyIter v) (PIE X pins σ tg R) X.xe s1) X.xe s
theorem aEP {M:Model} {A:Around} {E:Value->Shared->Prop} {s:Shared} {tg:Expr} {it:Addr} {u:Value} {o:Obj} {n:String} {vs:Array Value} {Q:Unit->Shared->Prop} (ho:s.heap.get? it = some o) (hc:o.cls = .type n) (hd:o.data = .fields vs)
  (hn:["enumerate","zip","dict_itemiterator","dict_reverseitemiterator","odict_iterator","itertools.zip_longest","itertools.pairwise"].contains n = false) (hQ:Q () s):wpAny M A (letOwnedTupleGo tg (.ref it) u) Q E s:=by
 unfold letOwnedTupleGo
 cases tg<;>first
  | exact wpAny_pure hQ
  | (cases u<;>first
    | exact wpAny_pure hQ
    | (
      refine wpAny_bind (wpAny_load ho ?_)
      rw [hc,hd]
      show wpAny M A (if (["enumerate","zip","dict_itemiterator","dict_reverseitemiterator","odict_iterator","itertools.zip_longest","itertools.pairwise"].contains n && vs[0]? == some (rawInt _)) = true then _ else _) Q E s
      rw [if_neg (by intro h;rw [hn,Bool.false_and] at h;cases h)]
      exact wpAny_pure hQ))
noncomputable def Itl (K:PySem.W.Frag) (a:Addr):It :=
 ⟨fun i H=>∃ xs x,SqL K H a xs/\xs[i]? = some x,fun i H x H'=>H' = H/\∀ xs,SqL K H a xs->xs[i]? = some x,fun i H=>∃ xs,SqL K H a xs/\xs.length<=i⟩
noncomputable def Itt (K:PySem.W.Frag) (a:Addr):It :=
 ⟨fun i H=>∃ xs x,SqT K H a xs/\xs[i]? = some x,fun i H x H'=>H' = H/\∀ xs,SqT K H a xs->xs[i]? = some x,fun i H=>∃ xs,SqT K H a xs/\xs.length<=i⟩
noncomputable def Itr (lo:Int) (n:Nat):It:=⟨fun i _=>i < n,fun i H x H'=>H' = H/\x = .int (lo + i),fun i _=>n<=i⟩
theorem aDH {P:Program} {w:World} {K:PySem.W.Frag} {tg:Expr} (a it:Addr):aFA P w K tg (Itl K a) [it] it (fun i h=>h.IsListIter it a i) where
 mem:=by simp
 obj:=fun i h st b hb=>by
  have e:b = it:=by simpa using hb
  subst e
  obtain ⟨o,e,c,d⟩:=st
  exact ⟨o,e,fun v z=>by rw [d] at z;cases z⟩
 keep:=fun i h h' st k=>st.at fun o e=>k it (by simp) o e
 item:=by
  intro X hP hw hK hc i pins s σ H E I hf st hg
  subst hP hw hK
  obtain ⟨xs,x,hq,hx⟩:=hg
  obtain ⟨its,rv,p,hz⟩:=I.list hq
  obtain ⟨u,hu,ru⟩:=rv.get hx
  obtain ⟨f0,f1,f2,f3,f4,f5⟩:=hf it (by simp)
  refine wpAny_pyNext_list_item st p.isList (x:=u) (by simpa using hu) fun h' st' sb=>?_
  have I1:Inv X pins σ H { s with heap:=h' }:=I.turned (t':=s.toks) (fun b o hb e=>(sb.2 b hb).trans e) f0 f1 f3 f4 f5
  obtain ⟨o,e,c,d⟩:=id st'
  exact ⟨u,rfl,aEP (s:={ s with heap:=h' }) e c d (by decide) ⟨x,H,I1,ru,⟨rfl,fun ys hy=>by rw [I.list_inj hy hq];exact hx⟩,st',fun b hb=>(hf b hb).1⟩⟩
 done:=by
  intro X hP hw hK hc i pins s σ H E I hf st hg
  subst hP hw hK
  obtain ⟨xs,hq,hx⟩:=hg
  obtain ⟨its,rv,p,hz⟩:=I.list hq
  obtain ⟨f0,f1,f2,f3,f4,f5⟩:=hf it (by simp)
  have hl:=rv.length
  exact wpAny_pyNext_list_end (I.ok.hd hc) st p.isList (by simp;omega) fun h' eb=>⟨rfl,I.turned (t':=s.toks) (fun b o hb e=>eb b o hb e) f0 f1 f3 f4 f5⟩
 self:=fun _ _ _ _ _ st h=>wpAny_pyIter_listiter st h
theorem aBV {P:Program} {w:World} {K:PySem.W.Frag} {tg:Expr} (a it:Addr):aFA P w K tg (Itt K a) [it] it (fun i h=>h.IsTupleIter it a i) where
 mem:=by simp
 obj:=fun i h st b hb=>by
  have e:b = it:=by simpa using hb
  subst e
  obtain ⟨o,e,c,d⟩:=st
  exact ⟨o,e,fun v z=>by rw [d] at z;cases z⟩
 keep:=fun i h h' st k=>st.at fun o e=>k it (by simp) o e
 item:=by
  intro X hP hw hK hc i pins s σ H E I hf st hg
  subst hP hw hK
  obtain ⟨xs,x,hq,hx⟩:=hg
  obtain ⟨its,rv,p,hz⟩:=I.tuple hq
  obtain ⟨u,hu,ru⟩:=rv.get hx
  obtain ⟨f0,f1,f2,f3,f4,f5⟩:=hf it (by simp)
  refine wpAny_pyNext_tuple_item st (show s.heap.IsTuple a its.toArray from p) (x:=u) (by simpa using hu) fun h' st' sb=>?_
  have I1:Inv X pins σ H { s with heap:=h' }:=I.turned (t':=s.toks) (fun b o hb e=>(sb.2 b hb).trans e) f0 f1 f3 f4 f5
  obtain ⟨o,e,c,d⟩:=id st'
  exact ⟨u,rfl,aEP (s:={ s with heap:=h' }) e c d (by decide) ⟨x,H,I1,ru,⟨rfl,fun ys hy=>by rw [I.tuple_inj hy hq];exact hx⟩,st',fun b hb=>(hf b hb).1⟩⟩
 done:=by
  intro X hP hw hK hc i pins s σ H E I hf st hg
  subst hP hw hK
  obtain ⟨xs,hq,hx⟩:=hg
  obtain ⟨its,rv,p,hz⟩:=I.tuple hq
  obtain ⟨f0,f1,f2,f3,f4,f5⟩:=hf it (by simp)
  have hl:=rv.length
  exact wpAny_pyNext_tuple_end (I.ok.hd hc) st (show s.heap.IsTuple a its.toArray from p) (by simp;omega) fun h' eb=>⟨rfl,I.turned (t':=s.toks) (fun b o hb e=>eb b o hb e) f0 f1 f3 f4 f5⟩
 self:=fun _ _ _ _ _ st h=>wpAny_pyIter_tupleiter st h
theorem aB6 {P:Program} {w:World} {K:PySem.W.Frag} {tg:Expr} (it:Addr) (lo:Int) (n:Nat):aFA P w K tg (Itr lo n) [it] it (fun i h=>IsRangeIter h it (lo + (i:Nat) * 1) ((n:Int) - (i:Nat)) 1) where
 mem:=by simp
 obj:=fun i h st b hb=>by
  have e:b = it:=by simpa using hb
  subst e
  exact ⟨_,st,fun v z=>by
   have z':Data.fields _ = Data.cell v:=z
   cases z'⟩
 keep:=fun i h h' st k=>k it (by simp) _ st
 item:=by
  intro X hP hw hK hc i pins s σ H E I hf st hg
  subst hP hw hK
  obtain ⟨f0,f1,f2,f3,f4,f5⟩:=hf it (by simp)
  have W:=Walks.range (prog:=X.prog) (w:=X.w) (I.ok.hd hc) it lo 1 n
  refine W.item i s _ _ hg st fun v h' tk hv st' kk=>?_
  obtain ⟨t,rfl⟩:=hv
  have I1:Inv X pins σ H { s with heap:=h',toks:=tk }:=I.turned (fun b o hb e=>kk b o (by simpa using hb) e) f0 f1 f3 f4 f5
  refine ⟨_,rfl,aEP (s:={ s with heap:=h',toks:=tk }) (n:="range_iterator") st' rfl rfl (by decide) ⟨.int (lo + i),H,I1,⟨t,?_⟩,⟨rfl,rfl⟩,st',fun b hb=>(hf b hb).1⟩⟩
  rw [Int.mul_one]
 done:=by
  intro X hP hw hK hc i pins s σ H E I hf st hg
  subst hP hw hK
  obtain ⟨f0,f1,f2,f3,f4,f5⟩:=hf it (by simp)
  exact wpAny_pyNext_range_end (I.ok.hd hc) st (by have:n<=i:=hg;omega) fun h' eb=>⟨rfl,I.turned (t':=s.toks) (fun b o hb e=>eb b o hb e) f0 f1 f3 f4 f5⟩
 self:=fun _ _ _ _ _ st h=>wpAny_pyIter_rangeiter st h
end L2
namespace L2
open PySem PySem.Spec PyProof.Rows
section
variable {X:Cx} {tg:Expr}
noncomputable def aLr (K:PySem.W.Frag) (tl:TE):TI:=fun σ H R=>tl σ H fun x H1=>∃ a,x = .ref a/\(∃ xs,SqL K H1 a xs)/\R (Itl K a) H1
noncomputable def aL8 (K:PySem.W.Frag) (tl:TE):TI:=fun σ H R=>tl σ H fun x H1=>∃ a,x = .ref a/\(∃ xs,SqT K H1 a xs)/\R (Itt K a) H1
theorem tU {l:Expr} {tl:TE} (hl:PE X l tl):PI X tg l (aLr X.K tl):=by
 intro pins s σ H R I h
 refine thn (hl pins s σ H _ I h) fun v s1 ⟨x,H1,I1,r1,q1⟩=>?_
 obtain ⟨a,e,⟨xs,hq⟩,q⟩:=q1
 subst e
 cases r1
 obtain ⟨its,rv,p,hz⟩:=I1.list hq
 refine wpAny_pyIter_list p.isList ?_
 refine ⟨s1.heap.objs.size,[s1.heap.objs.size],_,_,H1,rfl,I1.kept (t':=s1.toks) fun b o e=>Heap.get?_push_of_some _ e,aDH a _,⟨_,Heap.get?_push_size _ rfl,rfl,rfl⟩,fun b hb=>?_,q⟩
 have e:b = s1.heap.objs.size:=by simpa using hb
 subst e
 exact I1.fpOk (Nat.le_refl _) (I1.hok.fresh (Nat.le_refl _))
theorem aEt {l:Expr} {tl:TE} (hl:PE X l tl):PI X tg l (aL8 X.K tl):=by
 intro pins s σ H R I h
 refine thn (hl pins s σ H _ I h) fun v s1 ⟨x,H1,I1,r1,q1⟩=>?_
 obtain ⟨a,e,⟨xs,hq⟩,q⟩:=q1
 subst e
 cases r1
 obtain ⟨its,rv,p,hz⟩:=I1.tuple hq
 refine wpAny_pyIter_tuple (show s1.heap.IsTuple a its.toArray from p) ?_
 refine ⟨s1.heap.objs.size,[s1.heap.objs.size],_,_,H1,rfl,I1.kept (t':=s1.toks) fun b o e=>Heap.get?_push_of_some _ e,aBV a _,⟨_,Heap.get?_push_size _ rfl,rfl,rfl⟩,fun b hb=>?_,q⟩
 have e:b = s1.heap.objs.size:=by simpa using hb
 subst e
 exact I1.fpOk (Nat.le_refl _) (I1.hok.fresh (Nat.le_refl _))
theorem aFM {pins:List (Addr × Obj)} {σ:St} {H:Hp} {s:Shared} {R:It->Hp->Prop} {E:Value->Shared->Prop} {lo hi:Int} {t u v:Tok} {tk:Nat} (I:Inv X pins σ H s) (h1:-(2 ^ 62)<=lo) (h2:lo < 2 ^ 62) (h3:-(2 ^ 62)<=hi) (h4:hi < 2 ^ 62)
  (q:R (Itr lo (hi - lo).toNat) H):wpAny (model X.prog X.w) X.A (pyIter (.ref s.heap.objs.size)) (PIE X pins σ tg R) E { s with heap:=s.heap.push { cls:=.type "range",data:=.fields #[.int lo t,.int hi u,.int 1 v] },toks:=tk }:=by
 refine wpAny_pyIter_range (IsRange.new ..) (small_one h1 h2 h3 h4) ?_
 have I1:Inv X pins σ H { s with heap:=s.heap.push { cls:=.type "range",data:=.fields #[.int lo t,.int hi u,.int 1 v] },toks:=tk }:=I.kept fun b o e=>Heap.get?_push_of_some _ e
 refine ⟨(s.heap.push { cls:=.type "range",data:=.fields #[.int lo t,.int hi u,.int 1 v] }).objs.size,[(s.heap.push { cls:=.type "range",data:=.fields #[.int lo t,.int hi u,.int 1 v] }).objs.size],_,_,H,rfl,
  I1.kept (t':=tk) fun b o e=>Heap.get?_push_of_some _ e,aB6 _ lo (hi - lo).toNat,?_,fun b hb=>?_,q⟩
 ·have e1:lo + ((0:Nat):Int) * 1 = lo:=by simp
  have e2:(((hi - lo).toNat:Nat):Int) - ((0:Nat):Int) = Builtin.Range.rangeSize lo hi 1:=by rw [rangeSize_one];split<;>omega
  show IsRangeIter _ _ (lo + ((0:Nat):Int) * 1) ((((hi - lo).toNat:Nat):Int) - ((0:Nat):Int)) 1
  rw [e1,e2]
  exact Heap.get?_push_size _ rfl
 ·have e:b = (s.heap.push { cls:=.type "range",data:=.fields #[.int lo t,.int hi u,.int 1 v] }).objs.size:=by simpa using hb
  subst e
  exact I1.fpOk (Nat.le_refl _) (I1.hok.fresh (Nat.le_refl _))
noncomputable def aLm (ta:TA):TI:=fun σ H R=>ta σ H fun vs H1=>∃ j:Int,vs = [.int j]/\-(2 ^ 62)<=j/\j < 2 ^ 62/\R (Itr 0 j.toNat) H1
theorem aDi {a:Expr} {ta:TA} {p pos:Pos} (hg:Gl X "range") (hm:X.mg "range" = none) (ha:PA X [a] ta) (hs:starEach [a] X.env = [(false,eval a X.env)]:=by rfl):PI X tg (.Call (.Name "range" p) [a] [] pos) (aLm ta):=by
 intro pins s σ H R I h
 refine Call_ (wA I hg hm boot_range (PyProof.Rows.callWith_type1 (thn (ha pos pins s σ H _ I h) fun us s1 ⟨vs,H1,I1,r1,q1⟩=>?_) hs rfl))
 obtain ⟨j,e,q1,q2,q⟩:=q1
 subst e
 cases r1 with
 | cons r rr =>
  cases rr
  obtain ⟨t,rfl⟩:=r
  exact call_range_1 (aFM I1 (by omega) (by omega) q1 q2 (by simpa using q))
noncomputable def aLY (wi:TI) (g:TG) (tb:TS):TS:=fun D σ H=>wi σ H fun J H1=>∃ W:Nat->Nat->St->Hp->Prop,(∃ m,W 0 m σ H1)/\∀ i m σ H,W i m σ H ->
 (J.stop i H/\D.nx σ H) ∨ (J.go i H/\∃ N:St->Hp->Prop,(∀ σ' H',N σ' H'->∃ m',m' < m/\W (i + 1) m' σ' H')/\∀ x H',J.yld i H x H'->g x σ H' fun σ2 H2=>tb { D with nx:=N,ct:=N,bk:=D.nx } σ2 H2)
noncomputable def zU (fp:List Addr) (h:Heap):List (Addr × Obj):=fp.filterMap fun b=>(h.get? b).map fun o=>(b,o)
theorem eU {fp:List Addr} {h:Heap} {b:Addr} {o:Obj} (hb:b ∈ fp) (e:h.get? b = some o):(b,o) ∈ zU fp h:=List.mem_filterMap.mpr ⟨b,hb,by rw [e];rfl⟩
theorem aDk {fp:List Addr} {h:Heap} {p:Addr × Obj} (hp:p ∈ zU fp h):p.1 ∈ fp/\h.get? p.1 = some p.2:=by
 obtain ⟨b,hb,e⟩:=List.mem_filterMap.mp hp
 cases q:h.get? b with
 | none=>rw [q] at e;cases e
 | some o =>
  rw [q] at e
  have e':(b,o) = p:=Option.some.inj e
  subst e'
  exact ⟨hb,q⟩
theorem Inv.pinned {pins:List (Addr × Obj)} {σ:St} {H:Hp} {s:Shared} {fp:List Addr} (I:Inv X pins σ H s) (hf:∀ b ∈ fp,vP X pins H b) (ho:∀ b ∈ fp,∃ o,s.heap.get? b = some o/\∀ v,o.data ≠ .cell v):Inv X (pins ++ zU fp s.heap) σ H s :=
 I.pins_of fun p hp=>(List.mem_append.mp hp).elim (fun z=>I.pin p (List.mem_append_right _ z)) fun z=>by
  obtain ⟨hb,e⟩:=aDk z
  obtain ⟨f0,f1,f2,_⟩:=hf p.1 hb
  obtain ⟨o,e',d⟩:=ho p.1 hb
  rw [e] at e';cases e'
  exact ⟨e,f0,f1,f2,d⟩
theorem Inv.unpinned {pins pl:List (Addr × Obj)} {σ:St} {H:Hp} {s:Shared} (I:Inv X (pins ++ pl) σ H s):Inv X pins σ H s:=I.pins_of fun p hp=>I.pin p (List.mem_append_right _ (List.mem_append_left _ hp))
theorem aAK {iter:Expr} {body:List Stmt} {wi:TI} {g:TG} {tb:TS} {pos:Pos} (hp:PassesOwn (model X.prog X.w) X.A X.env X.xe) (hc:X.calm = true) (hi:PI X tg iter wi) (hg:PG X tg g) (hb:PSs X body tb)
  (hs:∀ x,foldedSetIterable iter X.env x = pure x:=by intro _;rfl):PS X (.For tg iter body [] pos) (aLY wi g tb):=by
 intro pins s σ H D I h
 refine wpAny_For (thn (hi pins s σ H _ I h) fun v s1 h1=>thn h1 fun itv s2 h2=>?_) hs
 obtain ⟨it,fp,tn,J,H2,e,I2,T,st2,f2,W,⟨m0,w0⟩,turn⟩:=h2
 subst e
 have stat:∀ {H':Hp},(∀ b ∈ fp,H' b = none)->∀ b ∈ fp,vP X pins H' b:=fun hn b hb=>⟨hn b hb,(f2 b hb).2⟩
 refine codeAny_forLoop_any (fun n s'=>∃ i σ' H',Inv X pins σ' H' s'/\tn i s'.heap/\(∀ b ∈ fp,H' b = none)/\W i n σ' H') ?_ m0 ⟨0,σ,H2,I2,st2,fun b hb=>(f2 b hb).1,w0⟩
 rintro n s3 ⟨i,σ3,H3,I3,st3,fr3,w3⟩
 rcases turn i n σ3 H3 w3 with ⟨stop,qn⟩ | ⟨go,N,hN,step⟩
 ·refine wpAny_passesOwn hp (thn (T.done X rfl rfl rfl hc i pins s3 σ3 H3 X.xe I3 (stat fr3) st3 stop) fun r s4 ⟨hr,I4⟩=>?_)
  subst hr
  exact wpAny_execs_nil ⟨σ3,H3,I4,qn⟩
 ·refine wpAny_passesOwn hp (thn (T.item X rfl rfl rfl hc i pins s3 σ3 H3 X.xe I3 (stat fr3) st3 go) fun r s4 ⟨u,hr,h4⟩=>?_)
  subst hr
  refine wpAny_passesOwn hp (thn h4 fun _ s5 ⟨x,H5,I5,r5,y5,st5,fr5⟩=>?_)
  have I5':=I5.pinned (stat fr5) (T.obj _ _ st5)
  refine wpAny_passesOwn hp (thn (hg _ s5 σ3 H5 x u _ I5' r5 (step x H5 y5)) fun _ s6 ⟨σ6,H6,I6,q6⟩=>?_)
  refine wpAny_passesOwn hp (thn (hb _ s6 σ6 H6 _ I6 q6) fun f s7 q7=>?_)
  have again:∀ {σ7:St} {H7:Hp},Inv X (pins ++ zU fp s5.heap) σ7 H7 s7->N σ7 H7->∃ m,m < n/\∃ i σ' H',Inv X pins σ' H' s7/\tn i s7.heap/\(∀ b ∈ fp,H' b = none)/\W i m σ' H':=fun {σ7 H7} I7 n7=>by
   obtain ⟨m',hm,w7⟩:=hN σ7 H7 n7
   refine ⟨m',hm,i + 1,σ7,H7,I7.unpinned,T.keep _ _ _ st5 fun b hb o e=>(I7.pin (b,o) (List.mem_append_right _ (List.mem_append_right _ (eU hb e)))).1,fun b hb=>?_,w7⟩
   obtain ⟨o,e,d⟩:=T.obj _ _ st5 b hb
   exact (I7.pin (b,o) (List.mem_append_right _ (List.mem_append_right _ (eU hb e)))).2.1
  cases f with
  | next=>obtain ⟨σ7,H7,I7,n7⟩:=q7;exact again I7 n7
  | cont=>obtain ⟨σ7,H7,I7,n7⟩:=q7;exact again I7 n7
  | brk=>obtain ⟨σ7,H7,I7,q7⟩:=q7;exact ⟨σ7,H7,I7.unpinned,q7⟩
  | ret v=>obtain ⟨x7,σ7,H7,I7,r7,q7⟩:=q7;exact ⟨x7,σ7,H7,I7.unpinned,r7,q7⟩
end
end L2
namespace L2
open PySem PySem.Spec PyProof.Rows
noncomputable abbrev R2:=V->V->Hp->VK->Prop
noncomputable def OpR (X:Cx) (f:Value->Value->Sem Value) (r:R2):Prop :=
 ∀ (pins:List (Addr × Obj)) (s:Shared) (σ:St) (H:Hp) (x y:V) (v u:Value) (Q:VK),Inv X pins σ H s->bO x v->bO y u->r x y H Q ->
  wpAny (model X.prog X.w) X.A (f v u) (EP X pins σ Q) X.xe s
noncomputable def UnR (X:Cx) (f:Value->Sem Value) (r:V->Hp->VK->Prop):Prop :=
 ∀ (pins:List (Addr × Obj)) (s:Shared) (σ:St) (H:Hp) (x:V) (v:Value) (Q:VK),Inv X pins σ H s->bO x v->r x H Q ->
  wpAny (model X.prog X.w) X.A (f v) (EP X pins σ Q) X.xe s
noncomputable def kL (X:Cx) (f:Value) (r:List V->Hp->VK->Prop):Prop :=
 ∀ (pins:List (Addr × Obj)) (s:Shared) (σ:St) (H:Hp) (xs:List V) (us:List Value) (Q:VK),Inv X pins σ H s->bT xs us->r xs H Q ->
  wpAny (model X.prog X.w) X.A (call f us) (EP X pins σ Q) X.xe s
noncomputable def tOp (r:R2) (ta tb:TE):TE:=fun σ H Q=>ta σ H fun x H1=>tb σ H1 fun y H2=>r x y H2 Q
noncomputable def tUn (r:V->Hp->VK->Prop) (ta:TE):TE:=fun σ H Q=>ta σ H fun x H1=>r x H1 Q
noncomputable def rI (C:Int->Int->Prop) (g:Int->Int->V):R2:=fun x y H Q=>∃ i j,x = .int i/\y = .int j/\C i j/\Q (g i j) H
noncomputable def rI0 (g:Int->Int->V):R2:=fun x y H Q=>∃ i j,x = .int i/\y = .int j/\Q (g i j) H
noncomputable def rU (g:Int->V):V->Hp->VK->Prop:=fun x H Q=>∃ i,x = .int i/\Q (g i) H
section
variable {X:Cx} {a b c:Expr} {ta tb tc:TE} {pos:Pos}
theorem aIQ (ha:PE X a ta) (hb:PE X b tb) {pins:List (Addr × Obj)} {s:Shared} {σ:St} {H:Hp} {R:V->V->Hp->Prop} (I:Inv X pins σ H s)
  (h:ta σ H fun x H1=>tb σ H1 fun y H2=>R x y H2) {Q:Value->Shared->Prop} {f:Value->Value->Sem Value}
  (hf:∀ v u s2 x y H2,Inv X pins σ H2 s2->bO x v->bO y u->R x y H2->wpAny (model X.prog X.w) X.A (f v u) Q X.xe s2) :
  wpAny (model X.prog X.w) X.A (eval a X.env) (fun v s₁=>wpAny (model X.prog X.w) X.A (eval b X.env) (fun u s₂=>wpAny (model X.prog X.w) X.A (f v u) Q X.xe s₂) X.xe s₁) X.xe s:=by
 refine thn (ha pins s σ H _ I h) fun v s1 ⟨x,H1,I1,r1,q1⟩=>?_
 refine thn (hb pins s1 σ H1 _ I1 q1) fun u s2 ⟨y,H2,I2,r2,q2⟩=>?_
 exact hf v u s2 x y H2 I2 r1 r2 q2
theorem aLn {op:Operator} {r:R2} (ho:OpR X (binaryOp op) r) (ha:PE X a ta) (hb:PE X b tb):PE X (.BinOp a op b pos) (tOp r ta tb):=by
 intro pins s σ H Q I h
 exact wpAny_BinOp (aIQ ha hb I h fun v u s2 x y H2 I2 rx ry q=>ho pins s2 σ H2 x y v u Q I2 rx ry q)
theorem aKS {op:UnaryOp} {r:V->Hp->VK->Prop} (ho:UnR X (unaryOp op) r) (ha:PE X a ta):PE X (.UnaryOp op a pos) (tUn r ta):=by
 intro pins s σ H Q I h
 exact UnaryOp_ (thn (ha pins s σ H _ I h) fun v s1 ⟨x,H1,I1,r1,q1⟩=>ho pins s1 σ H1 x v Q I1 r1 q1)
theorem opI {f:Value->Value->Sem Value} {C:Int->Int->Prop} {g:Int->Int->Int}
  (rule:∀ (i j:Int) (t u:Tok) (s:Shared) (Q:Value->Shared->Prop) (E:Value->Shared->Prop),C i j->Q (.int (g i j) s.toks) { s with toks:=s.toks + 1 }->wpAny (model X.prog X.w) X.A (f (.int i t) (.int j u)) Q E s) :
  OpR X f (rI C fun i j=>.int (g i j)):=by
 intro pins s σ H x y v u Q I rx ry h
 obtain ⟨i,j,rfl,rfl,hc,q⟩:=h
 obtain ⟨t,rfl⟩:=rx
 obtain ⟨t',rfl⟩:=ry
 exact rule i j t t' s _ _ hc ⟨.int (g i j),H,I.tok _,⟨_,rfl⟩,q⟩
theorem aK8 {f:Value->Value->Sem Value} {g:Int->Int->Int}
  (rule:∀ (i j:Int) (t u:Tok) (s:Shared) (Q:Value->Shared->Prop) (E:Value->Shared->Prop),Q (.int (g i j) s.toks) { s with toks:=s.toks + 1 }->wpAny (model X.prog X.w) X.A (f (.int i t) (.int j u)) Q E s) :
  OpR X f (rI0 fun i j=>.int (g i j)):=by
 intro pins s σ H x y v u Q I rx ry h
 obtain ⟨i,j,rfl,rfl,q⟩:=h
 obtain ⟨t,rfl⟩:=rx
 obtain ⟨t',rfl⟩:=ry
 exact rule i j t t' s _ _ ⟨.int (g i j),H,I.tok _,⟨_,rfl⟩,q⟩
theorem aKg {f:Value->Value->Sem Value} {g:Int->Int->Bool}
  (rule:∀ (i j:Int) (t u:Tok) (s:Shared) (Q:Value->Shared->Prop) (E:Value->Shared->Prop),Q (.bool (g i j)) s->wpAny (model X.prog X.w) X.A (f (.int i t) (.int j u)) Q E s) :
  OpR X f (rI0 fun i j=>.bl (g i j)):=by
 intro pins s σ H x y v u Q I rx ry h
 obtain ⟨i,j,rfl,rfl,q⟩:=h
 obtain ⟨t,rfl⟩:=rx
 obtain ⟨t',rfl⟩:=ry
 exact rule i j t t' s _ _ ⟨.bl (g i j),H,I,rfl,q⟩
noncomputable def aKp (i j:Int):Prop:=0<=j/\j<=1000000/\i.natAbs < 2 ^ 64
theorem aIp:OpR X (binaryOp .Add) (rI0 fun i j=>.int (i + j)):=aK8 fun _ _ _ _ _ _ _ q=>add_int q
theorem aJm:OpR X (binaryOp .Sub) (rI0 fun i j=>.int (i - j)):=aK8 fun _ _ _ _ _ _ _ q=>sub_int q
theorem aGo:OpR X (binaryOp .Mod) (rI (fun _ j=>j ≠ 0) fun i j=>.int (i.fmod j)):=opI fun _ _ _ _ _ _ _ hc q=>mod_int' hc q
theorem aIR:OpR X (binaryOp .Pow) (rI aKp fun i j=>.int (i ^ j.toNat)):=opI fun _ _ _ _ _ _ _ hc q=>pow_int_small hc.1 hc.2.1 hc.2.2 q
theorem unI {f:Value->Sem Value} {g:Int->Int}
  (rule:∀ (i:Int) (t:Tok) (s:Shared) (Q:Value->Shared->Prop) (E:Value->Shared->Prop),Q (.int (g i) s.toks) { s with toks:=s.toks + 1 }->wpAny (model X.prog X.w) X.A (f (.int i t)) Q E s) :
  UnR X f (rU fun i=>.int (g i)):=by
 intro pins s σ H x v Q I rx h
 obtain ⟨i,rfl,q⟩:=h
 obtain ⟨t,rfl⟩:=rx
 exact rule i t s _ _ ⟨.int (g i),H,I.tok _,⟨_,rfl⟩,q⟩
theorem aHV:UnR X (unaryOp .USub) (rU fun i=>.int (-i)):=unI fun _ _ _ _ _ q=>neg_int q
end
section
variable {X:Cx} {a b c:Expr} {ta tb tc:TE} {pos:Pos}
theorem aK0:OpR X (compareOp .Lt) (rI0 fun i j=>.bl (decide (i < j))):=aKg fun _ _ _ _ _ _ _ q=>lt_int q
theorem aLa:OpR X (compareOp .LtE) (rI0 fun i j=>.bl (decide (i<=j))):=aKg fun _ _ _ _ _ _ _ q=>le_int q
theorem aLk:OpR X (compareOp .Gt) (rI0 fun i j=>.bl (decide (j < i))):=aKg fun _ _ _ _ _ _ _ q=>gt_int q
theorem zV (b:Expr) {op:CmpOp} (h:op ≠ .In:=by decide) (h2:op ≠ .NotIn:=by decide):behindInMarks op b = false:=by
 have e1:(op == CmpOp.In) = false:=by cases op<;>first | rfl | exact absurd rfl h
 have e2:(op == CmpOp.NotIn) = false:=by cases op<;>first | rfl | exact absurd rfl h2
 cases b<;>simp [behindInMarks,e1,e2]
theorem aGS {op:CmpOp} {r:R2} (ho:OpR X (compareOp op) r) (ha:PE X a ta) (hb:PE X b tb) (hm:behindInMarks op b = false):PE X (.Compare a [op] [b] pos) (tOp r ta tb):=by
 intro pins s σ H Q I h
 exact wpAny_Compare1 (aIQ ha hb I h fun v u s2 x y H2 I2 rx ry q=>ho pins s2 σ H2 x y v u Q I2 rx ry q) hm
noncomputable def aLH (t:TE):TT:=fun σ H Q=>t σ H fun x H'=>∃ k,x = .bl k/\Q k H'
theorem aGB {op:CmpOp} {r:R2} (ho:OpR X (compareOp op) r) (ha:PE X a ta) (hb:PE X b tb) (hm:behindInMarks op b = false):PT X (.Compare a [op] [b] pos) (aLH (tOp r ta tb)):=by
 intro pins s σ H Q I h
 refine wpAny_isTrue_Compare1 (thn (ha pins s σ H _ I h) fun v s1 ⟨x,H1,I1,r1,q1⟩=>thn (hb pins s1 σ H1 _ I1 q1) fun u s2 ⟨y,H2,I2,r2,q2⟩ =>
  thn (ho pins s2 σ H2 x y v u _ I2 r1 r2 q2) fun c s3 ⟨z,H3,I3,r3,k,e,q3⟩=>?_) hm
 subst e
 cases r3
 exact wpAny_truthy_bool ⟨H3,I3,q3⟩
theorem aB3:(sizeLine:Nat) < 2 ^ 63:=by rw [sizeLine_eq];decide
theorem yW {x:V} {us:List Value} (r:bT [x] us):∃ u,us = [u]/\bO x u:=by
 cases r with
 | cons r1 r2=>cases r2;exact ⟨_,rfl,r1⟩
theorem aHB {x y:V} {us:List Value} (r:bT [x,y] us):∃ u w',us = [u,w']/\bO x u/\bO y w':=by
 cases r with
 | cons r1 r2 =>
  cases r2 with
  | cons r3 r4=>cases r4;exact ⟨_,_,rfl,r1,r3⟩
theorem aFf:kL X (.builtin "abs") (fun xs H Q=>∃ i,xs = [.int i]/\Q (.int (if i < 0 then -i else i)) H):=by
 intro pins s σ H xs us Q I r h
 obtain ⟨i,rfl,q⟩:=h
 obtain ⟨u,rfl,t,rfl⟩:=yW r
 exact call_abs_int fun u tk=>⟨.int (if i < 0 then -i else i),H,I.tok _,⟨_,rfl⟩,q⟩
theorem aDj (hc:X.calm = true):kL X (.builtin "min") (fun xs H Q=>∃ i j,xs = [.int i,.int j]/\Q (.int (if j < i then j else i)) H):=by
 intro pins s σ H xs us Q I r h
 obtain ⟨i,j,rfl,q⟩:=h
 obtain ⟨u,w',rfl,⟨t,rfl⟩,⟨t',rfl⟩⟩:=aHB r
 refine min_two_ints (I.ok.hd hc) fun h' tk k=>⟨_,H,I.kept k,?_,q⟩
 by_cases hj:j < i
 ·rw [if_pos hj,if_pos hj];exact ⟨_,rfl⟩
 ·rw [if_neg hj,if_neg hj];exact ⟨_,rfl⟩
theorem aDL:kL X (.type "int") (fun xs H Q=>(∃ i,xs = [.int i]/\Q (.int i) H) ∨ ∃ k,xs = [.bl k]/\Q (.int (if k then 1 else 0)) H):=by
 intro pins s σ H xs us Q I r h
 rcases h with ⟨i,rfl,q⟩ | ⟨k,rfl,q⟩
 ·obtain ⟨u,rfl,t,rfl⟩:=yW r
  exact call_int_int ⟨.int i,H,I,⟨_,rfl⟩,q⟩
 ·obtain ⟨u,rfl,r1⟩:=yW r
  cases r1
  exact call_int_bool ⟨.int (if k then 1 else 0),H,I.tok _,⟨_,rfl⟩,q⟩
end
end L2
namespace L2
open PySem PySem.Spec PyProof.Rows
structure aIB (h:Heap) (x dx C:Addr) (mA:Str->Option Value):Prop where
 obj:h.get? x = some (PySem.W.instObj C dx)
 ns:h.Ns1 dx mA
 ne:dx ≠ x
theorem aDK {h:Heap} {dx:Addr} {mA:Str->Option Value} (n:h.Ns1 dx mA):∃ od,h.get? dx = some od/\∀ name,PySem.W.lookIn name od = some (mA name):=by
 obtain ⟨o,es,ep,ho,hd,hk,_,hm⟩:=n
 refine ⟨o,ho,fun name=>?_⟩
 have e:=hm name
 unfold nsFind findBy at e
 rw [<- Array.find?_toList] at e
 unfold PySem.W.lookIn
 rw [hd]
 dsimp only
 split
 ·rename_i y q
  rw [q] at e
  exact congrArg some e
 ·rename_i q
  rw [q] at e
  have a:es.toList.any (·.refKey) = false:=by
   rw [List.any_eq_false]
   intro y hy
   obtain ⟨z,t,hkey⟩:=hk y (Array.mem_toList_iff.mp hy)
   simp [DictEntry.refKey,hkey]
  have a':¬ es.toList.any (·.refKey) = true:=by rw [a];exact Bool.false_ne_true
  rw [if_neg a']
  exact congrArg some e
theorem aIB.look {h:Heap} {x dx C:Addr} {mA:Str->Option Value} (I:aIB h x dx C mA):∃ od,PySem.W.InstAt h x (PySem.W.instObj C dx) C (some od)/\∀ name,PySem.W.lookIn name od = some (mA name) :=
 let ⟨od,ho,hl⟩:=aDK I.ns
 ⟨od,⟨I.obj,rfl,rfl,ho⟩,hl⟩
section
variable {prog:Program} {w:World} {A:Around} {E:Value->Shared->Prop} {s:Shared} {K:PySem.W.Frag} {x dx C f:Addr} {mA:Str->Option Value} {name:Str} {v:Value}
end
section
variable {P:Program} {w:World} {H H':Hp} {h h':Heap} {a C dx:Addr} {fs fs':List (Str × V)}
theorem aHc (hok:HOk P w H h) (e:H a = some (.ins C dx fs)):∃ mA,aIB h a dx C mA/\(∀ f,aJI (fs.lookup f) (mA f))/\PySem.Within mA (fs.map (·.1))/\fs.length<=1000/\H dx = some (.own a):=by
 obtain ⟨d,z,ne,ob,mA,n,r,q⟩:=(show eN P w H h a (.ins C dx fs) from hok a _ e)
 exact ⟨mA,⟨ob,n,ne⟩,r,q,z,d⟩
end
structure Cls (K:PySem.W.Frag) (C:Addr):Prop where
 pg:PySem.W.plainGet K C Str.empty = true
 hd:PySem.W.hasDictIn K C = true
 po:PySem.W.plainOver K C = true
 sa:PySem.W.findIn K (.ref C) "__setattr__" = some (some (.builtin "object.__setattr__"))
theorem Cls.get {K:PySem.W.Frag} {C:Addr} (c:Cls K C) (f:Str):PySem.W.plainGet K C f = true:=c.pg
section
variable {X:Cx} {pins:List (Addr × Obj)} {σ:St} {H:Hp} {s:Shared} {a C dx:Addr} {fs:List (Str × V)} {f:Str} {v:V} {A:Around} {E:Value->Shared->Prop}
end
section
variable {X:Cx} {o e value:Expr} {f:Str} {pos pos' tpos:Pos} {ta tv:TE}
end
section
variable {X:Cx} {pins:List (Addr × Obj)} {σ:St} {H:Hp} {s:Shared} {A:Around} {E:Value->Shared->Prop} {Q:Value->Shared->Prop} {c:Value} {b:Bool}
inductive tM (K:PySem.W.Frag) (H:Hp):V->Value->Prop where
 | non:tM K H .non (.type "NoneType")
 | bl (x:Bool):tM K H (.bl x) (.type "bool")
 | int (i:Int):tM K H (.int i) (.type "int")
 | str (x:Str):tM K H (.str x) (.type "str")
 | flt (x:UInt64):tM K H (.flt x) (.type "float")
 | lst {a:Addr} {xs:List V} (e:H a = some (.lst xs)):tM K H (.ref a) (.type "list")
 | frz {a:Addr} {o:Obj} {xs:List V} (e:H a = some (.frz o (.lst xs))):tM K H (.ref a) (.type "list")
 | tup {a:Addr} {xs:List V} (e:H a = some (.tup xs)):tM K H (.ref a) (.type "tuple")
 | dK {a:Addr} {kvs:List (Key × V)} (e:H a = some (.dK kvs)):tM K H (.ref a) (.type "dict")
 | dT {a:Addr} {kvs:List (List Key × V)} (e:H a = some (.dT kvs)):tM K H (.ref a) (.type "dict")
 | ins {a C dx:Addr} {fs:List (Str × V)} (e:H a = some (.ins C dx fs)) (cl:Cls K C) (ha:PySem.W.findIn K (.ref C) "__class__" = some (some (.builtin "object.__class__")))
   (hn:PySem.W.specialIn K (.builtin "object.__class__") "__get__" = some (some (.builtin "getset_descriptor.__get__"))) (htk:PySem.W.takesIn K (.builtin "object.__class__") = some true)
   (hm:PySem.W.mroIn K C (.type "object") = some true):tM K H (.ref a) (.ref C)
theorem kO {x:V} {u t:Value} (I:Inv X pins σ H s) (rx:bO x u) (ty:tM X.K H x t) (e:PySem.W.kitOne X.K t c = some b) (h:∀ tk,Q (.bool b) { s with toks:=tk }) :
  wpAny (model X.prog X.w) A (call (.builtin "isinstance") [u,c]) Q E s:=by
 cases ty with
 | non=>cases (show u = Value.none from rx);exact PySem.W.kia_one PySem.W.kitx_none I.kIn True.intro e (fun z=>nomatch z) h
 | bl y=>cases (show u = Value.bool y from rx);exact PySem.W.kia_one PySem.W.kitx_bool I.kIn True.intro e (fun z=>nomatch z) h
 | int i=>obtain ⟨t,q⟩:=(show ∃ t,u = Value.int i t from rx);cases q;exact PySem.W.kia_one PySem.W.kitx_int I.kIn True.intro e (fun z=>nomatch z) h
 | str y=>obtain ⟨t,q⟩:=(show ∃ t,u = Value.str y t from rx);cases q;exact PySem.W.kia_one PySem.W.kitx_str I.kIn True.intro e (fun z=>nomatch z) h
 | flt y=>obtain ⟨t,q⟩:=(show ∃ t,u = Value.float y t from rx);cases q;exact PySem.W.kia_one PySem.W.kitx_float I.kIn True.intro e (fun z=>nomatch z) h
 | @lst a xs ea =>
  cases (show u = Value.ref a from rx)
  obtain ⟨_,_,n,_,h1⟩:=(show eN X.prog X.w H s.heap a (.lst xs) from I.hok a _ ea)
  exact PySem.W.kia_one PySem.W.kitx_list I.kIn ⟨_,h1,rfl⟩ e (fun z=>nomatch z) h
 | @frz a ob xs ea =>
  cases (show u = Value.ref a from rx)
  obtain ⟨_,_,_,n,_,h1⟩:=(show eN X.prog X.w H s.heap a (.frz ob (.lst xs)) from I.hok a _ ea)
  exact PySem.W.kia_one PySem.W.kitx_list I.kIn ⟨_,h1,rfl⟩ e (fun z=>nomatch z) h
 | @tup a xs ea =>
  cases (show u = Value.ref a from rx)
  obtain ⟨_,_,_,p⟩:=(show eN X.prog X.w H s.heap a (.tup xs) from I.hok a _ ea)
  obtain ⟨o,h1,h2,_⟩:=p
  exact PySem.W.kia_one PySem.W.kitx_tuple I.kIn ⟨o,h1,h2⟩ e (fun z=>nomatch z) h
 | @dK a kvs ea =>
  cases (show u = Value.ref a from rx)
  obtain ⟨_,_,vs,_,p⟩:=(show eN X.prog X.w H s.heap a (.dK kvs) from I.hok a _ ea)
  obtain ⟨o,es,ep,h1,h2,_⟩:=p
  exact PySem.W.kia_one PySem.W.kitx_dict I.kIn ⟨o,h1,h2.1⟩ e (fun z=>nomatch z) h
 | @dT a kvs ea =>
  cases (show u = Value.ref a from rx)
  obtain ⟨_,_,xs,_,o,es,ep,h1,h2,_⟩:=(show eN X.prog X.w H s.heap a (.dT kvs) from I.hok a _ ea)
  exact PySem.W.kia_one PySem.W.kitx_dict I.kIn ⟨o,h1,h2.1⟩ e (fun z=>nomatch z) h
 | @ins a C dx fs ea cl ha hn htk hm =>
  cases (show u = Value.ref a from rx)
  obtain ⟨mA,O,_⟩:=aHc I.hok ea
  obtain ⟨od,J,_⟩:=O.look
  exact PySem.W.kia_one (PySem.W.kitx_own (cl.get _) cl.hd ha hn htk hm) I.kIn J e (fun z=>nomatch z) h
end
end L2
namespace L2
open PySem PySem.Spec PyProof.Rows
structure eB (k:Nat) (A:Around):Prop where
 hd:A.handled = none
 dp:A.depth + 3 * k + 5 < recursionLimit
 un:A.units + 16 * k + 200 < cLine
theorem eB.mono {j k:Nat} {A:Around} (r:eB k A) (h:j<=k):eB j A:=⟨r.hd,by have:=r.dp;omega,by have:=r.un;omega⟩
theorem eB.deeper {k:Nat} {A:Around} (r:eB (k + 1) A) (env:Env):eB k (A.deeper env) :=
 ⟨r.hd,by have:=r.dp;show A.depth + 1 + 3 * k + 5 < _;omega,by have:=r.un;show A.units + 3 + 16 * k + 200 < _;omega⟩
theorem eB.depth {k:Nat} {A:Around} (r:eB k A):A.depth < recursionLimit:=by have:=r.dp;omega
noncomputable def aLb:TA:=fun _ H Q=>Q [] H
noncomputable def aKQ (ta:TE) (tr:TA):TA:=fun σ H Q=>ta σ H fun x H1=>tr σ H1 fun xs H2=>Q (x :: xs) H2
section
variable {X:Cx} {e:Expr} {es:List Expr} {te:TE} {t:TA} {pos:Pos}
theorem aAi:PA X [] aLb:=fun _ _ _ _ H Q I h=>Calls.spliced_nil ⟨[],H,I,.nil,h⟩
theorem lI (ha:PE X e te) (hr:PA X es t) (hs:starEach (e :: es) X.env = (false,eval e X.env) :: starEach es X.env:=by rfl):PA X (e :: es) (aKQ te t):=by
 intro pos pins s σ H Q I h
 rw [hs]
 show wpAny _ _ (spliced ((false,eval e X.env) :: backTo pos (starEach es X.env))) _ _ s
 refine Calls.spliced_cons (thn (ha pins s σ H _ I h) fun u s1 ⟨x,H1,I1,r1,q1⟩=>?_)
 exact thn (hr pos pins s1 σ H1 _ I1 q1) fun us s2 ⟨xs,H2,I2,r2,q2⟩=>⟨x :: xs,H2,I2,.cons r1 r2,q2⟩
noncomputable def aMt (t:TA):TE:=fun σ H Q=>t σ H fun xs H1=>xs.length<=sizeLine/\∀ p,H1 p = none->Q (.ref p) (upd H1 p (.tup xs))
noncomputable def aMd (t:TA):TE:=fun σ H Q=>t σ H fun xs H1=>xs.length<=sizeLine/\∀ p,H1 p = none->Q (.ref p) (upd H1 p (.lst xs))
theorem aI4 {x1} (h:PA X es t):PE X (.Tuple es x1 pos) (aMt t):=by
 intro pins s σ H Q I hq
 refine wpAny_Tuple_spliced (thn (h pos pins s σ H _ I hq) fun us s1 ⟨xs,H1,I1,r,z,q⟩=>⟨by rw [<- r.length];exact z,?_⟩)
 have hf:H1 s1.heap.objs.size = none:=I1.hok.fresh (Nat.le_refl _)
 refine ⟨.ref s1.heap.objs.size,upd H1 s1.heap.objs.size (.tup xs),I1.laid (t':=s1.toks) (fun b u e=>Heap.get?_push_of_some _ e) (Nat.le_refl _) ?_,rfl,q _ hf⟩
 exact ⟨z,us,r,⟨_,Heap.get?_push_size _ rfl,rfl,_,rfl⟩⟩
theorem aIM (h:PA X es t):PE X (.List es pos) (aMd t):=by
 intro pins s σ H Q I hq
 refine wpAny_List_spliced (thn (h pos pins s σ H _ I hq) fun us s1 ⟨xs,H1,I1,r,z,q⟩=>⟨by rw [<- r.length];exact z,?_⟩)
 have hf:H1 s1.heap.objs.size = none:=I1.hok.fresh (Nat.le_refl _)
 refine ⟨.ref s1.heap.objs.size,upd H1 s1.heap.objs.size (.lst xs),I1.laid (t':=s1.toks) (fun b u e=>Heap.get?_push_of_some _ e) (Nat.le_refl _) ?_,rfl,q _ hf⟩
 exact ⟨z,us,0,r,Heap.get?_push_size _ rfl⟩
end
noncomputable abbrev Sp:=List V->Hp->VK->XK->Prop
noncomputable abbrev CXT:=List Env->Hp->Shared->XK->Value->Shared->Prop
structure aGR (P:Program) (w:World) (K:PySem.W.Frag) (mg:Str->Option Value) (base:Heap) (A:Around) (outer:List Env) (s:Shared) (H:Hp):Prop where
 frames:A.frames = some outer
 mod:Mod K mg base
 bs:∀ b o,base.get? b = some o->s.heap.get? b = some o/\H b = none
 bsz:base.objs.size<=s.heap.objs.size
 funs:s.heap.FunFrames base outer
 frf:∀ b ∈ frs outer,H b = none
 hok:HOk P w H s.heap
 bare:AllBare s.gens
noncomputable def CE (outer:List Env) (P:Program) (w:World) (H:Hp) (s:Shared) (Q:VK) (u:Value) (s':Shared):Prop :=
 ∃ v H',s'.os = s.os/\AllBare s'.gens/\Un (frs outer) [] H H' s.heap s'.heap/\HOk P w H' s'.heap/\bO v u/\Q v H'
noncomputable def CR (CX:CXT) (outer:List Env) (P:Program) (w:World) (H:Hp) (s:Shared) (Q:VK) (E:XK) (r:Result) (s':Shared):Prop :=
 match r with
 | .ok (.ret u)=>CE outer P w H s Q u s'
 | .ok _=>False
 | .error e=>CX outer H s E e s'
structure jH (P:Program) (w:World) (K:PySem.W.Frag) (mg:Str->Option Value) (base:Heap) (CX:CXT) (k:Nat) (f:Addr) (fd:FuncData) (ps:List Str) (sp:Sp):Prop where
 len:∀ vs H Q E,sp vs H Q E->vs.length = ps.length
 run:∀ (A:Around) (outer:List Env) (s:Shared) (H:Hp) (args:Args) (us:List Value) (vs:List V) (Q:VK) (E:XK),eB k A->aGR P w K mg base A outer s H->BindsTo s fd args (ps.zip us)->bT vs us->sp vs H Q E ->
  codeAny (model P w) A (.call (.ref f) args) (CR CX outer P w H s Q E) s
theorem jH.mono {P:Program} {w:World} {K:PySem.W.Frag} {mg:Str->Option Value} {base:Heap} {CX:CXT} {j k:Nat} {f:Addr} {fd:FuncData} {ps:List Str} {sp:Sp} (F:jH P w K mg base CX j f fd ps sp) (h:j<=k) :
  jH P w K mg base CX k f fd ps sp:=⟨F.len,fun A outer s H args us vs Q E hr=>F.run A outer s H args us vs Q E (hr.mono h)⟩
theorem jH.imp {P:Program} {w:World} {K:PySem.W.Frag} {mg:Str->Option Value} {base:Heap} {CX:CXT} {k:Nat} {f:Addr} {fd:FuncData} {ps:List Str} {sp sp':Sp} (F:jH P w K mg base CX k f fd ps sp)
  (h:∀ vs H Q E,sp' vs H Q E->sp vs H Q E):jH P w K mg base CX k f fd ps sp' :=
 ⟨fun vs H Q E q=>F.len vs H Q E (h _ _ _ _ q),fun A outer s H args us vs Q E hr he hb hv hs=>F.run A outer s H args us vs Q E hr he hb hv (h _ _ _ _ hs)⟩
section
variable {X:Cx} {pins:List (Addr × Obj)} {σ:St} {H:Hp} {s s':Shared}
theorem Inv.env0 (I:Inv X pins σ H s):aGR X.prog X.w X.K X.mg X.base X.A X.stack s H :=
 ⟨I.ok.frames,I.ok.mod,I.bs,Nat.le_trans I.ok.bsz I.sz,I.stack,I.stkFree,I.hok,I.bare⟩
theorem Inv.after {Q:VK} {u:Value} (I:Inv X pins σ H s) (h:CE X.stack X.prog X.w H s Q u s'):EP X pins σ Q u s':=by
 obtain ⟨v,H',os,bare,un,hok,r,q⟩:=h
 obtain ⟨hh,g,d,t,os'⟩:=s'
 obtain rfl:os' = s.os:=os
 exact ⟨v,H',I.call (h':=hh) (g':=g) (d':=d) (t':=t) (ch:=[]) un hok bare (fun b z=>absurd z (by simp)),r,q⟩
end
noncomputable def aHJ (sp:Sp) (dvs:List V) (E:XK) (t:TA):TE:=fun σ H Q=>t σ H fun vs H1=>sp (vs ++ dvs) H1 Q E
noncomputable def nA (K:PySem.W.Frag) (fd:FuncData) (ps:List Str) (ds:List Value):Prop :=
 ∀ (s:Shared) (us:List Value),K.In s.heap->(us ++ ds).length = ps.length->BindsTo s fd ⟨us,[]⟩ (ps.zip (us ++ ds))
theorem nA.all {K:PySem.W.Frag} {fd:FuncData} {ps:List Str} (h:∀ us:List Value,us.length = ps.length->bindArgs fd ⟨us,[]⟩ = pure (ps.zip us)):nA K fd ps []:=fun s us _ hl=>by
 rw [List.append_nil] at hl ⊢
 exact .of_eq (h us hl)
noncomputable def sP (CX:CXT) (X:Cx) (E:XK):Prop:=∀ (pins:List (Addr × Obj)) (σ:St) (H:Hp) (s:Shared) (e:Value) (s':Shared),Inv X pins σ H s->CX X.stack H s E e s'->X.xe e s'
section
variable {X:Cx} {CX:CXT} {k:Nat} {f C:Addr} {fd:FuncData} {ps:List Str} {sp:Sp} {dvs:List V} {ds:List Value} {E:XK} {x m:Str} {p pos apos:Pos} {e o:Expr} {es:List Expr} {ta:TE} {t:TA}
theorem aBI {pins:List (Addr × Obj)} {σ:St} {H:Hp} {s:Shared} {Q:VK} {us:List Value} {vs:List V} (F:jH X.prog X.w X.K X.mg X.base CX k f fd ps sp) (hr:eB k X.A) (hb:nA X.K fd ps ds) (hd:bT dvs ds) (hx:sP CX X E)
  (I:Inv X pins σ H s) (r:bT vs us) (h:sp (vs ++ dvs) H Q E):wpAny (model X.prog X.w) X.A (call (.ref f) us) (EP X pins σ Q) X.xe s:=by
 have r2:bT (vs ++ dvs) (us ++ ds):=r.append hd
 have hl:(us ++ ds).length = ps.length:=by rw [<- r2.length];exact F.len _ _ _ _ h
 refine wpAny_call (codeAny_mono (F.run X.A X.stack s H ⟨us,[]⟩ (us ++ ds) (vs ++ dvs) Q E hr I.env0 (hb s us I.kIn hl) r2 h) fun r s' hq=>?_)
 cases r with
 | error e=>exact hx pins σ H s e s' I hq
 | ok fl =>
  cases fl with
  | ret u=>exact I.after hq
  | next=>exact False.elim hq
  | brk=>exact False.elim hq
  | cont=>exact False.elim hq
theorem aGt (F:jH X.prog X.w X.K X.mg X.base CX k f fd ps sp) (hr:eB k X.A) (hg:Gl X x) (hm:X.mg x = some (.ref f)) (hk:PySem.W.keepIn X.K (.ref f) = true) (hb:nA X.K fd ps ds) (hd:bT dvs ds) (hx:sP CX X E)
  (ha:PA X (e :: es) t) (hdb:(x == ("__debug__":Str)) = false:=by decide) (he:starEach (e :: es) X.env = (false,eval e X.env) :: starEach es X.env:=by rfl) (hpl:(backTo pos (starEach es X.env)).any (·.1) = false:=by rfl) :
  PE X (.Call (.Name x p) (e :: es) [] pos) (aHJ sp dvs E t):=by
 intro pins s σ H Q I h
 refine wpAny_Call_Name_kw (jL I hg hm ?_ hdb)
 refine PySem.W.callWith_K (h₀:=X.base) I.ok.mod.kin hk (thn (ha pos pins s σ H _ I h) fun us s1 ⟨vs,H1,I1,r,q⟩=>⟨I1.kIn,?_⟩) he hpl
 exact aBI F hr hb hd hx I1 r q
theorem aD9 (F:jH X.prog X.w X.K X.mg X.base CX k f fd ps sp) (hr:eB k X.A) (hg:Gl X x) (hm:X.mg x = some (.ref f)) (hk:PySem.W.keepIn X.K (.ref f) = true) (hb:nA X.K fd ps ds) (hd:bT dvs ds) (hx:sP CX X E)
  (hdb:(x == ("__debug__":Str)) = false:=by decide):PE X (.Call (.Name x p) [] [] pos) (aHJ sp dvs E aLb):=by
 intro pins s σ H Q I h
 refine wpAny_Call_Name_kw (jL I hg hm ?_ hdb)
 exact PySem.W.callWith_K0 I.kIn hk (aBI (us:=[]) F hr hb hd hx I .nil h)
end
section
variable {X:Cx} {CX:CXT} {k:Nat} {f C:Addr} {fd:FuncData} {ps ks:List Str} {sp:Sp} {E:XK} {x m:Str} {p pos apos kpos:Pos} {e o:Expr} {es:List Expr} {kws:List Keyword} {te ta:TE} {t tk:TA} {nm:Option Str}
variable {g:List Value->List Value->List Value} {gV:List V->List V->List V}
end
structure aS (N P:List Str) (sc:Scope):Prop where
 kind:sc.kind = .function
 co:sc.isCoroutine = false
 gen:sc.isGenerator = false
 nd:N.Nodup
 pre:N.take P.length = P
 par:∀ x ∈ P,sc.names.lookup x = some .local ∨ sc.names.lookup x = some .cell
 nofree:∀ y ∈ sc.names,y.2 ≠ .free
theorem zA {kindOf:Str->Option NameKind} {x:Str}:∀ {binds:List (Str × Value)} {m:Str->Option Value},(∀ v,(x,v) ∉ binds)->bindL kindOf binds m x = m x
 | [],_,_=>rfl
 | (n,v) :: r,m,h=>by
  unfold bindL
  rw [zA fun w hw=>h w (List.mem_cons_of_mem _ hw)]
  split
  ·have:x ≠ n:=by rintro rfl;exact h v List.mem_cons_self
   simp [this]
  ·rfl
theorem yU {kindOf:Str->Option NameKind} {x:Str}:∀ {binds:List (Str × Value)} {m:Str->Option Value},(∀ v,(x,v) ∉ binds)->bindC kindOf binds m x = m x
 | [],_,_=>rfl
 | (n,v) :: r,m,h=>by
  unfold bindC
  rw [yU fun w hw=>h w (List.mem_cons_of_mem _ hw)]
  split
  ·rfl
  ·have:x ≠ n:=by rintro rfl;exact h v List.mem_cons_self
   simp [this]
theorem yM {kindOf:Str->Option NameKind} {x:Str} {v:Value}:∀ {P:List Str} {vs:List Value} {i:Nat} {m:Str->Option Value},P.Nodup->P[i]? = some x->vs[i]? = some v->kindOf x = some .local ->
  bindL kindOf (P.zip vs) m x = some v
 | [],_,_,_,_,h,_,_=>by simp at h
 | _ :: _,[],_,_,_,_,h,_=>by simp at h
 | p :: P,w :: vs,0,m,nd,h1,h2,hk=>by
  simp at h1 h2;subst h1;subst h2
  show bindL kindOf ((p,w) :: P.zip vs) m p = _
  unfold bindL
  rw [zA fun v hv=>(List.nodup_cons.mp nd).1 (List.of_mem_zip hv).1,if_pos hk]
  simp
 | p :: P,w :: vs,i + 1,m,nd,h1,h2,hk=>by
  show bindL kindOf ((p,w) :: P.zip vs) m x = _
  unfold bindL
  exact yM (i:=i) (List.nodup_cons.mp nd).2 (by simpa using h1) (by simpa using h2) hk
theorem yP {kindOf:Str->Option NameKind} {x:Str} {v:Value}:∀ {P:List Str} {vs:List Value} {i:Nat} {m:Str->Option Value},P.Nodup->P[i]? = some x->vs[i]? = some v->kindOf x ≠ some .local ->
  bindC kindOf (P.zip vs) m x = some v
 | [],_,_,_,_,h,_,_=>by simp at h
 | _ :: _,[],_,_,_,_,h,_=>by simp at h
 | p :: P,w :: vs,0,m,nd,h1,h2,hk=>by
  simp at h1 h2;subst h1;subst h2
  show bindC kindOf ((p,w) :: P.zip vs) m p = _
  unfold bindC
  rw [yU fun v hv=>(List.nodup_cons.mp nd).1 (List.of_mem_zip hv).1,if_neg hk]
  simp
 | p :: P,w :: vs,i + 1,m,nd,h1,h2,hk=>by
  show bindC kindOf ((p,w) :: P.zip vs) m x = _
  unfold bindC
  exact yP (i:=i) (List.nodup_cons.mp nd).2 (by simpa using h1) (by simpa using h2) hk
noncomputable def start (N:List Str) (vs:List V):St:=vs.map some ++ List.replicate (N.length - vs.length) none
noncomputable def kA (CX:CXT) (P:Program) (w:World) (K:PySem.W.Frag) (mg:Str->Option Value) (base:Heap) (N:List Str) (qual:Str) (scope:Scope) (f:Addr) (cd:Value) (A:Around) (outer:List Env) (s:Shared) (H:Hp) (E:XK):Cx where
 prog:=P
 w:=w
 K:=K
 mg:=mg
 base:=base
 A:=A.deeper (envOfC qual scope s.heap.objs.size f cd)
 N:=N
 s₀:=s
 H₀:=H
 env:=envOfC qual scope s.heap.objs.size f cd
 outer:=outer
 stack:=envOfC qual scope s.heap.objs.size f cd :: outer
 ex:=[]
 calm:=true
 fn:=fun _=>true
 pn:=[]
 xe:=fun e s'=>wpAny (model P w) (A.deeper (envOfC qual scope s.heap.objs.size f cd)) (leaving (envOfC qual scope s.heap.objs.size f cd) e) (fun _ s''=>CX outer H s E e s'') (fun e' s''=>CX outer H s E e' s'') s'
theorem aA8 {sc:Scope} {n:Nat} {x:Str} (h:sc.names.lookup x = some .cell):∃ c,(cellsFrom n sc.names []).lookup x = some c:=by
 have q:=PySem.W.cellsFrom_some sc.names n [] (.inl h)
 exact Option.isSome_iff_exists.mp q
theorem aDz {CX:CXT} {P:Program} {w:World} {K:PySem.W.Frag} {mg:Str->Option Value} {base:Heap} {N ps:List Str} {qual:Str} {scope:Scope} {f:Addr} {cd:Value} {A:Around} {outer:List Env} {s s1:Shared} {H:Hp} {E:XK} {us:List Value} {vs:List V}
  (S:aS N ps scope) (hd:A.handled = none) (e0:aGR P w K mg base A outer s H) (hl:vs.length = ps.length) (r:bT vs us)
  (x:InCallC s s.heap.objs.size (bindL (envOfC qual scope s.heap.objs.size f cd).kindOf (ps.zip us) fun _=>none) (cellsFrom (s.heap.objs.size + 1) scope.names []) (bindC (envOfC qual scope s.heap.objs.size f cd).kindOf (ps.zip us) fun _=>none) s1) :
  Inv (kA CX P w K mg base N qual scope f cd A outer s H E) [] (start N vs) H s1:=by
 have hpl:ps.length<=N.length:=by have:=congrArg List.length S.pre;rw [List.length_take] at this;omega
 obtain ⟨h1,tk,rfl,hk⟩:=x.done
 have noA:∀ b:Addr,b ∉ (kA CX P w K mg base N qual scope f cd A outer s H E).ex:=fun b z=>absurd (show b ∈ ([]:List Addr) from z) (by simp)
 refine ⟨⟨e0.mod,S.kind,rfl,rfl,Nat.le_refl _,fun y z c h1 h2=>?_,fun y hy=>?_,fun y c _ h=>?_,fun _=>hd,Around.frames_deeper e0.frames,.inr ⟨rfl,rfl⟩,fun b z=>absurd z (noA b),e0.bs,e0.bsz,fun b _ _=>noA b,fun b z=>absurd z (noA b),e0.funs,e0.frf⟩,
  rfl,e0.bare,Un.kept hk,⟨_,x.toInCall.ns,fun i y v h1 h2 h3=>?_⟩,fun y c h=>⟨_,x.cell y c h⟩,e0.hok.fresh (Nat.le_refl _),fun y c h=>?_,fun p hp=>absurd (show p ∈ ([]:List (Addr × Obj)) from hp) (by simp),e0.hok.kept hk,?_⟩
 ·exact name_of_addr x.apart (PySem.mem_of_lookup h1) (PySem.mem_of_lookup h2)
 ·have hy:scope.names.lookup y = some .cell ∨ scope.names.lookup y = some .free:=hy
  rcases hy with hy | hy
  ·exact aA8 hy
  ·exact absurd rfl (S.nofree _ (PySem.mem_of_lookup hy))
 ·exact Nat.le_of_lt (x.above y c (PySem.mem_of_lookup h))
 ·have hi:i < vs.length:=by
   unfold start at h2
   by_cases hi:i < vs.length
   ·exact hi
   ·rw [List.getElem?_append_right (by simpa using hi)] at h2
    rw [List.getElem?_replicate] at h2
    split at h2<;>cases h2
  have ha:vs[i]? = some v:=by
   unfold start at h2
   rw [List.getElem?_append_left (by simpa using hi),List.getElem?_map] at h2
   cases e:vs[i]? with
   | none=>rw [e] at h2;cases h2
   | some a=>rw [e] at h2;cases h2;rfl
  obtain ⟨u,hu,rv⟩:=r.get ha
  have hp:ps[i]? = some y:=by
   rw [<- S.pre,List.getElem?_take_of_lt (by omega)];exact h1
  have ndP:ps.Nodup:=by rw [<- S.pre];exact S.nd.sublist (List.take_sublist _ _)
  refine ⟨u,rv,?_⟩
  rcases S.par y (List.mem_of_getElem? hp) with k | k
  ·exact .inl ⟨k,yM ndP hp hu k⟩
  ·obtain ⟨c,e⟩:=aA8 (n:=s.heap.objs.size + 1) k
   refine .inr ⟨.inl k,c,e,?_⟩
   have q:=x.cell y c e
   rw [yP ndP hp hu (by show scope.names.lookup y ≠ _;rw [k];decide)] at q
   exact q
 ·exact e0.hok.fresh (Nat.le_of_lt (x.above y c (PySem.mem_of_lookup h)))
 ·unfold start
  show _ = N.length
  rw [List.length_append,List.length_map,List.length_replicate]
  omega
theorem aE1 {CX:CXT} {P:Program} {w:World} {K:PySem.W.Frag} {mg:Str->Option Value} {base:Heap} {k:Nat} {f:Addr} {name qual:Str} {params:Arguments} {body:List Stmt} {scope:Scope} {dV kV doc pm cdv ct oc:Value} {an od:Option Addr}
  {osl:Array (Option Value)} {N ps:List Str} {sp:Sp} (lk:K.lookup f = some ⟨oc,od,.func (PySem.W.fnOf name qual params body scope dV kV doc pm an cdv ct),osl⟩) (hcd:PySem.W.codeIn K cdv qual = true) (S:aS N ps scope)
  (len:∀ vs H Q E,sp vs H Q E->vs.length = ps.length)
  (hbody:∀ (A:Around) (outer:List Env) (s:Shared) (H:Hp) (vs:List V) (Q:VK) (E:XK),eB k (A.deeper (envOfC qual scope s.heap.objs.size f cdv))->sp vs H Q E ->
   ∃ t,PSs (kA CX P w K mg base N qual scope f cdv A outer s H E) body t/\t { nx:=fun _ H'=>Q .non H',rt:=Q } (start N vs) H) :
  jH P w K mg base CX (k + 1) f (PySem.W.fnOf name qual params body scope dV kV doc pm an cdv ct) ps sp:=by
 refine ⟨len,fun A outer s H args us vs Q E hr e0 hb r hsp=>?_⟩
 have hl:=len _ _ _ _ hsp
 have KX:K.In s.heap:=e0.mod.kin.keeps fun b o e=>(e0.bs b o e).1
 have lim:s.heap.NoLimit:=e0.mod.nolimit.keeps fun b o e=>(e0.bs b o e).1
 have hkind:∀ y ∈ ps.zip us,scope.names.lookup y.1 = some .local ∨ (scope.names.lookup y.1 = some .cell/\((cellsFrom (s.heap.objs.size + 1) scope.names []).lookup y.1).isSome = true):=fun ⟨n,v⟩ hy=>by
  rcases S.par n (List.of_mem_zip hy).1 with q | q
  ·exact .inl q
  ·exact .inr ⟨q,PySem.W.cellsFrom_some _ _ _ (.inl q)⟩
 refine codeAny_call_function hr.depth (KX _ _ lk) rfl S.co S.gen rfl (PySem.W.codeRec_of KX hcd) (hb _ _ _ _ ?_)
 refine wpAny_newFunctionEnv_cells S.kind hkind fun env he s1 x=>?_
 subst he
 refine ⟨lim.keeps x.toInCall.keep,codeAny_func ?_⟩
 obtain ⟨t,ht,hq⟩:=hbody A outer s H vs Q E (hr.deeper _) hsp
 have I:Inv (kA CX P w K mg base N qual scope f cdv A outer s H E) [] (start N vs) H s1:=aDz S hr.hd e0 hl r x
 refine wpAny_mono (ht [] s1 (start N vs) H _ I hq) (fun fl s' hs=>?_) fun e s' hs=>hs
 have fin:∀ {σ':St} {H':Hp} {v:V} {u:Value},Inv (kA CX P w K mg base N qual scope f cdv A outer s H E) [] σ' H' s'->bO v u->Q v H'->CE outer P w H s Q u s' :=
  fun {σ' H' v u} J rv q=>⟨v,H',J.os,J.bare,J.base,J.hok,rv,q⟩
 cases fl with
 | ret u =>
  obtain ⟨v,σ',H',J,rv,q⟩:=hs
  exact fin J rv q
 | next =>
  obtain ⟨σ',H',J,q⟩:=hs
  exact fin (v:=V.non) (u:=Value.none) J rfl q
 | brk =>
  obtain ⟨_,_,_,q⟩:=hs
  exact False.elim q
 | cont =>
  obtain ⟨_,_,_,q⟩:=hs
  exact False.elim q
end L2
namespace L2
open PySem PySem.Spec PyProof.Rows
section
variable {X:Cx} {x:Str} {p pos:Pos} {e:Expr} {es:List Expr} {t:TA} {id T:String} {r:List V->Hp->VK->Prop}
noncomputable def tCB (r:List V->Hp->VK->Prop) (t:TA):TE:=fun σ H Q=>t σ H fun vs H1=>r vs H1 Q
theorem rO (hc:kL X (.builtin id) r) (hg:Gl X x) (hm:X.mg x = none) (hv:bootBuiltins x = some (.builtin id)) (ha:PA X (e :: es) t) (hn:x ≠ "__name__":=by decide) (hdb:(x == ("__debug__":Str)) = false:=by decide)
  (he:starEach (e :: es) X.env = (false,eval e X.env) :: starEach es X.env:=by rfl) (hpl:(backTo pos (starEach es X.env)).any (·.1) = false:=by rfl):PE X (.Call (.Name x p) (e :: es) [] pos) (tCB r t):=by
 intro pins s σ H Q I h
 refine wpAny_Call_Name_kw (wA I hg hm hv ?_ hn hdb)
 exact PyProof.Rows.callWith_builtin1 (thn (ha pos pins s σ H _ I h) fun us s1 ⟨vs,H1,I1,r1,q1⟩=>hc pins s1 σ H1 vs us Q I1 r1 q1) he hpl
theorem aDy (hc:kL X (.type T) r) (hg:Gl X x) (hm:X.mg x = none) (hv:bootBuiltins x = some (.type T)) (ha:PA X (e :: es) t) (hn:x ≠ "__name__":=by decide) (hdb:(x == ("__debug__":Str)) = false:=by decide)
  (he:starEach (e :: es) X.env = (false,eval e X.env) :: starEach es X.env:=by rfl) (hpl:(backTo pos (starEach es X.env)).any (·.1) = false:=by rfl):PE X (.Call (.Name x p) (e :: es) [] pos) (tCB r t):=by
 intro pins s σ H Q I h
 refine wpAny_Call_Name_kw (wA I hg hm hv ?_ hn hdb)
 exact PyProof.Rows.callWith_type1 (thn (ha pos pins s σ H _ I h) fun us s1 ⟨vs,H1,I1,r1,q1⟩=>hc pins s1 σ H1 vs us Q I1 r1 q1) he hpl
end
end L2
namespace HT
open PySem PyProof.Rows
section
open PySem.SeqAt
open PySem.AutoSeq1 (wpAny_loadPart')
open PySem.MeetsSeq PySem.MeetsSeq2 PySem.MeetsSeq3
end
section
variable {prog:Program} {w:World} {A:Around} {E:Value->Shared->Prop} {s:Shared}
theorem cat_tup {t b:Addr} {vs ws:List Value} {Q:Value->Shared->Prop} (ht:IsTup s.heap t vs.toArray) (hb:IsTup s.heap b ws.toArray) (hv:vs ≠ [])
  (h1:ws = []->Q (.ref t) s) (h2:ws ≠ []->Q (.ref s.heap.objs.size) { s with heap:=s.heap.push { cls:=.type "tuple",data:=.seq (vs ++ ws).toArray } })
  (hsz:vs.length + ws.length<=sizeLine):wpAny (model prog w) A (binaryOp .Add (.ref t) (.ref b)) Q E s:=by
 obtain ⟨⟨cls,dd,data,sl⟩,ho,hc,n,hd⟩:=id ht
 obtain ⟨⟨cls2,dd2,data2,sl2⟩,ho2,hc2,n2,hd2⟩:=id hb
 simp only at hc hd hc2 hd2
 subst hc hd hc2 hd2
 have e:vs.toArray ++ ws.toArray = (vs ++ ws).toArray:=by simp
 by_cases hw:ws = []
 ·exact concat_meets ⟨_,ho,rfl⟩ ⟨_,ho2,rfl⟩ noFill_tuple_add seq_tuple_add PySem.F.slot_tuple_add PySem.F.entry_tuple_add (PySem.F.args_tuple_add_2 _ _)
   (tuple_addW1 t b vs.toArray ws.toArray n n2 dd dd2 sl sl2 (by simpa using hv) (by simp [hw])) ⟨ho,ho2,h1 hw⟩
 ·refine concat_meets ⟨_,ho,rfl⟩ ⟨_,ho2,rfl⟩ noFill_tuple_add seq_tuple_add PySem.F.slot_tuple_add PySem.F.entry_tuple_add (PySem.F.args_tuple_add_2 _ _)
   (tuple_addW2 t b vs.toArray ws.toArray n n2 dd dd2 sl sl2 (by simpa using hv) (by simpa using hw) (by rw [List.size_toArray,List.size_toArray];exact hsz)) ⟨ho,ho2,?_⟩
  rw [e]
  exact h2 hw
noncomputable def sIx (n d:Nat):Option Int->Nat
 | none=>d
 | some v=>if v < 0 then (v + (n:Int)).toNat else min v.toNat n
theorem sIx_none (n d:Nat):sIx n d none = d:=rfl
theorem sIx_nat (n d k:Nat):sIx n d (some (k:Int)) = min k n:=by
 show (if (k:Int) < 0 then ((k:Int) + (n:Int)).toNat else min (k:Int).toNat n) = min k n
 rw [if_neg (by omega),Int.toNat_natCast]
theorem aJ1 (n d:Nat) (hd:d<=n) (o:Option Int):sIx n d o<=n:=by
 cases o with
 | none=>exact hd
 | some v =>
  show (if v < 0 then (v + (n:Int)).toNat else min v.toNat n)<=n
  by_cases hv:v < 0
  ·rw [if_pos hv];omega
  ·rw [if_neg hv];exact Nat.min_le_right _ _
theorem aCL (v:Int) (n d:Nat):(if v < 0 then max (v + (n:Int)) 0 else min v (n:Int)) = ((sIx n d (some v):Nat):Int):=by
 show (if v < 0 then max (v + (n:Int)) 0 else min v (n:Int)) = (((if v < 0 then (v + (n:Int)).toNat else min v.toNat n):Nat):Int)
 by_cases hv:v < 0
 ·simp only [if_pos hv];omega
 ·simp only [if_neg hv];omega
theorem aBX (lo hi:Option Int) (n:Nat):Builtin.Slice.sliceAdjust lo hi 1 (n:Int) = (((sIx n 0 lo:Nat):Int),((sIx n n hi:Nat):Int)):=by
 have h1:¬ ((1:Int) < 0):=by omega
 unfold Builtin.Slice.sliceAdjust
 simp only [h1,if_false]
 refine Prod.ext ?_ ?_
 ·cases lo with
  | none=>rfl
  | some v=>exact aCL v n 0
 ·cases hi with
  | none=>rfl
  | some v=>exact aCL v n n
theorem aCa (i j:Nat):Builtin.Slice.slicePlaces (i:Int) (j:Int) 1 = j - i:=by
 unfold Builtin.Slice.slicePlaces
 have h1:(1:Int) > 0:=by omega
 simp only [h1,if_true,Int.ediv_one]
 split<;>omega
theorem wZ {v:Value} {o:Option Int} {Q:Option Int->Shared->Prop} (p:IsPart v o) (h:Q o s):wpAny (model prog w) A (Builtin.Slice.slicePartIndex v) Q E s:=by
 cases p with
 | none=>exact slicePart_none h
 | int i t=>exact slicePart_int h
theorem kI {sl:Addr} {vl vu:Value} {lo hi:Option Int} {n:Nat} {Q:Int × Int × Nat->Shared->Prop} (hs:s.heap.IsSliceOf sl vl vu .none) (pl:IsPart vl lo) (pu:IsPart vu hi)
  (h:Q (((sIx n 0 lo:Nat):Int),1,sIx n n hi - sIx n 0 lo) s):wpAny (model prog w) A (Builtin.Slice.sliceApplied (.ref sl) (pure (n:Int))) Q E s:=by
 obtain ⟨os,hos,hcs,hds⟩:=id hs
 unfold Builtin.Slice.sliceApplied Builtin.Slice.sliceFields
 refine wpAny_bind (wpAny_bind (wpAny_field hos hds (x:=vl) rfl (wpAny_bind (wpAny_field hos hds (x:=vu) rfl (wpAny_bind (wpAny_field hos hds (x:=.none) rfl (wpAny_pure ?_)))))))
 refine wpAny_bind (slicePart_none ?_)
 show wpAny _ _ (if ((1:Int) == 0) = true then _ else _) _ _ s
 rw [if_neg (by decide)]
 refine wpAny_bind (wZ pl (wpAny_bind (wZ pu (wpAny_bind (wpAny_pure ?_)))))
 show wpAny _ _ (match Builtin.Slice.sliceAdjust lo hi 1 (n:Int) with | (lo,hi)=>pure (lo,(1:Int),Builtin.Slice.slicePlaces lo hi 1)) _ _ s
 rw [aBX lo hi n]
 show wpAny _ _ (pure (((sIx n 0 lo:Nat):Int),(1:Int),Builtin.Slice.slicePlaces ((sIx n 0 lo:Nat):Int) ((sIx n n hi:Nat):Int) 1)) _ _ s
 rw [aCa]
 exact wpAny_pure h
theorem aEo (xs:Array Value) (i k:Nat):((List.range k).filterMap fun (m:Nat)=>xs[((i:Int) + (m:Int) * 1).toNat]?).toArray = ((xs.toList.drop i).take k).toArray:=by
 have e:(fun (m:Nat)=>xs[((i:Int) + (m:Int) * 1).toNat]?) = fun m=>xs[i + m]?:=by
  funext m
  have:((i:Int) + (m:Int) * 1).toNat = i + m:=by omega
  rw [this]
 rw [e]
 have:=pick_run xs i k
 rw [List.filterMap_map] at this
 have e2:((fun x=>xs[x]?) ∘ fun x=>i + x) = fun m=>xs[i + m]?:=rfl
 rw [e2] at this
 rw [this]
theorem getItem_tuple_cut {t sl:Addr} {items:Array Value} {vl vu:Value} {lo hi:Option Int} {Q:Value->Shared->Prop} (ht:IsTup s.heap t items) (hs:s.heap.IsSliceOf sl vl vu .none) (pl:IsPart vl lo) (pu:IsPart vu hi)
  (hw:¬ (sIx items.size 0 lo = 0/\sIx items.size items.size hi = items.size))
  (h:Q (.ref s.heap.objs.size) { s with heap:=s.heap.push { cls:=.type "tuple",data:=.seq ((items.toList.drop (sIx items.size 0 lo)).take (sIx items.size items.size hi - sIx items.size 0 lo)).toArray } })
  (hsz:items.size<=sizeLine):wpAny (model prog w) A (getItem (.ref t) (.ref sl)) Q E s:=by
 have htake:sizeOk (.seq ((items.toList.drop (sIx items.size 0 lo)).take (sIx items.size items.size hi - sIx items.size 0 lo)).toArray):=by
  show ((items.toList.drop (sIx items.size 0 lo)).take (sIx items.size items.size hi - sIx items.size 0 lo)).toArray.size<=sizeLine
  rw [List.size_toArray,List.length_take,List.length_drop,Array.length_toList]
  omega
 have hj:sIx items.size items.size hi<=items.size:=aJ1 _ _ (Nat.le_refl _) hi
 obtain ⟨os,hos,hcs,hds⟩:=id hs
 have hTs:s.TypeIs (.ref sl) "slice":=⟨os,hos,hcs⟩
 unfold getItem
 try with_reducible refine wpAny_holding ?_
 first | refine wpAny_bind (wpAny_pure ?_) | skip
 refine wpAny_bind (wpAny_sequenceKey ht.typeIs (by decide) ?_)
 refine wpAny_bind (wpAny_callSpecial?_slot (name:=Str.ofString "__getitem__") ht.typeIs PyProof.Rows.slot_tuple_getitem
  (wpAny_call_entry PyProof.Rows.slot_tuple_getitem ht.typeIs entry_tuple_getitem ?_ (args_tuple_getitem _ _)))
 show wpAny _ _ (Builtin.Tuple.tupleItemsOf (.ref t) >>= _) _ _ s
 refine wpAny_bind (tupleItemsOf_ ht ?_)
 refine wpAny_bind (wpAny_typeOf hTs ?_)
 rw [if_pos (by decide)]
 refine wpAny_bind (kI hs pl pu ?_)
 have hno:¬ ((((sIx items.size 0 lo:Nat):Int) == 0 && (1:Int) == 1 && (sIx items.size items.size hi - sIx items.size 0 lo) == items.size) = true):=by
  intro q
  rw [Bool.and_eq_true,Bool.and_eq_true] at q
  have q1:((sIx items.size 0 lo:Nat):Int) = 0:=eq_of_beq q.1.1
  have q2:sIx items.size items.size hi - sIx items.size 0 lo = items.size:=eq_of_beq q.2
  exact hw ⟨by omega,by omega⟩
 show wpAny _ _ (if (((sIx items.size 0 lo:Nat):Int) == 0 && (1:Int) == 1 && (sIx items.size items.size hi - sIx items.size 0 lo) == items.size) = true then _ else _) _ _ s
 rw [if_neg hno,aEo]
 first
  | exact wpAny_bind (m:=Builtin.Tuple.tupleExact _) (wpAny_newObj_type (wpAny_pure ⟨_,rfl,wpAny_pure h⟩) htake)
  | exact wpAny_bind (m:=Builtin.Tuple.tupleExact _) (wpAny_newObj_type (wpAny_bind (wpAny_pure (wpAny_pure ⟨_,rfl,wpAny_pure h⟩))) htake)
  | exact wpAny_bind (wpAny_bind (m:=Builtin.Tuple.tupleExact _) (wpAny_newObj_type (wpAny_pure (wpAny_pure ⟨_,rfl,wpAny_pure h⟩)) htake))
  | exact wpAny_bind (wpAny_bind (m:=Builtin.Tuple.tupleExact _) (wpAny_newObj_type (wpAny_pure ⟨_,rfl,wpAny_pure h⟩) htake))
end
end HT
namespace L2
open PySem PySem.Spec PyProof.Rows
noncomputable abbrev TO:=St->Hp->(Option Int->Hp->Prop)->Prop
noncomputable def PO (X:Cx) (e:Option Expr) (t:TO):Prop :=
 ∀ (pins:List (Addr × Obj)) (s:Shared) (σ:St) (H:Hp) (Q:Option Int->Hp->Prop),Inv X pins σ H s->t σ H Q ->
  wpAny (model X.prog X.w) X.A (evalPart e X.env) (fun u s'=>∃ o H',Inv X pins σ H' s'/\IsPart u o/\Q o H') X.xe s
noncomputable def aGN:TO:=fun _ H Q=>Q none H
noncomputable def aLg (t:TE):TO:=fun σ H Q=>t σ H fun x H1=>∃ i,x = .int i/\Q (some i) H1
section
variable {X:Cx} {e:Expr} {te:TE} {lo hi:Option Expr} {tl th:TO} {pos p2:Pos}
theorem aG7:PO X none aGN:=by
 intro pins s σ H Q I h
 rw [evalPart_none]
 exact wpAny_pure ⟨none,H,I,.none,h⟩
theorem aFY (h:PE X e te):PO X (some e) (aLg te):=by
 intro pins s σ H Q I hw
 rw [evalPart_some]
 refine thn (h pins s σ H _ I hw) fun u s1 ⟨x,H1,I1,r1,q1⟩=>?_
 obtain ⟨i,rfl,q⟩:=q1
 obtain ⟨t,rfl⟩:=r1
 exact ⟨some i,H1,I1,.int i t,q⟩
noncomputable def SlR (X:Cx) (r:V->Option Int->Option Int->Hp->VK->Prop):Prop :=
 ∀ (pins:List (Addr × Obj)) (s:Shared) (σ:St) (H:Hp) (x:V) (v vl vu:Value) (lo hi:Option Int) (sl:Addr) (Q:VK),Inv X pins σ H s->bO x v->s.heap.IsSliceOf sl vl vu .none->IsPart vl lo->IsPart vu hi->r x lo hi H Q ->
  ∃ T id,typeLookup (.type T) "__getitem__" = pure (some (.builtin id))/\s.TypeIs v T/\wpAny (model X.prog X.w) X.A (getItem v (.ref sl)) (EP X pins σ Q) X.xe s
theorem SlR.or {r r':V->Option Int->Option Int->Hp->VK->Prop} (h:SlR X r) (h':SlR X r'):SlR X (fun x lo hi H Q=>r x lo hi H Q ∨ r' x lo hi H Q):=by
 intro pins s σ H x v vl vu lo hi sl Q I rx hs pl pu q
 rcases q with q | q
 ·exact h pins s σ H x v vl vu lo hi sl Q I rx hs pl pu q
 ·exact h' pins s σ H x v vl vu lo hi sl Q I rx hs pl pu q
noncomputable def tSl (r:V->Option Int->Option Int->Hp->VK->Prop) (te:TE) (tl th:TO):TE:=fun σ H Q=>te σ H fun x H1=>tl σ H1 fun l H2=>th σ H2 fun u H3=>r x l u H3 Q
theorem aBo {r:V->Option Int->Option Int->Hp->VK->Prop} (hr:SlR X r) (he:PE X e te) (hl:PO X lo tl) (hu:PO X hi th):PE X (.Subscript e (.Slice lo hi none p2) pos) (tSl r te tl th):=by
 intro pins s σ H Q I h
 refine Subscript_ (thn (he pins s σ H _ I h) fun v s1 ⟨x,H1,I1,r1,q1⟩=>?_)
 refine wpAny_Slice (thn (hl pins s1 σ H1 _ I1 q1) fun vl s2 ⟨l,H2,I2,pl,q2⟩=>thn (hu pins s2 σ H2 _ I2 q2) fun vu s3 ⟨u,H3,I3,pu,q3⟩=>?_)
 rw [evalPart_none]
 refine wpAny_pure ?_
 have I4:Inv X pins σ H3 { s3 with heap:=s3.heap.push { cls:=.type "slice",data:=.fields #[vl,vu,.none] } }:=I3.kept (t':=s3.toks) fun b ob q=>Heap.get?_push_of_some _ q
 obtain ⟨T,id,hT,ht,hg⟩:=hr pins { s3 with heap:=s3.heap.push { cls:=.type "slice",data:=.fields #[vl,vu,.none] } } σ H3 x v vl vu l u s3.heap.objs.size Q I4 r1 (Heap.IsSliceOf.new ..) pl pu q3
 show wpAny (model X.prog X.w) X.A (subscriptTail e (.Slice lo hi none p2) v (.ref s3.heap.objs.size)) (EP X pins σ Q) X.xe { s3 with heap:=s3.heap.push { cls:=.type "slice",data:=.fields #[vl,vu,.none] } }
 exact tail_any (ops:=[.ref s3.heap.objs.size,v]) ht hT hg (by with_unfolding_all rfl)
noncomputable def aA0 (xs:List V) (lo hi:Option Int):List V:=(xs.drop (HT.sIx xs.length 0 lo)).take (HT.sIx xs.length xs.length hi - HT.sIx xs.length 0 lo)
theorem tD (xs:List V) (lo hi:Option Int):(aA0 xs lo hi).length<=xs.length:=by
 unfold aA0
 rw [List.length_take,List.length_drop]
 omega
noncomputable def aMs (K:PySem.W.Frag):V->Option Int->Option Int->Hp->VK->Prop:=fun x lo hi H Q=>∃ a xs,x = .ref a/\SqT K H a xs /\
 ¬ (HT.sIx xs.length 0 lo = 0/\HT.sIx xs.length xs.length hi = xs.length)/\∀ p,H p = none->Q (.ref p) (upd H p (.tup (aA0 xs lo hi)))
theorem aIC:SlR X (aMs X.K):=by
 intro pins s σ H x v vl vu lo hi sl Q I rx hs pl pu h
 obtain ⟨a,xs,rfl,hx,hw,q⟩:=h
 cases rx
 obtain ⟨its,r,ht,hz⟩:=I.tuple hx
 have hlen:its.toArray.size = xs.length:=by rw [List.size_toArray];exact r.length.symm
 refine ⟨"tuple",_,PyProof.Rows.slot_tuple_getitem.lookup,ht.typeIs,?_⟩
 refine HT.getItem_tuple_cut ht hs pl pu (by rw [hlen];exact hw) ?_ (by rw [hlen];exact hz)
 rw [hlen]
 refine ⟨.ref s.heap.objs.size,_,I.laid (t':=s.toks) (o:=.tup (aA0 xs lo hi)) (fun b ob q=>Heap.get?_push_of_some _ q) (Nat.le_refl _) ?_,rfl,q _ (I.hok.fresh (Nat.le_refl _))⟩
 exact ⟨Nat.le_trans (tD xs lo hi) hz,_,(r.drop (HT.sIx xs.length 0 lo)).take (HT.sIx xs.length xs.length hi - HT.sIx xs.length 0 lo),IsTup.new _ _⟩
noncomputable def aKH (K:PySem.W.Frag):R2:=fun x y H Q=>∃ a b xs ys,x = .ref a/\y = .ref b/\SqT K H a xs/\SqT K H b ys/\xs ≠ []/\xs.length + ys.length<=sizeLine /\
 (ys = []->Q (.ref a) H)/\(ys ≠ []->∀ p,H p = none->Q (.ref p) (upd H p (.tup (xs ++ ys))))
theorem bT.nil_iff {xs:List V} {us:List Value} (r:bT xs us):us = [] ↔ xs = []:=by
 cases r with
 | nil=>simp
 | cons _ _=>simp
theorem aCx:OpR X (binaryOp .Add) (aKH X.K):=by
 intro pins s σ H x y v u Q I rx ry h
 obtain ⟨a,b,xs,ys,rfl,rfl,ha,hb,hx,hz,q1,q2⟩:=h
 cases rx
 cases ry
 obtain ⟨its,r1,p1,_⟩:=I.tuple ha
 obtain ⟨its2,r2,p2,_⟩:=I.tuple hb
 refine HT.cat_tup p1 p2 (fun z=>hx (r1.nil_iff.mp z)) (fun z=>⟨.ref a,H,I,rfl,q1 (r2.nil_iff.mp z)⟩) (fun z=>?_) (by rw [<- r1.length,<- r2.length];exact hz)
 refine ⟨.ref s.heap.objs.size,_,I.laid (t':=s.toks) (o:=.tup (xs ++ ys)) (fun b ob q=>Heap.get?_push_of_some _ q) (Nat.le_refl _) ?_,rfl,q2 (fun w=>z (r2.nil_iff.mpr w)) _ (I.hok.fresh (Nat.le_refl _))⟩
 exact ⟨by rw [List.length_append];exact hz,_,r1.append r2,IsTup.new _ _⟩
end
end L2
namespace L2
open PySem PySem.Spec PyProof.Rows
noncomputable def ixN (n:Nat) (i:Int):Option Nat:=if 0<=i then (if i < n then some i.toNat else none) else if -(n:Int)<=i then some (i + n).toNat else none
noncomputable def atI {α:Type} (xs:List α) (i:Int):Option α:=(ixN xs.length i).bind fun j=>xs[j]?
theorem aG1 {n:Nat} {i:Int} {j:Nat} (h:ixN n i = some j):seqIndex? i n = some j/\j < n/\-(n:Int)<=i/\i < n:=by
 unfold ixN at h
 by_cases h0:0<=i
 ·rw [if_pos h0] at h
  by_cases h1:i < n
  ·rw [if_pos h1] at h
   have e:i.toNat = j:=Option.some.inj h
   exact ⟨by rw [seqIndex_of h0 h1,e],by omega,by omega,h1⟩
  ·rw [if_neg h1] at h;cases h
 ·rw [if_neg h0] at h
  by_cases h1:-(n:Int)<=i
  ·rw [if_pos h1] at h
   have e:(i + n).toNat = j:=Option.some.inj h
   exact ⟨by rw [seqIndex_neg (by omega) h1,e],by omega,h1,by omega⟩
  ·rw [if_neg h1] at h;cases h
theorem aC1 {α:Type} {xs:List α} {i:Int} {v:α} (h:atI xs i = some v):∃ j,seqIndex? i xs.length = some j/\xs[j]? = some v/\j < xs.length/\-(xs.length:Int)<=i/\i < xs.length:=by
 unfold atI at h
 cases e:ixN xs.length i with
 | none=>rw [e] at h;cases h
 | some j =>
  rw [e] at h
  obtain ⟨h1,h2,h3,h4⟩:=aG1 e
  exact ⟨j,h1,h,h2,h3,h4⟩
theorem aAa {α:Type} {xs:List α} {j:Nat} {v:α} (h:xs[j]? = some v):atI xs (j:Int) = some v:=by
 have hj:j < xs.length:=(List.getElem?_eq_some_iff.mp h).1
 have e:ixN xs.length (j:Int) = some j:=by
  unfold ixN
  rw [if_pos (by omega),if_pos (by omega)];simp
 unfold atI;rw [e];exact h
noncomputable def lZ (b:Expr):Prop:=∀ o i,subscripted b false o i = operate [o,i] (getItem o i)
noncomputable def IxR (X:Cx) (r:R2):Prop :=
 ∀ (value slice:Expr) (pins:List (Addr × Obj)) (s:Shared) (σ:St) (H:Hp) (x y:V) (v u:Value) (Q:VK),Inv X pins σ H s->bO x v->bO y u->r x y H Q ->
  subscripted slice false v u = operate [v,u] (getItem v u)->wpAny (model X.prog X.w) X.A (subscriptTail value slice v u) (EP X pins σ Q) X.xe s
noncomputable def MtR (X:Cx) (id:String) (r:V->List V->Hp->VK->Prop):Prop :=
 ∀ (pins:List (Addr × Obj)) (s:Shared) (σ:St) (H:Hp) (x:V) (xs:List V) (v:Value) (us:List Value) (Q:VK),Inv X pins σ H s->bO x v->bT xs us->r x xs H Q ->
  wpAny (model X.prog X.w) X.A (call (.builtin id) (v :: us)) (EP X pins σ Q) X.xe s
section
variable {X:Cx} {a b:Expr} {ta tb:TE} {pos:Pos}
theorem aKx {r:R2} (hr:IxR X r) (ha:PE X a ta) (hb:PE X b tb) (hs:lZ b):PE X (.Subscript a b pos) (tOp r ta tb):=by
 intro pins s σ H Q I h
 exact Subscript_ (aIQ ha hb I h fun v u s2 x y H2 I2 rx ry q=>hr a b pins s2 σ H2 x y v u Q I2 rx ry q (hs _ _))
noncomputable def aLV (K:PySem.W.Frag):R2:=fun x y H Q=>∃ p xs i v,x = .ref p/\y = .int i/\SqL K H p xs/\atI xs i = some v/\Q v H
noncomputable def aMm (K:PySem.W.Frag):R2:=fun x y H Q=>∃ p xs i v,x = .ref p/\y = .int i/\SqT K H p xs/\atI xs i = some v/\Q v H
theorem aC6:IxR X (aLV X.K):=by
 intro value slice pins s σ H x y v u Q I rx ry h hs
 obtain ⟨p,xs,i,z,rfl,rfl,hq,he,q⟩:=h
 cases rx
 obtain ⟨t,rfl⟩:=ry
 obtain ⟨its,r,pl,hz⟩:=I.list hq
 obtain ⟨j,h1,h2,h3,h4,h5⟩:=aC1 he
 obtain ⟨w,ew,rw'⟩:=r.get h2
 have hl:=r.length
 have hn:=aB3
 have fin:EP X pins σ Q w s:=⟨z,H,I,rw',q⟩
 by_cases h0:0<=i
 ·have hj:i.toNat = j:=by
   rw [seqIndex_of h0 h5] at h1
   exact Option.some.inj h1
  exact item_listR pl.isList h0 (by omega) (by rw [hj];simpa using ew) fin hs
 ·have hj:(i + (its.toArray.size:Int)).toNat = j:=by
   rw [seqIndex_neg (by omega) h4] at h1
   rw [List.size_toArray,<- hl]
   exact Option.some.inj h1
  exact subscriptTail_builtinR (x:=w) pl.isList.typeIs slot_list_getitem.lookup
   (wpAny_getItem_list_neg (Q:=fun r s'=>r = w/\EP X pins σ Q r s') pl.isList (by omega) (by rw [List.size_toArray]<;>omega) (by omega) (by rw [hj];simpa using ew) ⟨rfl,fin⟩) hs
theorem aIF:IxR X (aMm X.K):=by
 intro value slice pins s σ H x y v u Q I rx ry h hs
 obtain ⟨p,xs,i,z,rfl,rfl,hq,he,q⟩:=h
 cases rx
 obtain ⟨t,rfl⟩:=ry
 obtain ⟨its,r,pl,hz⟩:=I.tuple hq
 obtain ⟨j,h1,h2,h3,h4,h5⟩:=aC1 he
 obtain ⟨w,ew,rw'⟩:=r.get h2
 have hl:=r.length
 have hn:=aB3
 have fin:EP X pins σ Q w s:=⟨z,H,I,rw',q⟩
 exact subscriptTail_builtinR (x:=w) pl.typeIs slot_tuple_getitem.lookup
  (getItem_tuple (j:=j) (Q:=fun r s'=>r = w/\EP X pins σ Q r s') pl (by omega) (by omega) (by rw [List.size_toArray,<- hl];exact h1) (by simpa using ew) ⟨rfl,fin⟩) hs
theorem aAJ (lo hi:Option Int) (n:Nat):(sliceBounds lo hi none n).1 = ((HT.sIx n 0 lo:Nat):Int)/\(sliceBounds lo hi none n).2.1 = ((HT.sIx n n hi:Nat):Int)/\(sliceBounds lo hi none n).2.2 = 1:=by
 refine ⟨?_,?_,rfl⟩
 ·cases lo with
  | none=>simp [sliceBounds,HT.sIx]
  | some i =>
   simp only [sliceBounds,HT.sIx,Option.getD_none,show (1:Int) > 0 by decide,if_true]
   by_cases h:i < 0
   ·simp only [h,if_true]<;>omega
   ·simp only [h,if_false]<;>omega
 ·cases hi with
  | none=>simp [sliceBounds,HT.sIx]
  | some i =>
   simp only [sliceBounds,HT.sIx,Option.getD_none,show (1:Int) > 0 by decide,if_true]
   by_cases h:i < 0
   ·simp only [h,if_true]<;>omega
   ·simp only [h,if_false]<;>omega
theorem xL (its:List Value) (lo hi:Option Int):slicePick its.toArray lo hi none = ((its.drop (HT.sIx its.length 0 lo)).take (HT.sIx its.length its.length hi - HT.sIx its.length 0 lo)).toArray:=by
 obtain ⟨h1,h2,h3⟩:=aAJ lo hi its.toArray.size
 unfold slicePick
 rw [h1,h2,h3]
 simp only [sliceRange_one,pick_run,List.size_toArray]<;>rfl
noncomputable def aL0 (K:PySem.W.Frag):V->Option Int->Option Int->Hp->VK->Prop:=fun x lo hi H Q=>∃ a xs,x = .ref a/\SqL K H a xs/\∀ p,H p = none->Q (.ref p) (upd H p (.lst (aA0 xs lo hi)))
theorem aHr:SlR X (aL0 X.K):=by
 intro pins s σ H x v vl vu lo hi sl Q I rx hs pl pu h
 obtain ⟨a,xs,rfl,hx,q⟩:=h
 cases rx
 obtain ⟨its,r,ht,hz⟩:=I.list hx
 have hlen:=r.length
 refine ⟨"list",_,slot_list_getitem.lookup,ht.isList.typeIs,?_⟩
 refine wpAny_getItem_list_slice ht.isList hs pl pu .none (by simp) ?_ (by rw [List.size_toArray]<;>omega)
 rw [xL,<- hlen]
 refine ⟨.ref s.heap.objs.size,_,I.laid (t':=s.toks) (o:=.lst (aA0 xs lo hi)) (fun b ob q=>Heap.get?_push_of_some _ q) (Nat.le_refl _) ?_,rfl,q _ (I.hok.fresh (Nat.le_refl _))⟩
 exact ⟨Nat.le_trans (tD xs lo hi) hz,_,0,(r.drop (HT.sIx xs.length 0 lo)).take (HT.sIx xs.length xs.length hi - HT.sIx xs.length 0 lo),Heap.get?_push_size _ rfl⟩
noncomputable def aEu:V->Bool
 | .non=>true
 | .bl _=>true
 | .int _=>true
 | .str _=>true
 | _=>false
noncomputable def eqV:V->V->Bool
 | .non,.non=>true
 | .bl a,.bl b=>a == b
 | .bl a,.int b=>(if a then 1 else 0) == b
 | .int a,.bl b=>a == (if b then 1 else 0)
 | .int a,.int b=>a == b
 | .str a,.str b=>a == b
 | _,_=>false
theorem aEX {A:Around} {s:Shared} {y x:V} {u v:Value} (ry:bO y u) (rx:bO x v) (fy:aEu y = true) (fx:aEu x = true):SeqAt.EqAt A s u v (eqV y x):=by
 cases y with
 | non =>
  cases ry
  cases x with
  | non=>cases rx;exact SeqAt.EqAt.same _
  | bl b=>cases rx;exact SeqAt.EqAt.none_bool b
  | int b=>obtain ⟨t,rfl⟩:=rx;exact SeqAt.EqAt.none_int b t
  | str b=>obtain ⟨t,rfl⟩:=rx;exact SeqAt.EqAt.none_str b t
  | _=>exact absurd (show false = true from fx) Bool.false_ne_true
 | bl a =>
  cases ry
  cases x with
  | non=>cases rx;exact SeqAt.EqAt.bool_none a
  | bl b=>cases rx;exact SeqAt.EqAt.bool_bool a b
  | int b=>obtain ⟨t,rfl⟩:=rx;exact SeqAt.EqAt.bool_int a b t
  | str b=>obtain ⟨t,rfl⟩:=rx;exact SeqAt.EqAt.bool_str a b t
  | _=>exact absurd (show false = true from fx) Bool.false_ne_true
 | int a =>
  obtain ⟨t',rfl⟩:=ry
  cases x with
  | non=>cases rx;exact SeqAt.EqAt.int_none a t'
  | bl b=>cases rx;exact SeqAt.EqAt.int_bool a t' b
  | int b=>obtain ⟨t,rfl⟩:=rx;exact SeqAt.EqAt.int_int a t' b t
  | str b=>obtain ⟨t,rfl⟩:=rx;exact SeqAt.EqAt.int_str a t' b t
  | _=>exact absurd (show false = true from fx) Bool.false_ne_true
 | str a =>
  obtain ⟨t',rfl⟩:=ry
  cases x with
  | non=>cases rx;exact SeqAt.EqAt.str_none a t'
  | bl b=>cases rx;exact SeqAt.EqAt.str_bool a t' b
  | int b=>obtain ⟨t,rfl⟩:=rx;exact SeqAt.EqAt.str_int a t' b t
  | str b=>obtain ⟨t,rfl⟩:=rx;exact SeqAt.EqAt.str_str a t' b t
  | _=>exact absurd (show false = true from fx) Bool.false_ne_true
 | _=>exact absurd (show false = true from fy) Bool.false_ne_true
theorem zZ:kL X (.builtin "len") (fun xs H Q=>∃ p ys,xs = [.ref p]/\(SqL X.K H p ys ∨ SqT X.K H p ys)/\Q (.int ys.length) H):=by
 intro pins s σ H xs us Q I r h
 obtain ⟨p,ys,rfl,hq,q⟩:=h
 obtain ⟨u,rfl,rx⟩:=yW r
 cases rx
 have hn:=aB3
 rcases hq with hq | hq
 ·obtain ⟨its,r',pl,hz⟩:=I.list hq
  have hlen:=r'.length
  exact Calls.call_len_list pl.isList (by simp only [List.size_toArray]<;>omega) ⟨.int ys.length,H,I.tok _,⟨s.toks + 1,by rw [List.size_toArray,hlen]⟩,q⟩
 ·obtain ⟨its,r',pl,hz⟩:=I.tuple hq
  have hlen:=r'.length
  exact len_tuple pl (by simp only [List.size_toArray]<;>omega) ⟨.int ys.length,H,I.tok _,⟨s.toks + 1,by rw [List.size_toArray,hlen]⟩,q⟩
theorem xW:kL X (.type "tuple") (fun xs H Q=>∃ p ys,xs = [.ref p]/\((SqL X.K H p ys/\∀ l,H l = none->Q (.ref l) (upd H l (.tup ys))) ∨ (SqT X.K H p ys/\Q (.ref p) H))):=by
 intro pins s σ H xs us Q I r h
 obtain ⟨p,ys,rfl,h⟩:=h
 obtain ⟨u,rfl,rx⟩:=yW r
 cases rx
 rcases h with ⟨hq,q⟩ | ⟨hq,q⟩
 ·obtain ⟨its,r',pl,hz⟩:=I.list hq
  have hlen:=r'.length
  refine call_tuple_list pl.isList (fun h' kp=>?_) (by simp only [List.size_toArray]<;>omega)
  have I1:Inv X pins σ H { s with heap:=h' }:=I.kept (t':=s.toks) kp
  have I2:Inv X pins σ (upd H h'.objs.size (.tup ys)) { s with heap:=h'.push { cls:=.type "tuple",data:=.seq its.toArray } } :=
   I1.laid (t':=s.toks) (fun b o e=>Heap.get?_push_of_some _ e) (Nat.le_refl _) (show eN X.prog X.w _ _ _ (.tup ys) from ⟨hz,its,r',IsTup.new _ _⟩)
  exact ⟨.ref h'.objs.size,_,I2,rfl,q _ (I1.hok.fresh (Nat.le_refl _))⟩
 ·obtain ⟨its,r',pl,hz⟩:=I.tuple hq
  exact call_tuple_same pl ⟨.ref p,H,I,rfl,q⟩
noncomputable def tyV (K:PySem.W.Frag) (T:String) (x:V) (H:Hp):Prop:=match x with
 | .str _=>T = "str"
 | .int _=>T = "int"
 | .ref p=>(T = "list"/\∃ xs,SqL K H p xs) ∨ (T = "tuple"/\∃ o,K.lookup p = some o/\o.cls = .type "tuple"/\o.dict = none) ∨
   (T = "dict"/\((∃ kvs,H p = some (.dK kvs)) ∨ ∃ kvs,H p = some (.dT kvs))) ∨ (T = "set"/\∃ S n,H p = some (.set S n))
 | _=>False
theorem aFI {pins:List (Addr × Obj)} {σ:St} {H:Hp} {s:Shared} {T:String} {x:V} {v:Value} (I:Inv X pins σ H s) (r:bO x v) (ty:tyV X.K T x H) :
  s.TypeIs v T/\∀ a,v = .ref a->∃ ob,s.heap.get? a = some ob/\ob.dict = none:=by
 cases x with
 | str z =>
  obtain ⟨t,rfl⟩:=r
  cases (show T = "str" from ty)
  exact ⟨typeIs_str s z t,fun _ e=>nomatch e⟩
 | int i =>
  obtain ⟨t,rfl⟩:=r
  cases (show T = "int" from ty)
  exact ⟨typeIs_int s i t,fun _ e=>nomatch e⟩
 | ref p =>
  cases r
  rcases ty with ⟨rfl,xs,hq⟩ | ⟨rfl,o,hk,hc,hd⟩ | ⟨rfl,hk⟩ | ⟨rfl,S,n,hk⟩
  ·obtain ⟨its,_,pl,_⟩:=I.list hq
   refine ⟨pl.isList.typeIs,fun a e=>?_⟩
   cases e
   obtain ⟨o,n,e,c,hd,_⟩:=pl
   exact ⟨o,e,hd⟩
  ·refine ⟨⟨o,I.kIn p o hk,hc⟩,fun a e=>?_⟩
   cases e
   exact ⟨o,I.kIn _ o hk,hd⟩
  ·have z:∃ o,s.heap.get? p = some o/\o.ExactDict:=by
    rcases hk with ⟨kvs,hk⟩ | ⟨kvs,hk⟩
    ·obtain ⟨_,_,_,_,o,_,_,e,ex,_⟩:=I.hok p _ hk
     exact ⟨o,e,ex⟩
    ·obtain ⟨_,_,_,_,o,_,_,e,ex,_⟩:=I.hok p _ hk
     exact ⟨o,e,ex⟩
   obtain ⟨o,e,ex⟩:=z
   refine ⟨⟨o,e,ex.1⟩,fun a e2=>?_⟩
   cases e2
   exact ⟨o,e,ex.2.1⟩
  ·obtain ⟨o,_,_,_,e,ex,_⟩:=I.hok p _ hk
   refine ⟨⟨o,e,ex.1⟩,fun a e2=>?_⟩
   cases e2
   exact ⟨o,e,ex.2.1⟩
 | _=>exact False.elim ty
noncomputable def aL5 (K:PySem.W.Frag) (T:String) (r:V->List V->Hp->VK->Prop) (to:TE):TE:=fun σ H Q=>to σ H fun x H1=>tyV K T x H1/\r x [] H1 Q
noncomputable def tBM (K:PySem.W.Frag) (T:String) (r:V->List V->Hp->VK->Prop) (to:TE) (t:TA):TE:=fun σ H Q=>to σ H fun x H1=>tyV K T x H1/\t σ H1 fun xs H2=>r x xs H2 Q
variable {o e:Expr} {es:List Expr} {to:TE} {t:TA} {name:Str} {apos cpos:Pos} {T id:String} {r:V->List V->Hp->VK->Prop}
theorem aJo (pa:PlainAttrs T) (slot:Slot T name id) (hty:typeOf (.builtin id) = pure (.type "method_descriptor")) (hm:MtR X id r) (ho:PE X o to)
  (hbase:attributeBase o name X.env (eval o X.env) = eval o X.env:=by rfl) (hline:(apos.endLine == cpos.line) = true:=by rfl):PE X (.Call (.Attribute o name apos) [] [] cpos) (aL5 X.K T r to):=by
 intro pins s σ H Q I h
 refine wpAny_Call_method0_late hbase hline (thn (ho pins s σ H _ I h) fun v s1 ⟨x,H1,I1,r1,ty,q1⟩=>?_)
 obtain ⟨h1,h2⟩:=aFI I1 r1 ty
 exact ⟨T,id,pa,slot,hty,h1,h2,Calls.callWith_builtin rfl (PySem.evalArgs_none (hm pins s1 σ H1 x [] v [] Q I1 r1 .nil q1))⟩
theorem aK3 (pa:PlainAttrs T) (slot:Slot T name id) (hty:typeOf (.builtin id) = pure (.type "method_descriptor")) (hm:MtR X id r) (ho:PE X o to) (ha:PA X (e :: es) t)
  (hbase:attributeBase o name X.env (eval o X.env) = eval o X.env:=by rfl)
  (hfew:((backTo cpos (starEach (e :: es) X.env)).all (fun x=>!x.1) && (backToKw cpos (keywordEach [] X.env)).all (fun x=>x.1.isSome)
   && decide ((e :: es).length + ([]:List Keyword).length + (if ([]:List Keyword).isEmpty then 0 else 1) < 30)) = true:=by rfl)
  (hline:(apos.endLine == cpos.line) = true:=by rfl) (hs:starEach (e :: es) X.env = (false,eval e X.env) :: starEach es X.env:=by rfl) (hplain:(backTo cpos (starEach es X.env)).any (·.1) = false:=by rfl) :
  PE X (.Call (.Attribute o name apos) (e :: es) [] cpos) (tBM X.K T r to t):=by
 intro pins s σ H Q I h
 refine wpAny_Call_method_late hbase hfew hline rfl (thn (ho pins s σ H _ I h) fun v s1 ⟨x,H1,I1,r1,ty,q1⟩=>?_)
 obtain ⟨h1,h2⟩:=aFI I1 r1 ty
 refine ⟨T,id,pa,slot,hty,h1,h2,?_⟩
 have hA:=ha cpos pins s1 σ H1 _ I1 q1
 rw [hs] at hA ⊢
 refine Calls.callWith_builtin (by show (false || (backTo cpos (starEach es X.env)).any (·.1)) = false;rw [hplain]<;>rfl) (Calls.evalArgs_plain ?_)
 exact thn hA fun us s2 ⟨vs,H2,I2,r2,q2⟩=>hm pins s2 σ H2 x vs v us Q I2 r1 r2 q2
end
end L2
namespace L2
open PySem PySem.Spec PyProof.Rows
noncomputable def MtM (X:Cx) (id:String) (r:V->List V->Hp->VK->Prop):Prop :=
 ∀ (pins:List (Addr × Obj)) (s:Shared) (σ:St) (H:Hp) (x:V) (xs:List V) (v:Value) (us:List Value) (Q:VK),Inv X pins σ H s->bO x v->bT xs us->r x xs H Q ->
  wpAny (model X.prog X.w) X.A (call (.builtin id) (v :: us)) (EP X pins σ Q) X.xe s
theorem bT.one:∀ {x:V} {us:List Value},bT [x] us->∃ u,us = [u]/\bO x u
 | _,_,.cons r .nil=>⟨_,rfl,r⟩
theorem bT.two:∀ {x y:V} {us:List Value},bT [x,y] us->∃ u v,us = [u,v]/\bO x u/\bO y v
 | _,_,_,.cons r (.cons q .nil)=>⟨_,_,rfl,r,q⟩
theorem bT.zero:∀ {us:List Value},bT [] us->us = []
 | _,.nil=>rfl
theorem bT.dropLast {xs:List V} {us:List Value} (h:bT xs us):bT xs.dropLast us.dropLast:=by
 induction h with
 | nil=>exact .nil
 | cons r t ih =>
  cases t with
  | nil=>exact .nil
  | cons q t'=>exact .cons r ih
theorem aBZ {α:Type} (l:List α):l.eraseIdx (l.length - 1) = l.dropLast:=by
 induction l with
 | nil=>rfl
 | cons a r ih =>
  cases r with
  | nil=>rfl
  | cons b r =>
   have e:(a :: b :: r).length - 1 = ((b :: r).length - 1) + 1:=by
    have h1:(a :: b :: r).length = r.length + 2:=rfl
    have h2:(b :: r).length = r.length + 1:=rfl
    omega
   rw [e,List.eraseIdx_cons_succ,ih]
   all_goals rfl
section
variable {X:Cx} {pins:List (Addr × Obj)} {σ:St} {H:Hp} {s:Shared} {l b:Addr} {xs ys zs:List V}
theorem Inv.lset {its its':List Value} {n:Nat} {f:Array Value->Array Value} {t':Nat} (I:Inv X pins σ H s) (hH:H l = some (.lst xs))
  (e:s.heap.get? l = some { cls:=.type "list",data:=.seq its.toArray n }) (hf:f its.toArray = its'.toArray) (hv:bT ys its') (hz:ys.length<=sizeLine) :
  Inv X pins σ (upd H l (.lst ys)) { s with heap:=s.heap.update l (Obj.mapSeq f),toks:=t' }:=by
 have q:=PySem.IsL.update e f
 rw [hf] at q
 refine I.write (x:=l) (e:=l) (by rw [hH];exact trivial) (.inl rfl) (fun b' u hb hu=>(Heap.get?_update_other s.heap (Obj.mapSeq f) (Ne.symm hb)).trans hu) ⟨_,q⟩ ?_
 exact ⟨hz,its',_,hv,q⟩
theorem Inv.lnew {its:List Value} {t':Nat} (I:Inv X pins σ H s) (hv:bT ys its) (hz:ys.length<=sizeLine) :
  Inv X pins σ (upd H s.heap.objs.size (.lst ys)) { s with heap:=s.heap.push { cls:=.type "list",data:=.seq its.toArray },toks:=t' } :=
 I.laid (fun _ _ q=>Heap.get?_push_of_some _ q) (Nat.le_refl _) ⟨hz,its,0,hv,Heap.get?_push_size _ rfl⟩
theorem Inv.fresh (I:Inv X pins σ H s):H s.heap.objs.size = none:=I.hok.fresh (Nat.le_refl _)
theorem Inv.lstM (I:Inv X pins σ H s) (hH:H l = some (.lst xs)):xs.length<=sizeLine/\∃ (its:List Value) (n:Nat),bT xs its/\xs.length = its.length/\s.heap.get? l = some { cls:=.type "list",data:=.seq its.toArray n }:=by
 obtain ⟨z,its,n,r,e⟩:=I.hok l _ hH
 exact ⟨z,its,n,r,r.length,e⟩
end
section
variable {X:Cx}
noncomputable def aF8:V->List V->Hp->VK->Prop:=fun x vs H Q=>∃ l xs y,x = .ref l/\vs = [y]/\H l = some (.lst xs)/\xs.length < sizeLine/\Q .non (upd H l (.lst (xs ++ [y])))
theorem aDA:MtM X "list.append" aF8:=by
 intro pins s σ H x vs v us Q I rx rv h
 obtain ⟨l,xs,y,rfl,rfl,hH,hz,q⟩:=h
 cases rx
 obtain ⟨u,rfl,ru⟩:=rv.one
 obtain ⟨z,its,n,r,hl,e⟩:=I.lstM hH
 refine call_meets F.slot_list_append ⟨_,e,rfl⟩ F.entry_list_append (F.args_list_append_2 _ _) (PySem.list_append l its.toArray n u (by rw [List.size_toArray];omega)) ⟨e,?_⟩
 refine ⟨.non,_,I.lset (its':=its ++ [u]) hH e (by simp) (r.append (.cons ru .nil)) ?_,rfl,q⟩
 rw [List.length_append,List.length_singleton]
 omega
noncomputable def aMl:V->List V->Hp->VK->Prop:=fun x vs H Q=>∃ l xs y,x = .ref l/\vs = []/\H l = some (.lst xs)/\xs[xs.length - 1]? = some y/\Q y (upd H l (.lst xs.dropLast))
theorem aIk:MtM X "list.pop" aMl:=by
 intro pins s σ H x vs v us Q I rx rv h
 obtain ⟨l,xs,y,rfl,rfl,hH,hy,q⟩:=h
 cases rx
 have hus:=rv.zero
 subst hus
 obtain ⟨z,its,n,r,hl,e⟩:=I.lstM hH
 obtain ⟨u,hu,ru⟩:=r.get hy
 have hy':its.toArray[its.toArray.size - 1]? = some u:=by
  show its.toArray[its.length - 1]? = some u
  rw [<- Array.getElem?_toList,<- hl]
  exact hu
 refine call_meets F.slot_list_pop ⟨_,e,rfl⟩ F.entry_list_pop (F.args_list_pop_1 _) (MeetsSeq.list_pop_last l its.toArray n u hy' (by rw [List.size_toArray];omega)) ⟨e,?_⟩
 refine ⟨y,_,I.lset (its':=its.dropLast) hH e ?_ r.dropLast ?_,ru,q⟩
 ·show its.toArray.eraseIdxIfInBounds (its.toArray.size - 1) = its.dropLast.toArray
  rw [List.size_toArray,List.eraseIdxIfInBounds_toArray,aBZ]
 ·rw [List.length_dropLast]
  omega
noncomputable def aL6:R2:=fun x y H Q=>∃ l b xs zs,x = .ref l/\y = .ref b/\H l = some (.lst xs)/\H b = some (.lst zs)/\xs.length + zs.length<=sizeLine/\∀ p,H p = none->Q (.ref p) (upd H p (.lst (xs ++ zs)))
theorem aJn:OpR X (binaryOp .Add) aL6:=by
 intro pins s σ H x y v u Q I rx ry h
 obtain ⟨l,b,xs,zs,rfl,rfl,hH,hB,hz,q⟩:=h
 cases rx
 cases ry
 obtain ⟨z,its,n,r,hl,e⟩:=I.lstM hH
 obtain ⟨z2,its2,n2,r2,hl2,e2⟩:=I.lstM hB
 refine PySem.P.add_list e e2 ?_ (by rw [List.size_toArray,List.size_toArray];omega)
 have ea:its.toArray ++ its2.toArray = (its ++ its2).toArray:=by simp
 rw [ea]
 exact ⟨.ref _,_,I.lnew (t':=s.toks) (r.append r2) (by rw [List.length_append];omega),rfl,q _ I.fresh⟩
theorem len_rep {α:Type} (xs:List α) (k:Nat):(List.replicate k xs).flatten.length = k * xs.length:=by
 induction k with
 | zero=>simp
 | succ k ih=>rw [List.replicate_succ,List.flatten_cons,List.length_append,ih,Nat.succ_mul,Nat.add_comm]
end
section
variable {prog:Program} {w:World} {A:Around} {E:Value->Shared->Prop} {s:Shared}
end
section
variable {X:Cx}
end
end L2
namespace Att
open PySem PySem.W PySem.Calls PyProof.Rows
theorem tP {P:Params} {h:Heap}:∀ (ns:List Int) (vs:List Value),WellAll P h vs (ns.map WData.int)->IntsAre vs ns:=by
 intro ns
 induction ns with
 | nil =>
  intro vs w
  rw [List.map_nil] at w
  cases w
  exact .nil
 | cons n ns ih =>
  intro vs w
  rw [List.map_cons] at w
  cases w with
  | cons a b =>
   cases a
   exact .cons _ _ (ih _ b)
theorem aDM {l:OpenLaw} {n:Nat} (hn:l.most = some n) {P:Params} {h:Heap} {args:List WData} {vals:List Value}
  (hpre:l.row.toRowW.claim.pre args = true) (hwl:WellAll P h vals args) :
  ∃ a vs ns,vals = [Value.ref a]/\args = [WData.list (ns.map WData.int)]/\h.get? a = some { cls:=.type "list",data:=.seq vs.toArray }/\IntsAre vs ns/\ns.length<=n:=by
 have hsh:WShape.hasAll [] args [.list .int] = true:=(pre_splitW hpre).1
 have hc:l.pre.holds [] { args:=args } = true:=(pre_splitW hpre).2
 obtain ⟨d,r,rfl,h1,h2⟩:=hasAllW_cons hsh
 obtain rfl:=hasAllW_nil h2
 obtain ⟨xs,rfl,h3⟩:=hasW_list h1
 obtain ⟨ns,rfl⟩:=items_int h3
 have hlen:ns.length<=n:=by
  unfold OpenLaw.pre at hc
  have h4:(WTm.not (.lt (.lit (.int (n:Int))) (.len (.arg 0)))).holds [] { args:=[.list (ns.map .int)] } = true:=by
   have h4:=(holds_andW hc).1
   rw [hn] at h4
   exact h4
  have h5:=condW_of h4 (w_not (w_lt w_lit (w_len_list (w_arg rfl))))
  rw [List.length_map] at h5
  refine Nat.le_of_not_lt fun q=>?_
  have q':(n:Int) < ((ns.length:Nat):Int):=by omega
  first
   | (rw [decide_eq_true q'] at h5;exact absurd h5 (by decide))
   | (simp at h5;omega)
 cases hwl with
 | cons w1 w2 =>
  cases w2
  cases w1 with
  | list ho hall=>exact ⟨_,_,ns,rfl,rfl,ho,tP ns _ hall,hlen⟩
theorem aDI (l:OpenLaw) (args:List WData):l.row.toRowW.claim.post args (.bool true) args = true :=
 postW_of (r:=l.row.toRowW) (X:=(true == true))
  (show WShape.has [] (.bool true) .bool = true by first | rfl | decide | simp [WShape.has,WShape.arms,WShape.armsAll])
  (show (WTm.eq .res (.lit (.bool true))).value [] { args:=args,res:=some (.bool true),after:=args } = some (.bool (true == true)) from w_eq_bool (w_res rfl) w_lit) rfl
theorem attach_call {l:OpenLaw} {n:Nat} {q:Program} {loose:List Str} {XP:(Str->Option Value)->Heap->Prop} {YP:World->Heap->Prop} {d:DefRec}
  (hn:l.most = some n) (hdf:d.params.defaults = [])
  (call:∀ (w:World) (s₀ s₁:Shared) (mg mb:Str->Option Value) (fa:Addr) (o:Obj) (pm cd doc:Value) (a:Addr) (vs:List Value) (ns:List Int),
   Ground q loose [] XP w s₀ mg mb s₁.heap->YP w s₁.heap ->
   s₁.heap.get? fa = some o->o.data = .func (docDef d.name d.params d.body d.scope pm cd doc)->s₁.heap.CodeRec cd d.name->mg d.name = some (.ref fa) ->
   s₁.heap.get? a = some { cls:=.type "list",data:=.seq vs.toArray }->IntsAre vs ns->ns.length<=n->s₁.gens = #[] ->
   codeAny (model l.prog w) callerA (.call (.ref fa) ⟨[.ref a],[]⟩) (fun r s'=>r = .ok (.ret (.bool true))/\OldK s₁.heap s'.heap/\s'.os = s₁.os/\AllBare s'.gens) s₁) :
  WalkO q loose XP YP l.row.toRowW d [] (fun f vs=>PySem.call f vs):=by
 intro w s₀ s₁ mg mb G Y fa o pm cd doc dV kV ho hd hcd hD hmg hg args vals as hpre hlay hrd hwl hlo
 obtain rfl:dV = .none:=Dflts.none hD hdf
 obtain rfl:kV = .none:=Dflts.noKw hD
 obtain ⟨a,vs,ns,rfl,rfl,hobj,hints,hlen⟩:=aDM hn hpre hwl
 refine enter_call (codeAny_mono (call w s₀ s₁ mg mb fa o pm cd doc a vs ns G Y ho (fd_plain hd) hcd hmg hobj hints hlen hg) fun r s' hq=>?_)
 obtain ⟨rfl,h2,h3,h4⟩:=hq
 exact ⟨.inl ⟨.bool true,.bool true,[],rfl,fun _=>rfl,.bool true,aDI l _,fun _=>⟨List.Pairwise.nil,fun _ hm=>(nomatch hm)⟩⟩,h2,h3,h4⟩
section
variable {prog:Program} {w:World} {A:Around} {E:Value->Shared->Prop} {s:Shared} {K:Frag}
end
end Att
namespace L2
open PySem PySem.Spec PyProof.Rows
theorem rZ:∀ {vs:List Value} {ns:List Int},IntsAre vs ns->bT (ns.map V.int) vs
 | _,_,.nil=>.nil
 | _,_,.cons n t h=>.cons ⟨t,rfl⟩ (rZ h)
noncomputable def aIW (H:Hp):Prop:=∀ b,H b = none ∨ ∃ o xs,H b = some (.frz o (.lst xs))
theorem aEC {P:Program} {w:World} {K:PySem.W.Frag} {mg mb:Str->Option Value} {CX:CXT} {k:Nat} {fa a:Addr} {fd:FuncData} {x:Str} {sp:Sp} {s₁:Shared} {vs:List Value} {ns:List Int}
  (KX:K.In s₁.heap) (hns:s₁.heap.Ns mainGlobals mg) (hb:s₁.heap.Ns builtinsNs mb) (hbb:∀ x:Str,x ≠ "__name__"->mb x = bootBuiltins x) (hlim:s₁.heap.NoLimit) (hg:s₁.gens = #[])
  (ha:s₁.heap.get? a = some { cls:=.type "list",data:=.seq vs.toArray }) (hi:IntsAre vs ns) (hl:ns.length<=sizeLine) (hr:eB k callerA)
  (F:∀ base:Heap,K.In base->base.Ns mainGlobals mg->jH P w K mg base CX k fa fd [x] sp) (hbind:∀ (s:Shared) (u:Value),BindsTo s fd ⟨[u],[]⟩ [(x,u)])
  (hsp:∀ H:Hp,aIW H->SqL K H a (ns.map V.int)->sp [.ref a] H (fun v _=>v = .bl true) fun _ _ _=>False)
  (hCX:∀ H e s',CX [] H s₁ (fun _ _ _=>False) e s'->False) :
  codeAny (model P w) callerA (.call (.ref fa) ⟨[.ref a],[]⟩) (fun r s'=>r = .ok (.ret (.bool true))/\OldK s₁.heap s'.heap/\s'.os = s₁.os/\AllBare s'.gens) s₁:=by
 have rv:=rZ hi
 have lenV:=hi.length
 have core:∀ H:Hp,aIW H->SqL K H a (ns.map V.int)->HOk P w H s₁.heap->(∀ b,H b ≠ none->b = a)->(H a ≠ none->K.lookup a = none) ->
   codeAny (model P w) callerA (.call (.ref fa) ⟨[.ref a],[]⟩) (fun r s'=>r = .ok (.ret (.bool true))/\OldK s₁.heap s'.heap/\s'.os = s₁.os/\AllBare s'.gens) s₁:=by
  intro H hO hS hok hA hK
  have base_of:∀ {b:Addr} {o:Obj},s₁.heap.get? b = some o->H b = none->(zS s₁.heap H).get? b = some o:=fun e n=>aEg e n
  have noA:∀ {b:Addr} {o:Obj} {es:Array DictEntry} {ep:Nat},s₁.heap.get? b = some o->o.data = .dict es ep->H b = none:=fun {b o es ep} e d=>by
   cases q:H b with
   | none=>rfl
   | some u =>
    have e':b = a:=hA b (by rw [q];simp)
    subst e'
    rw [ha] at e;cases e
    have d':Data.seq vs.toArray _ = Data.dict es ep:=d
    cases d'
  have nsK:∀ {b:Addr} {m:Str->Option Value},s₁.heap.Ns b m->(zS s₁.heap H).Ns b m:=fun {b m} ⟨o,es,ep,e,d,r⟩=>⟨o,es,ep,base_of e (noA e d),d,r⟩
  have hKb:K.In (zS s₁.heap H):=fun b o e=>base_of (KX b o e) (by
   cases q:H b with
   | none=>rfl
   | some u =>
    have e':b = a:=hA b (by rw [q];simp)
    subst e'
    rw [hK (by rw [q];simp)] at e;cases e)
  have hM:Mod K mg (zS s₁.heap H):=⟨hKb,nsK hns,⟨mb,nsK hb,hbb⟩,let ⟨mc,h1,h2⟩:=hlim;⟨mc,nsK h1,h2⟩⟩
  have e0:aGR P w K mg (zS s₁.heap H) callerA [] s₁ H:=⟨rfl,hM,fun b o e=>aFU e,Nat.le_of_eq (aDx _ _),trivial,fun b hb=>absurd (show b ∈ ([]:List Addr) from hb) (by simp),hok,.of_eq hg⟩
  refine codeAny_mono ((F _ hKb (nsK hns)).run callerA [] s₁ H ⟨[.ref a],[]⟩ [.ref a] [.ref a] _ _ hr e0 (hbind s₁ (.ref a)) (.cons rfl .nil) (hsp H hO hS)) fun r s' h=>?_
  cases r with
  | error e=>exact (hCX H e s' h).elim
  | ok fl =>
   cases fl with
   | next=>exact False.elim h
   | brk=>exact False.elim h
   | cont=>exact False.elim h
   | ret u =>
    obtain ⟨v,H',os,bare,un,hok',r',q⟩:=h
    have q':v = .bl true:=q
    subst q'
    obtain rfl:u = Value.bool true:=r'
    refine ⟨rfl,OldK.of_keep fun b o e=>?_,os,bare⟩
    cases q:H b with
    | none=>exact un.keep b o e q (by intro z;exact absurd (show b ∈ ([]:List Addr) from z) (by simp)) (by simp)
    | some u =>
     rcases hO b with z | ⟨ob,xs,z⟩
     ·rw [q] at z;cases z
     ·have z2:=un.frzs b ob _ z
      obtain ⟨e1,_⟩:=hok b _ z
      obtain ⟨e2,_⟩:=hok' b _ z2
      rw [e] at e1;cases e1
      exact e2
 cases hk:K.lookup a with
 | some o =>
  have e:=KX a o hk
  rw [ha] at e
  cases e
  refine core (fun _=>none) (fun _=>.inl rfl) (.inr ⟨_,vs.toArray,_,hk,rfl,rfl,rfl,by rw [List.size_toArray,lenV];exact hl,by simpa using rv⟩) (fun b u z=>by have z':(none:Option HO) = some u:=z;cases z') (fun b z=>absurd rfl z) fun z=>absurd rfl z
 | none =>
  refine core (fun b=>if b = a then some (.frz { cls:=.type "list",data:=.seq vs.toArray } (.lst (ns.map V.int))) else none) (fun b=>?_) (.inl (.inr ⟨{ cls:=.type "list",data:=.seq vs.toArray },if_pos rfl⟩)) (fun b u z=>?_) (fun b z=>?_) fun _=>hk
  ·by_cases hb:b = a
   ·exact .inr ⟨_,_,if_pos hb⟩
   ·exact .inl (if_neg hb)
  ·by_cases hb:b = a
   ·have z':=(if_pos hb).symm.trans z
    cases z'
    subst hb
    exact ⟨ha,by rw [List.length_map];exact hl,vs,_,rv,ha⟩
   ·have z':=(if_neg hb).symm.trans z
    cases z'
  ·by_cases hb:b = a
   ·exact hb
   ·exact absurd (if_neg hb) z
end L2
namespace L2
open PySem PySem.Spec PyProof.Rows
end L2
namespace L2
open PySem PySem.Spec PyProof.Rows
noncomputable def lV (s:Stmt):Arguments:=match s with
 | .FunctionDef _ a _ _ _ _ _ _ _ _=>a
 | _=>{ posonlyargs:=[],args:=[],vararg:=none,kwonlyargs:=[],kw_defaults:=[],kwarg:=none,defaults:=[] }
noncomputable def eK (s:Stmt):List Stmt:=match s with
 | .FunctionDef _ _ b _ _ _ _ _ _ _=>b
 | _=>[]
noncomputable def aK (s:Stmt):Scope:=match s with
 | .FunctionDef _ _ _ _ _ _ sc _ _ _=>sc
 | _=>{ kind:=.function,names:=[],isGenerator:=false,isCoroutine:=false }
noncomputable abbrev CX0:CXT:=fun _ _ _ _ _ _=>False
noncomputable abbrev E0:XK:=fun _ _ _=>False
theorem aEh {X:Cx}:sP CX0 X E0:=fun _ _ _ _ _ _ _ h=>h.elim
structure Fun (K:PySem.W.Frag) (x qual:Str) (st:Stmt) (f:Addr) (fd:FuncData):Prop where
 ex:∃ (oc:Value) (od:Option Addr) (kV doc pm:Value) (an:Option Addr) (cdv ct:Value) (osl:Array (Option Value)),
  fd = PySem.W.fnOf x qual (lV st) (eK st) (aK st) .none kV doc pm an cdv ct/\K.lookup f = some ⟨oc,od,.func fd,osl⟩/\PySem.W.codeIn K cdv qual = true
 kp:PySem.W.keepIn K (.ref f) = true
section
variable {P:Program} {w:World} {K:PySem.W.Frag} {mg:Str->Option Value} {base:Heap}
theorem Fun.ok {x qual:Str} {st:Stmt} {f:Addr} {fd:FuncData} {N ps:List Str} {k:Nat} {sp:Sp} (F:Fun K x qual st f fd) (S:aS N ps (aK st)) (len:∀ vs H Q E,sp vs H Q E->vs.length = ps.length)
  (hbody:∀ (cdv:Value) (A:Around) (outer:List Env) (s:Shared) (H:Hp) (vs:List V) (Q:VK) (E:XK),eB k (A.deeper (envOfC qual (aK st) s.heap.objs.size f cdv))->sp vs H Q E ->
   ∃ t,PSs (kA CX0 P w K mg base N qual (aK st) f cdv A outer s H E).nox (eK st) t/\t { nx:=fun _ H'=>Q .non H',rt:=Q } (start N vs) H):jH P w K mg base CX0 (k + 1) f fd ps sp:=by
 obtain ⟨oc,od,kV,doc,pm,an,cdv,ct,osl,rfl,lk,hcd⟩:=F.ex
 refine aE1 lk hcd S len fun A outer s H vs Q E hr hsp=>?_
 obtain ⟨t,h,q⟩:=hbody cdv A outer s H vs Q E hr hsp
 exact ⟨t,h.nox,q⟩
theorem Fun.binds {x qual:Str} {st:Stmt} {f:Addr} {fd:FuncData} {ps:List Str} (F:Fun K x qual st f fd)
  (h:∀ (kV doc pm:Value) (an:Option Addr) (cdv ct:Value) (us:List Value),us.length = ps.length->bindArgs (PySem.W.fnOf x qual (lV st) (eK st) (aK st) .none kV doc pm an cdv ct) ⟨us,[]⟩ = pure (ps.zip us)):nA K fd ps []:=by
 obtain ⟨oc,od,kV,doc,pm,an,cdv,ct,osl,rfl,lk,hcd⟩:=F.ex
 exact .all (h kV doc pm an cdv ct)
theorem fun_mk {x qual:Str} {st:Stmt} {f:Addr} {oc:Value} {od an:Option Addr} {osl:Array (Option Value)} {kV doc pm cdv ct:Value} (l:K.lookup f = some ⟨oc,od,.func (PySem.W.fnOf x qual (lV st) (eK st) (aK st) .none kV doc pm an cdv ct),osl⟩)
  (c:PySem.W.codeIn K cdv qual = true) (k:PySem.W.keepIn K (.ref f) = true):Fun K x qual st f (PySem.W.fnOf x qual (lV st) (eK st) (aK st) .none kV doc pm an cdv ct):=⟨⟨oc,od,kV,doc,pm,an,cdv,ct,osl,rfl,l,c⟩,k⟩
end
theorem cY {n:Nat} (h:n<=1000):n < sizeLine:=Nat.lt_of_le_of_lt h (by decide)
section
variable {X:Cx}
end
noncomputable def aDD (H H':Hp):Prop:=∀ b o,H b = some o->H' b = some o
theorem aDD.trans {H H1 H2:Hp} (a:aDD H H1) (b:aDD H1 H2):aDD H H2:=fun c o h=>b c o (a c o h)
theorem aDD.seq {K:PySem.W.Frag} {H H':Hp} {a:Addr} {xs:List V} (e:aDD H H') (h:SqL K H a xs):SqL K H' a xs:=by
 rcases h with (h | ⟨o,h⟩) | h
 ·exact .inl (.inl (e _ _ h))
 ·exact .inl (.inr ⟨o,e _ _ h⟩)
 ·exact .inr h
end L2
set_option maxHeartbeats 4000000
namespace Dd
open PySem PySem.Spec PyProof.Rows L2
inductive D where
 | non | bl (b:Bool) | int (i:Int) | str (x:Str) | tup (xs:List D) | fz (xs:List D) | ref (a:Addr)
noncomputable def SqX (K:PySem.W.Frag) (H:Hp) (a:Addr) (xs:List V):Prop :=
 (∃ o,H a = some (.frz o (.lst xs))) ∨
 ∃ (its:Array Value) (n:Nat),K.lookup a = some { cls:=.type "list",data:=.seq its n }/\its.size<=sizeLine/\bT xs its.toList
theorem SqX.sq {K:PySem.W.Frag} {H:Hp} {a:Addr} {xs:List V} (h:SqX K H a xs):SqL K H a xs:=by
 rcases h with ⟨o,h⟩ | ⟨its,n,h,z,r⟩
 ·exact .inl (.inr ⟨o,h⟩)
 ·exact .inr ⟨_,its,n,h,rfl,rfl,rfl,z,r⟩
mutual
noncomputable def Rep (K:PySem.W.Frag) (H:Hp):D->V->Prop
 | .non,v=>v = .non
 | .bl b,v=>v = .bl b
 | .int i,v=>v = .int i
 | .str x,v=>v = .str x
 | .ref a,v=>v = .ref a
 | .tup ds,v=>∃ a xs,v = .ref a/\SqT K H a xs/\bN K H ds xs
 | .fz ds,v=>∃ a xs,v = .ref a/\SqX K H a xs/\bN K H ds xs
noncomputable def bN (K:PySem.W.Frag) (H:Hp):List D->List V->Prop
 | [],vs=>vs = []
 | d :: ds,vs=>∃ v r,vs = v :: r/\Rep K H d v/\bN K H ds r
end
structure Ext (H H':Hp):Prop where
 tup:∀ a xs,H a = some (.tup xs)->H' a = some (.tup xs)
 frz:∀ a o u,H a = some (.frz o u)->H' a = some (.frz o u)
theorem Ext.refl (H:Hp):Ext H H:=⟨fun _ _ h=>h,fun _ _ _ h=>h⟩
theorem Ext.trans {H H1 H2:Hp} (a:Ext H H1) (b:Ext H1 H2):Ext H H2:=⟨fun c xs h=>b.tup c xs (a.tup c xs h),fun c o u h=>b.frz c o u (a.frz c o u h)⟩
theorem Ext.new {H:Hp} {p:Addr} (h:H p = none) (o:HO):Ext H (upd H p o) :=
 ⟨fun a xs e=>by rw [bG (bL e h)];exact e,fun a ob u e=>by rw [bG (bL e h)];exact e⟩
theorem Ext.put {H:Hp} {p:Addr} {xs:List V} (h:H p = some (.lst xs)) (o:HO):Ext H (upd H p o) :=
 ⟨fun a ys e=>by rw [bG (zC e h (by intro z;cases z))];exact e,fun a ob u e=>by rw [bG (zC e h (by intro z;cases z))];exact e⟩
section
variable {K:PySem.W.Frag} {H H':Hp}
theorem mD (e:Ext H H') {a:Addr} {xs:List V} (h:SqT K H a xs):SqT K H' a xs:=by
 rcases h with (h | ⟨o,h⟩) | h
 ·exact .inl (.inl (e.tup _ _ h))
 ·exact .inl (.inr ⟨o,e.frz _ _ _ h⟩)
 ·exact .inr h
theorem fF (e:Ext H H') {a:Addr} {xs:List V} (h:SqX K H a xs):SqX K H' a xs:=by
 rcases h with ⟨o,h⟩ | h
 ·exact .inl ⟨o,e.frz _ _ _ h⟩
 ·exact .inr h
mutual
theorem Rep.ext (e:Ext H H'):∀ {d:D} {v:V},Rep K H d v->Rep K H' d v
 | .non,_,h=>by unfold Rep at h ⊢;exact h
 | .bl _,_,h=>by unfold Rep at h ⊢;exact h
 | .int _,_,h=>by unfold Rep at h ⊢;exact h
 | .str _,_,h=>by unfold Rep at h ⊢;exact h
 | .ref _,_,h=>by unfold Rep at h ⊢;exact h
 | .tup ds,_,h=>by
  unfold Rep at h ⊢
  obtain ⟨a,xs,e1,sq,r⟩:=h
  exact ⟨a,xs,e1,mD e sq,bN.ext e r⟩
 | .fz ds,_,h=>by
  unfold Rep at h ⊢
  obtain ⟨a,xs,e1,sq,r⟩:=h
  exact ⟨a,xs,e1,fF e sq,bN.ext e r⟩
theorem bN.ext (e:Ext H H'):∀ {ds:List D} {vs:List V},bN K H ds vs->bN K H' ds vs
 | [],_,h=>by unfold bN at h ⊢;exact h
 | d :: ds,_,h=>by
  unfold bN at h ⊢
  obtain ⟨v,r,e1,hv,hr⟩:=h
  exact ⟨v,r,e1,Rep.ext e hv,bN.ext e hr⟩
end
theorem bY {i:Int}:Rep K H (.int i) (.int i):=by unfold Rep;rfl
theorem eA {b:Bool}:Rep K H (.bl b) (.bl b):=by unfold Rep;rfl
theorem aC8 {x:Str}:Rep K H (.str x) (.str x):=by unfold Rep;rfl
theorem zM:Rep K H .non .non:=by unfold Rep;rfl
theorem fY {a:Addr}:Rep K H (.ref a) (.ref a):=by unfold Rep;rfl
theorem aV {i:Int} {v:V} (h:Rep K H (.int i) v):v = .int i:=by unfold Rep at h;exact h
theorem cL {b:Bool} {v:V} (h:Rep K H (.bl b) v):v = .bl b:=by unfold Rep at h;exact h
theorem bU {x:Str} {v:V} (h:Rep K H (.str x) v):v = .str x:=by unfold Rep at h;exact h
theorem dG {v:V} (h:Rep K H .non v):v = .non:=by unfold Rep at h;exact h
theorem aT {a:Addr} {v:V} (h:Rep K H (.ref a) v):v = .ref a:=by unfold Rep at h;exact h
theorem bM {ds:List D} {v:V} (h:Rep K H (.tup ds) v):∃ a xs,v = .ref a/\SqT K H a xs/\bN K H ds xs:=by unfold Rep at h;exact h
theorem jZ {ds:List D} {v:V} (h:Rep K H (.fz ds) v):∃ a xs,v = .ref a/\SqX K H a xs/\bN K H ds xs:=by unfold Rep at h;exact h
theorem cE {ds:List D} {a:Addr} {xs:List V} (sq:SqT K H a xs) (r:bN K H ds xs):Rep K H (.tup ds) (.ref a):=by unfold Rep;exact ⟨a,xs,rfl,sq,r⟩
theorem cO:bN K H [] []:=by unfold bN;rfl
theorem bR {vs:List V} (h:bN K H [] vs):vs = []:=by unfold bN at h;exact h
theorem cC {d:D} {ds:List D} {v:V} {vs:List V} (h:Rep K H d v) (r:bN K H ds vs):bN K H (d :: ds) (v :: vs):=by unfold bN;exact ⟨v,vs,rfl,h,r⟩
theorem aY {d:D} {ds:List D} {vs:List V} (h:bN K H (d :: ds) vs):∃ v r,vs = v :: r/\Rep K H d v/\bN K H ds r:=by unfold bN at h;exact h
theorem bN.length:∀ {ds:List D} {vs:List V},bN K H ds vs->ds.length = vs.length
 | [],_,h=>by rw [bR h];rfl
 | d :: ds,_,h=>by
  obtain ⟨v,r,rfl,_,hr⟩:=aY h
  rw [List.length_cons,List.length_cons,bN.length hr]
theorem bN.get:∀ {ds:List D} {vs:List V} {i:Nat} {d:D},bN K H ds vs->ds[i]? = some d->∃ v,vs[i]? = some v/\Rep K H d v
 | [],_,i,d,h,e=>by simp at e
 | d0 :: ds,_,0,d,h,e=>by
  obtain ⟨v,r,rfl,hv,hr⟩:=aY h
  simp at e;subst e
  exact ⟨v,rfl,hv⟩
 | d0 :: ds,_,i + 1,d,h,e=>by
  obtain ⟨v,r,rfl,hv,hr⟩:=aY h
  exact bN.get (i:=i) hr (by simpa using e)
theorem bN.getV:∀ {ds:List D} {vs:List V} {i:Nat} {v:V},bN K H ds vs->vs[i]? = some v->∃ d,ds[i]? = some d/\Rep K H d v
 | [],_,i,v,h,e=>by rw [bR h] at e;simp at e
 | d0 :: ds,_,0,v,h,e=>by
  obtain ⟨v0,r,rfl,hv,hr⟩:=aY h
  simp at e;subst e
  exact ⟨d0,rfl,hv⟩
 | d0 :: ds,_,i + 1,v,h,e=>by
  obtain ⟨v0,r,rfl,hv,hr⟩:=aY h
  exact bN.getV (i:=i) hr (by simpa using e)
theorem bN.append:∀ {ds es:List D} {vs us:List V},bN K H ds vs->bN K H es us->bN K H (ds ++ es) (vs ++ us)
 | [],es,vs,us,h,q=>by rw [bR h];exact q
 | d :: ds,es,_,us,h,q=>by
  obtain ⟨v,r,rfl,hv,hr⟩:=aY h
  exact cC hv (bN.append hr q)
theorem bN.take:∀ {ds:List D} {vs:List V} (n:Nat),bN K H ds vs->bN K H (ds.take n) (vs.take n)
 | ds,vs,0,h=>by rw [List.take_zero,List.take_zero];exact cO
 | [],_,n + 1,h=>by rw [bR h];exact cO
 | d :: ds,_,n + 1,h=>by
  obtain ⟨v,r,rfl,hv,hr⟩:=aY h
  exact cC hv (bN.take n hr)
theorem bN.drop:∀ {ds:List D} {vs:List V} (n:Nat),bN K H ds vs->bN K H (ds.drop n) (vs.drop n)
 | ds,vs,0,h=>h
 | [],_,n + 1,h=>by rw [bR h];exact cO
 | d :: ds,_,n + 1,h=>by
  obtain ⟨v,r,rfl,hv,hr⟩:=aY h
  exact bN.drop n hr
theorem yH:∀ (ns:List Int),bN K H (ns.map D.int) (ns.map V.int)
 | []=>cO
 | n :: ns=>cC bY (yH ns)
end
inductive AK where
 | l (a:Addr) | d (a:Addr)
deriving DecidableEq
instance:Coe Addr AK:=⟨AK.l⟩
noncomputable abbrev DM:=AK->Option (List D)
noncomputable def bE (M:DM) (a:Addr) (ds:List D):DM:=fun b=>if b = AK.l a then some ds else M b
noncomputable def jT (M:DM) (a:Addr) (ds:List D):DM:=fun b=>if b = AK.d a then some ds else M b
theorem aJ {M:DM} {a:Addr} {ds:List D}:bE M a ds a = some ds:=if_pos rfl
theorem bS {M:DM} {a b:Addr} {ds:List D} (h:b ≠ a):bE M a ds b = M b:=if_neg fun e=>h (AK.l.inj e)
theorem gD {M:DM} {a:Addr} {b:AK} {ds:List D} (h:b ≠ AK.l a):bE M a ds b = M b:=if_neg h
theorem rW {M:DM} {a b:Addr} {ds:List D}:bE M a ds (.d b) = M (.d b):=if_neg fun e=>nomatch e
theorem yN {M:DM} {a:Addr} {ds es:List D}:bE (bE M a ds) a es = bE M a es:=by
 funext b;unfold bE;split<;>rfl
theorem gQ {M:DM} {a:Addr} {ds:List D}:jT M a ds (.d a) = some ds:=if_pos rfl
theorem aDg {M:DM} {a b:Addr} {ds:List D} (h:b ≠ a):jT M a ds (.d b) = M (.d b):=if_neg fun e=>h (AK.d.inj e)
theorem rF {M:DM} {a:Addr} {b:AK} {ds:List D} (h:b ≠ AK.d a):jT M a ds b = M b:=if_neg h
theorem aEA {M:DM} {a b:Addr} {ds:List D}:jT M a ds (.l b) = M (.l b):=if_neg fun e=>nomatch e
theorem aDB {M:DM} {a:Addr} {ds es:List D}:jT (jT M a ds) a es = jT M a es:=by
 funext b;unfold jT;split<;>rfl
theorem tL {M:DM} {a b:Addr} {o:List D} (h:M a = some o) (h':M b = none):a ≠ b:=by
 intro e;subst e;rw [h] at h';cases h'
theorem fR {M:DM} {a b:AK} {o:List D} (h:M a = some o) (h':M b = none):a ≠ b:=by
 intro e;subst e;rw [h] at h';cases h'
noncomputable def nY (a:Addr) (es:List DictEntry):Heap->Prop:=fun h=>(a == sysModules) = false/\es.length<=sizeLine/\∃ ep,h.get? a = some { cls:=.type "dict",data:=.dict es.toArray ep }
noncomputable def aGY (K:PySem.W.Frag) (H:Hp) (d:D) (e:DictEntry):Prop:=∃ k v kv vv,d = .tup [.int e.hash,k,v]/\bO kv e.key/\Rep K H k kv/\bO vv e.val/\Rep K H v vv
theorem aGY.ext {K:PySem.W.Frag} {H H':Hp} {d:D} {e:DictEntry} (h:aGY K H d e) (x:Ext H H'):aGY K H' d e :=
 let ⟨k,v,kv,vv,a,b,c,f,g⟩:=h;⟨k,v,kv,vv,a,b,c.ext x,f,g.ext x⟩
noncomputable abbrev sV (K:PySem.W.Frag) (H:Hp) (ds:List D) (es:List DictEntry):Prop:=Paired (aGY K H) ds es
theorem gR {K:PySem.W.Frag} {H H':Hp} {ds:List D} {es:List DictEntry} (h:sV K H ds es) (x:Ext H H'):sV K H' ds es:=Paired.mapP h fun _ _ r=>r.ext x
structure bK (K:PySem.W.Frag) (M:DM) (H:Hp):Prop where
 l:∀ (a:Addr) ds,M (.l a) = some ds->∃ xs,H a = some (.lst xs)/\bN K H ds xs
 d:∀ (a:Addr) ds,M (.d a) = some ds->∃ es,H a = some (.ext (nY a es))/\sV K H ds es
theorem Ext.putX {H:Hp} {p:Addr} {φ:Heap->Prop} (h:H p = some (.ext φ)) (o:HO):Ext H (upd H p o) :=
 ⟨fun a ys e=>by rw [bG (zC e h (by intro z;cases z))];exact e,fun a ob u e=>by rw [bG (zC e h (by intro z;cases z))];exact e⟩
section
variable {K:PySem.W.Frag} {H H':Hp} {M M':DM}
theorem bK.fresh (h:bK K M H) {p:Addr} (e:H p = none):M p = none:=by
 cases q:M p with
 | none=>rfl
 | some ds=>obtain ⟨xs,z,_⟩:=h.l p ds q;rw [e] at z;cases z
theorem bK.freshD (h:bK K M H) {p:Addr} (e:H p = none):M (.d p) = none:=by
 cases q:M (.d p) with
 | none=>rfl
 | some ds=>obtain ⟨xs,z,_⟩:=h.d p ds q;rw [e] at z;cases z
theorem bK.new (h:bK K M H) {p:Addr} (e:H p = none) (o:HO):bK K M (upd H p o) where
 l:=fun a ds q=>by
  obtain ⟨xs,z,r⟩:=h.l a ds q
  exact ⟨xs,by rw [bG (bL z e)];exact z,r.ext (Ext.new e o)⟩
 d:=fun a ds q=>by
  obtain ⟨xs,z,r⟩:=h.d a ds q
  exact ⟨xs,by rw [bG (bL z e)];exact z,gR r (Ext.new e o)⟩
theorem bK.lnew (h:bK K M H) {p:Addr} (e:H p = none) {xs:List V} {ds:List D} (r:bN K H ds xs):bK K (bE M p ds) (upd H p (.lst xs)) where
 l:=fun a es q=>by
  by_cases ha:a = p
  ·subst ha
   rw [aJ] at q
   cases q
   exact ⟨xs,dF,r.ext (Ext.new e _)⟩
  ·rw [bS ha] at q
   obtain ⟨ys,z,r2⟩:=h.l a es q
   exact ⟨ys,by rw [bG ha];exact z,r2.ext (Ext.new e _)⟩
 d:=fun a es q=>by
  rw [rW] at q
  obtain ⟨ys,z,r2⟩:=h.d a es q
  exact ⟨ys,by rw [bG (bL z e)];exact z,gR r2 (Ext.new e _)⟩
theorem bK.put (h:bK K M H) {p:Addr} {xs0:List V} (e:H p = some (.lst xs0)) {xs:List V} {ds:List D} (r:bN K H ds xs):bK K (bE M p ds) (upd H p (.lst xs)) where
 l:=fun a es q=>by
  by_cases ha:a = p
  ·subst ha
   rw [aJ] at q
   cases q
   exact ⟨xs,dF,r.ext (Ext.put e _)⟩
  ·rw [bS ha] at q
   obtain ⟨ys,z,r2⟩:=h.l a es q
   exact ⟨ys,by rw [bG ha];exact z,r2.ext (Ext.put e _)⟩
 d:=fun a es q=>by
  rw [rW] at q
  obtain ⟨ys,z,r2⟩:=h.d a es q
  exact ⟨ys,by rw [bG (zC z e (by intro z;cases z))];exact z,gR r2 (Ext.put e _)⟩
theorem bK.knew (h:bK K M H) {p:Addr} (e:H p = none) {xs:List DictEntry} {ds:List D} (r:sV K H ds xs):bK K (jT M p ds) (upd H p (.ext (nY p xs))) where
 d:=fun a es q=>by
  by_cases ha:a = p
  ·subst ha
   rw [gQ] at q
   cases q
   exact ⟨xs,dF,gR r (Ext.new e _)⟩
  ·rw [aDg ha] at q
   obtain ⟨ys,z,r2⟩:=h.d a es q
   exact ⟨ys,by rw [bG ha];exact z,gR r2 (Ext.new e _)⟩
 l:=fun a es q=>by
  rw [aEA] at q
  obtain ⟨ys,z,r2⟩:=h.l a es q
  exact ⟨ys,by rw [bG (bL z e)];exact z,r2.ext (Ext.new e _)⟩
theorem bK.kput (h:bK K M H) {p:Addr} {φ:Heap->Prop} (e:H p = some (.ext φ)) {xs:List DictEntry} {ds:List D} (r:sV K H ds xs):bK K (jT M p ds) (upd H p (.ext (nY p xs))) where
 d:=fun a es q=>by
  by_cases ha:a = p
  ·subst ha
   rw [gQ] at q
   cases q
   exact ⟨xs,dF,gR r (Ext.putX e _)⟩
  ·rw [aDg ha] at q
   obtain ⟨ys,z,r2⟩:=h.d a es q
   exact ⟨ys,by rw [bG ha];exact z,gR r2 (Ext.putX e _)⟩
 l:=fun a es q=>by
  rw [aEA] at q
  obtain ⟨ys,z,r2⟩:=h.l a es q
  exact ⟨ys,by rw [bG (zC z e (by intro z;cases z))];exact z,r2.ext (Ext.putX e _)⟩
noncomputable def aX (M M':DM):Prop:=∀ a o,M a = some o->M' a = some o
theorem aX.refl (M:DM):aX M M:=fun _ _ h=>h
theorem aX.trans {M1 M2 M3:DM} (a:aX M1 M2) (b:aX M2 M3):aX M1 M3:=fun c o h=>b c o (a c o h)
theorem aX.new {M:DM} {p:Addr} (h:M p = none) (ds:List D):aX M (bE M p ds):=fun a o e=>by rw [gD (fR e h)];exact e
theorem bK.sub (h:bK K M' H) (s:aX M M'):bK K M H:=⟨fun a ds q=>h.l a ds (s _ ds q),fun a ds q=>h.d a ds (s _ ds q)⟩
end
noncomputable abbrev cF:=List (Option D)
structure eZ (K:PySem.W.Frag) (H:Hp) (ρ:cF) (σ:L2.St):Prop where
 len:ρ.length = σ.length
 get:∀ (i:Nat) d,ρ[i]? = some (some d)->∃ v,σ[i]? = some (some v)/\Rep K H d v
section
variable {K:PySem.W.Frag} {H H':Hp} {ρ:cF} {σ:L2.St}
theorem eZ.ext (h:eZ K H ρ σ) (e:Ext H H'):eZ K H' ρ σ:=⟨h.len,fun i d q=>let ⟨v,a,b⟩:=h.get i d q;⟨v,a,b.ext e⟩⟩
theorem eZ.set (h:eZ K H ρ σ) {d:D} {v:V} (r:Rep K H d v) (i:Nat):eZ K H (ρ.set i (some d)) (σ.set i (some v)):=by
 refine ⟨by rw [List.length_set,List.length_set,h.len],fun j d' q=>?_⟩
 rw [List.getElem?_set] at q
 by_cases hij:i = j
 ·subst hij
  rw [if_pos rfl] at q
  by_cases hl:i < ρ.length
  ·rw [if_pos hl] at q
   cases q
   exact ⟨v,by rw [List.getElem?_set,if_pos rfl,if_pos (by rw [<- h.len];exact hl)],r⟩
  ·rw [if_neg hl] at q
   cases q
 ·rw [if_neg hij] at q
  obtain ⟨u,a,b⟩:=h.get j d' q
  exact ⟨u,by rw [List.getElem?_set,if_neg hij];exact a,b⟩
end
noncomputable abbrev DQ:=D->DM->Prop
noncomputable abbrev DE:=cF->DM->DQ->Prop
noncomputable abbrev DT:=cF->DM->(Bool->DM->Prop)->Prop
noncomputable abbrev DA:=cF->DM->(List D->DM->Prop)->Prop
structure fO where
 nx:cF->DM->Prop
 rt:DQ
 bk:cF->DM->Prop:=fun _ _=>False
 ct:cF->DM->Prop:=fun _ _=>False
noncomputable abbrev DS:=fO->cF->DM->Prop
noncomputable abbrev DG:=D->cF->DM->(cF->DM->Prop)->Prop
noncomputable abbrev DGs:=List D->cF->DM->(cF->DM->Prop)->Prop
noncomputable def LQ (K:PySem.W.Frag) (H:Hp) (Q:DQ):VK:=fun v H'=>∃ d M',Rep K H' d v/\bK K M' H'/\Ext H H'/\Q d M'
noncomputable def LT (K:PySem.W.Frag) (H:Hp) (Q:Bool->DM->Prop):Bool->Hp->Prop:=fun b H'=>∃ M',bK K M' H'/\Ext H H'/\Q b M'
noncomputable def LA (K:PySem.W.Frag) (H:Hp) (Q:List D->DM->Prop):List V->Hp->Prop:=fun vs H'=>∃ ds M',bN K H' ds vs/\bK K M' H'/\Ext H H'/\Q ds M'
noncomputable def LN (K:PySem.W.Frag) (H:Hp) (Q:cF->DM->Prop):L2.St->Hp->Prop:=fun σ' H'=>∃ ρ' M',eZ K H' ρ' σ'/\bK K M' H'/\Ext H H'/\Q ρ' M'
structure iW (K:PySem.W.Frag) (H:Hp) (D:fO) (E:pT):Prop where
 nx:∀ σ' H',LN K H D.nx σ' H'->E.nx σ' H'
 rt:∀ v H',LQ K H D.rt v H'->E.rt v H'
 bk:∀ σ' H',LN K H D.bk σ' H'->E.bk σ' H'
 ct:∀ σ' H',LN K H D.ct σ' H'->E.ct σ' H'
noncomputable def low (K:PySem.W.Frag) (t:DE):TE:=fun σ H Q=>∃ ρ M Q',eZ K H ρ σ/\bK K M H/\t ρ M Q'/\∀ v H',LQ K H Q' v H'->Q v H'
noncomputable def aFr (K:PySem.W.Frag) (t:DT):TT:=fun σ H Q=>∃ ρ M Q',eZ K H ρ σ/\bK K M H/\t ρ M Q'/\∀ v H',LT K H Q' v H'->Q v H'
noncomputable def aLl (K:PySem.W.Frag) (t:DA):TA:=fun σ H Q=>∃ ρ M Q',eZ K H ρ σ/\bK K M H/\t ρ M Q'/\∀ v H',LA K H Q' v H'->Q v H'
noncomputable def aDR (K:PySem.W.Frag) (t:DS):TS:=fun E σ H=>∃ ρ M D,eZ K H ρ σ/\bK K M H/\t D ρ M/\iW K H D E
noncomputable def xG (K:PySem.W.Frag) (g:DG):TG:=fun v σ H Q=>∃ d ρ M Q',Rep K H d v/\eZ K H ρ σ/\bK K M H/\g d ρ M Q'/\∀ σ' H',LN K H Q' σ' H'->Q σ' H'
noncomputable def aLP (K:PySem.W.Frag) (g:DGs):TGs:=fun vs σ H Q=>∃ ds ρ M Q',bN K H ds vs/\eZ K H ρ σ/\bK K M H/\g ds ρ M Q'/\∀ σ' H',LN K H Q' σ' H'->Q σ' H'
noncomputable abbrev PDE (X:Cx) (e:Expr) (t:DE):Prop:=PE X e (low X.K t)
noncomputable abbrev PDT (X:Cx) (e:Expr) (t:DT):Prop:=PT X e (aFr X.K t)
noncomputable abbrev PDW (X:Cx) (e:Expr) (t:DT):Prop:=PW X e (aFr X.K t)
noncomputable abbrev PDA (X:Cx) (es:List Expr) (t:DA):Prop:=PA X es (aLl X.K t)
noncomputable abbrev PDS (X:Cx) (st:Stmt) (t:DS):Prop:=PS X st (aDR X.K t)
noncomputable abbrev iV (X:Cx) (st:List Stmt) (t:DS):Prop:=PSs X st (aDR X.K t)
noncomputable abbrev PDG (X:Cx) (e:Expr) (g:DG):Prop:=PG X e (xG X.K g)
noncomputable abbrev aBb (X:Cx) (es:List Expr) (g:DGs):Prop:=PGs X es (aLP X.K g)
section
variable {K:PySem.W.Frag} {H H1:Hp}
theorem LQ.back {Q:DQ} {v:V} {H2:Hp} (e:Ext H H1) (h:LQ K H1 Q v H2):LQ K H Q v H2:=let ⟨d,M,a,b,c,q⟩:=h;⟨d,M,a,b,e.trans c,q⟩
theorem LT.back {Q:Bool->DM->Prop} {v:Bool} {H2:Hp} (e:Ext H H1) (h:LT K H1 Q v H2):LT K H Q v H2:=let ⟨M,b,c,q⟩:=h;⟨M,b,e.trans c,q⟩
theorem LN.back {Q:cF->DM->Prop} {v:L2.St} {H2:Hp} (e:Ext H H1) (h:LN K H1 Q v H2):LN K H Q v H2:=let ⟨d,M,a,b,c,q⟩:=h;⟨d,M,a,b,e.trans c,q⟩
theorem iW.at {D:fO} {E:pT} (h:iW K H D E) (e:Ext H H1):iW K H1 D E :=
 ⟨fun s H2 q=>h.nx s H2 (q.back e),fun s H2 q=>h.rt s H2 (q.back e),fun s H2 q=>h.bk s H2 (q.back e),fun s H2 q=>h.ct s H2 (q.back e)⟩
end
section
variable {X:Cx} {e:Expr} {st:Stmt} {sts:List Stmt}
theorem cM {t u:TE} (h:PE X e t) (k:∀ σ H Q,u σ H Q->t σ H Q):PE X e u:=fun pins s σ H Q I q=>h pins s σ H Q I (k σ H Q q)
theorem aBP {t u:TT} (h:PT X e t) (k:∀ σ H Q,u σ H Q->t σ H Q):PT X e u:=fun pins s σ H Q I q=>h pins s σ H Q I (k σ H Q q)
theorem aEl {t u:TT} (h:PW X e t) (k:∀ σ H Q,u σ H Q->t σ H Q):PW X e u:=fun wh pins s σ H Q I q=>h wh pins s σ H Q I (k σ H Q q)
theorem aE2 {es:List Expr} {t u:TA} (h:PA X es t) (k:∀ σ H Q,u σ H Q->t σ H Q):PA X es u:=fun pos pins s σ H Q I q=>h pos pins s σ H Q I (k σ H Q q)
theorem gM {t u:TS} (h:PS X st t) (k:∀ D σ H,u D σ H->t D σ H):PS X st u:=fun pins s σ H D I q=>h pins s σ H D I (k D σ H q)
theorem aAI {t u:TS} (h:PSs X sts t) (k:∀ D σ H,u D σ H->t D σ H):PSs X sts u:=fun pins s σ H D I q=>h pins s σ H D I (k D σ H q)
theorem aBS {t u:TG} (h:PG X e t) (k:∀ v σ H Q,u v σ H Q->t v σ H Q):PG X e u:=fun pins s σ H v w Q I r q=>h pins s σ H v w Q I r (k v σ H Q q)
theorem aCB {es:List Expr} {t u:TGs} (h:PGs X es t) (k:∀ v σ H Q,u v σ H Q->t v σ H Q):PGs X es u:=fun pins s σ H v w Q I r q=>h pins s σ H v w Q I r (k v σ H Q q)
end
section
variable {X:Cx} {a b c e:Expr} {es:List Expr} {ta tb tc te:DE} {tA tB:DT} {t:DA} {pos:Pos}
noncomputable def aAE (i:Nat):DE:=fun ρ M Q=>match ρ[i]? with
 | some (some d)=>Q d M
 | _=>False
theorem aID (i:Nat) {x:Str} {pos:Pos} (hN:X.N[i]? = some x:=by rfl) (hv:Vis X.env.scope x:=by first | exact Or.inl rfl | exact Or.inr (Or.inl rfl) | exact Or.inr (Or.inr rfl)) (hd:(x == ("__debug__":Str)) = false:=by decide)
  (hcd:(x == ("__classdict__":Str)) = false:=by decide):PDE X (.Name x pos) (aAE i) :=
 cM (aBH (i:=i) hN hv hd hcd) fun σ H Q ⟨ρ,M,Q',re,hm,q,k⟩=>by
  unfold aAE at q
  split at q
  ·rename_i d e
   obtain ⟨v,e1,r⟩:=re.get i d e
   exact ⟨v,e1,k v H ⟨d,M,r,hm,.refl H,q⟩⟩
  ·exact q.elim
noncomputable def dC (d:D):DE:=fun _ M Q=>Q d M
theorem aH9 {i j pos}:PDE X (.Constant (.int i) j pos) (dC (.int i)):=cM aIs fun σ H Q ⟨ρ,M,Q',re,hm,q,k⟩=>k _ H ⟨_,M,bY,hm,.refl H,q⟩
theorem aKD {i j pos}:PDE X (.Constant (.bool i) j pos) (dC (.bl i)):=cM aKN fun σ H Q ⟨ρ,M,Q',re,hm,q,k⟩=>k _ H ⟨_,M,eA,hm,.refl H,q⟩
theorem aJp {j pos}:PDE X (.Constant .none j pos) (dC .non):=cM aJj fun σ H Q ⟨ρ,M,Q',re,hm,q,k⟩=>k _ H ⟨_,M,zM,hm,.refl H,q⟩
theorem aJR {x j pos}:PDE X (.Constant (.str x) j pos) (dC (.str x)):=cM aIc fun σ H Q ⟨ρ,M,Q',re,hm,q,k⟩=>k _ H ⟨_,M,aC8,hm,.refl H,q⟩
theorem aGQ {x:Str} {d:D} {v:V} {u:Value} {pos:Pos} (hg:Gl X x) (hm:X.mg x = some u) (r:bO v u) (hr:∀ H,Rep X.K H d v) (hd:(x == ("__debug__":Str)) = false:=by decide):PDE X (.Name x pos) (dC d) :=
 cM (aCX hg hm r hd) fun σ H Q ⟨ρ,M,Q',re,hm,q,k⟩=>k _ H ⟨_,M,hr H,hm,.refl H,q⟩
noncomputable abbrev D2:=D->D->DM->DQ->Prop
noncomputable def OpL (K:PySem.W.Frag) (r:R2) (r':D2):Prop:=∀ x y H M dx dy Q,Rep K H dx x->Rep K H dy y->bK K M H->r' dx dy M Q->r x y H (LQ K H Q)
noncomputable def OpD (X:Cx) (f:Value->Value->Sem Value) (r':D2):Prop :=
 OpR X f fun x y H Q=>∃ dx dy M Q',Rep X.K H dx x/\Rep X.K H dy y/\bK X.K M H/\r' dx dy M Q'/\∀ v H',LQ X.K H Q' v H'->Q v H'
theorem aDa {pins:List (Addr × Obj)} {σ:L2.St} {Q Q':VK} {u:Value} {s:Shared} (h:EP X pins σ Q u s) (k:∀ v H,Q v H->Q' v H):EP X pins σ Q' u s:=let ⟨v,H,a,b,c⟩:=h;⟨v,H,a,b,k v H c⟩
theorem OpD.of {f:Value->Value->Sem Value} {r:R2} {r':D2} (h:OpR X f r) (l:OpL X.K r r'):OpD X f r':=fun pins s σ H x y v u Q I rx ry ⟨dx,dy,M,Q',r1,r2,hm,q,k⟩ =>
 thn (h pins s σ H x y v u _ I rx ry (l x y H M dx dy Q' r1 r2 hm q)) fun v s h=>aDa h k
noncomputable def dOp (r:D2) (ta tb:DE):DE:=fun ρ M Q=>ta ρ M fun x M1=>tb ρ M1 fun y M2=>r x y M2 Q
theorem aAk {r':D2} {σ:L2.St} {H:Hp} {Q:VK} {R:V->V->Hp->VK->Prop} (hR:∀ x y H1 Q1,(∃ dx dy M Q',Rep X.K H1 dx x/\Rep X.K H1 dy y/\bK X.K M H1/\r' dx dy M Q'/\∀ v H',LQ X.K H1 Q' v H'->Q1 v H')->R x y H1 Q1)
  (h:low X.K (dOp r' ta tb) σ H Q):low X.K ta σ H fun x H1=>low X.K tb σ H1 fun y H2=>R x y H2 Q:=by
 obtain ⟨ρ,M,Q',re,hm,q,k⟩:=h
 refine ⟨ρ,M,_,re,hm,q,fun x H1 ⟨dx,M1,rx,hm1,e1,q1⟩=>⟨ρ,M1,_,re.ext e1,hm1,q1,fun y H2 ⟨dy,M2,ry,hm2,e2,q2⟩=>?_⟩⟩
 exact hR x y H2 Q ⟨dx,dy,M2,Q',rx.ext e2,ry,hm2,q2,fun v H' z=>k v H' (z.back (e1.trans e2))⟩
theorem aLz {op:Operator} {r:D2} (ho:OpD X (binaryOp op) r) (ha:PDE X a ta) (hb:PDE X b tb):PDE X (.BinOp a op b pos) (dOp r ta tb) :=
 cM (aLn ho ha hb) fun σ H Q h=>aAk (fun _ _ _ _ z=>z) h
theorem aIx {op:CmpOp} {r:D2} (ho:OpD X (compareOp op) r) (ha:PDE X a ta) (hb:PDE X b tb) (hm:behindInMarks op b = false:=by exact zV _):PDE X (.Compare a [op] [b] pos) (dOp r ta tb) :=
 cM (aGS ho ha hb hm) fun σ H Q h=>aAk (fun _ _ _ _ z=>z) h
noncomputable def yS (t:DE):DT:=fun ρ M Q=>t ρ M fun d M'=>match d with
 | .bl k=>Q k M'
 | _=>False
theorem aA3 {σ:L2.St} {H:Hp} {Q:Bool->Hp->Prop} (h:aFr X.K (yS te) σ H Q):low X.K te σ H fun x H'=>∃ k,x = .bl k/\Q k H':=by
 obtain ⟨ρ,M,Q',re,hm,q,k⟩:=h
 refine ⟨ρ,M,_,re,hm,q,fun x H1 ⟨d,M1,rd,hm1,e1,q1⟩=>?_⟩
 cases d with
 | bl c=>exact ⟨c,cL rd,k c H1 ⟨M1,hm1,e1,q1⟩⟩
 | _=>exact q1.elim
theorem aHT {op:CmpOp} {r:D2} (ho:OpD X (compareOp op) r) (ha:PDE X a ta) (hb:PDE X b tb) (hm:behindInMarks op b = false:=by exact zV _):PDT X (.Compare a [op] [b] pos) (yS (dOp r ta tb)) :=
 aBP (aGB ho ha hb hm) fun σ H Q h=>aAk (R:=fun x y H Q1=>∃ dx dy M Q',Rep X.K H dx x/\Rep X.K H dy y/\bK X.K M H/\r dx dy M Q'/\∀ v H',LQ X.K H Q' v H'->Q1 v H') (fun _ _ _ _ z=>z) (aA3 h)
theorem aIA (h:PDE X e te) (he:∀ whole,isTrue e X.env whole = (do let v <- whole;standAt e.pos;holding [v] (truthy v)):=by intro _;rfl):PDT X e (yS te) :=
 aBP (aIj h he) fun σ H Q h=>aA3 h
noncomputable def aJN (t u:DT):DT:=fun ρ M Q=>t ρ M fun c M1=>if c = true then u ρ M1 Q else Q false M1
noncomputable def dOr (t u:DT):DT:=fun ρ M Q=>t ρ M fun c M1=>if c = true then Q true M1 else u ρ M1 Q
noncomputable def aJT (t:DT):DT:=fun ρ M Q=>t ρ M fun c M1=>Q (!c) M1
variable {cJ:List Expr}
theorem aFS (ha:PDT X a tA):PDW X (.BoolOp .And [a] pos) tA:=aG3 ha
theorem aHO (ha:PDT X a tA):PDW X (.BoolOp .Or [a] pos) tA:=aJc ha
theorem aJ2 (ha:PDT X a tA) (hb:PDW X (.BoolOp .And (b :: cJ) pos) tB):PDW X (.BoolOp .And (a :: b :: cJ) pos) (aJN tA tB) :=
 aEl (aKd ha hb) fun σ H Q ⟨ρ,M,Q',re,hm,q,k⟩=>⟨ρ,M,_,re,hm,q,fun c H1 ⟨M1,hm1,e1,q1⟩=>by
  cases c with
  | true=>exact ⟨ρ,M1,_,re.ext e1,hm1,q1,fun v H' z=>k v H' (z.back e1)⟩
  | false=>exact k false H1 ⟨M1,hm1,e1,q1⟩⟩
theorem aKA (ha:PDT X a tA) (hb:PDW X (.BoolOp .Or (b :: cJ) pos) tB):PDW X (.BoolOp .Or (a :: b :: cJ) pos) (dOr tA tB) :=
 aEl (aK6 ha hb) fun σ H Q ⟨ρ,M,Q',re,hm,q,k⟩=>⟨ρ,M,_,re,hm,q,fun c H1 ⟨M1,hm1,e1,q1⟩=>by
  cases c with
  | false=>exact ⟨ρ,M1,_,re.ext e1,hm1,q1,fun v H' z=>k v H' (z.back e1)⟩
  | true=>exact k true H1 ⟨M1,hm1,e1,q1⟩⟩
theorem aMk (h:PDW X e tA):PDT X e tA:=PW.pt h
theorem aH0 (ha:PDT X a tA):PDT X (.UnaryOp .Not a pos) (aJT tA) :=
 aBP (aJz ha) fun σ H Q ⟨ρ,M,Q',re,hm,q,k⟩=>⟨ρ,M,_,re,hm,q,fun c H1 ⟨M1,hm1,e1,q1⟩=>k (!c) H1 ⟨M1,hm1,e1,q1⟩⟩
noncomputable def aEY (ta tb:DE):DE:=fun ρ M Q=>ta ρ M fun x M1=>match x with
 | .bl c=>if c = true then tb ρ M1 Q else Q (.bl false) M1
 | _=>False
noncomputable def aIf (ta tb:DE):DE:=fun ρ M Q=>ta ρ M fun x M1=>match x with
 | .bl c=>if c = true then Q (.bl true) M1 else tb ρ M1 Q
 | _=>False
noncomputable def aEq (ta:DE):DE:=fun ρ M Q=>ta ρ M fun x M1=>match x with
 | .bl c=>Q (.bl (!c)) M1
 | _=>False
theorem aH4 {op} (h:PDE X a ta):PDE X (.BoolOp op [a] pos) ta:=aII h
theorem aJV (ha:PDE X a ta) (hb:PDE X (.BoolOp .And (b :: cJ) pos) tb):PDE X (.BoolOp .And (a :: b :: cJ) pos) (aEY ta tb) :=
 cM (aKf ha hb) fun σ H Q ⟨ρ,M,Q',re,hm,q,k⟩=>⟨ρ,M,_,re,hm,q,fun x H1 ⟨d,M1,rd,hm1,e1,q1⟩=>by
  cases d with
  | bl c =>
   refine ⟨c,cL rd,?_⟩
   cases c with
   | true=>exact ⟨ρ,M1,_,re.ext e1,hm1,q1,fun v H' z=>k v H' (z.back e1)⟩
   | false=>exact k _ H1 ⟨_,M1,eA,hm1,e1,q1⟩
  | _=>exact q1.elim⟩
theorem aKO (ha:PDE X a ta) (hb:PDE X (.BoolOp .Or (b :: cJ) pos) tb):PDE X (.BoolOp .Or (a :: b :: cJ) pos) (aIf ta tb) :=
 cM (aLO ha hb) fun σ H Q ⟨ρ,M,Q',re,hm,q,k⟩=>⟨ρ,M,_,re,hm,q,fun x H1 ⟨d,M1,rd,hm1,e1,q1⟩=>by
  cases d with
  | bl c =>
   refine ⟨c,cL rd,?_⟩
   cases c with
   | false=>exact ⟨ρ,M1,_,re.ext e1,hm1,q1,fun v H' z=>k v H' (z.back e1)⟩
   | true=>exact k _ H1 ⟨_,M1,eA,hm1,e1,q1⟩
  | _=>exact q1.elim⟩
theorem aI7 (ha:PDE X a ta):PDE X (.UnaryOp .Not a pos) (aEq ta) :=
 cM (aI3 ha) fun σ H Q ⟨ρ,M,Q',re,hm,q,k⟩=>⟨ρ,M,_,re,hm,q,fun x H1 ⟨d,M1,rd,hm1,e1,q1⟩=>by
  cases d with
  | bl c=>exact ⟨c,cL rd,k _ H1 ⟨_,M1,eA,hm1,e1,q1⟩⟩
  | _=>exact q1.elim⟩
noncomputable def aIN (t:DT) (ta tb:DE):DE:=fun ρ M Q=>t ρ M fun c M1=>if c = true then ta ρ M1 Q else tb ρ M1 Q
theorem aEd (hc:PDT X c tA) (ha:PDE X a ta) (hb:PDE X b tb):PDE X (.IfExp c a b pos) (aIN tA ta tb) :=
 cM (aFo hc ha hb) fun σ H Q ⟨ρ,M,Q',re,hm,q,k⟩=>⟨ρ,M,_,re,hm,q,fun c H1 ⟨M1,hm1,e1,q1⟩=>by
  cases c with
  | true=>exact ⟨ρ,M1,_,re.ext e1,hm1,q1,fun v H' z=>k v H' (z.back e1)⟩
  | false=>exact ⟨ρ,M1,_,re.ext e1,hm1,q1,fun v H' z=>k v H' (z.back e1)⟩⟩
noncomputable def aBM:DA:=fun _ M Q=>Q [] M
noncomputable def aC2 (ta:DE) (tr:DA):DA:=fun ρ M Q=>ta ρ M fun x M1=>tr ρ M1 fun xs M2=>Q (x :: xs) M2
theorem aDU:PDA X [] aBM:=aE2 aAi fun σ H Q ⟨ρ,M,Q',re,hm,q,k⟩=>k [] H ⟨[],M,cO,hm,.refl H,q⟩
theorem aCq (ha:PDE X e te) (hr:PDA X es t) (hs:starEach (e :: es) X.env = (false,eval e X.env) :: starEach es X.env:=by rfl):PDA X (e :: es) (aC2 te t) :=
 aE2 (lI ha hr hs) fun σ H Q ⟨ρ,M,Q',re,hm,q,k⟩=>⟨ρ,M,_,re,hm,q,fun x H1 ⟨dx,M1,rx,hm1,e1,q1⟩=>⟨ρ,M1,_,re.ext e1,hm1,q1,fun xs H2 ⟨dxs,M2,rxs,hm2,e2,q2⟩ =>
  k _ H2 ⟨dx :: dxs,M2,cC (rx.ext e2) rxs,hm2,e1.trans e2,q2⟩⟩⟩
noncomputable def aJ6 (t:DA):DE:=fun ρ M Q=>t ρ M fun xs M1=>xs.length<=1000/\Q (.tup xs) M1
noncomputable def aJG (t:DA):DE:=fun ρ M Q=>t ρ M fun xs M1=>xs.length<=1000/\∀ p:Addr,M1 p = none->Q (.ref p) (bE M1 p xs)
theorem aIX {x1} (h:PDA X es t):PDE X (.Tuple es x1 pos) (aJ6 t) :=
 cM (aI4 h) fun σ H Q ⟨ρ,M,Q',re,hm,q,k⟩=>⟨ρ,M,_,re,hm,q,fun xs H1 ⟨ds,M1,rs,hm1,e1,q1,q2⟩=>⟨by rw [<- rs.length];exact Nat.le_of_lt (cY q1),fun p hp =>
  k _ _ ⟨.tup ds,M1,cE (.of dF) (rs.ext (Ext.new hp _)),hm1.new hp _,e1.trans (Ext.new hp _),q2⟩⟩⟩
theorem aHR (h:PDA X es t):PDE X (.List es pos) (aJG t) :=
 cM (aIM h) fun σ H Q ⟨ρ,M,Q',re,hm,q,k⟩=>⟨ρ,M,_,re,hm,q,fun xs H1 ⟨ds,M1,rs,hm1,e1,q1,q2⟩=>⟨by rw [<- rs.length];exact Nat.le_of_lt (cY q1),fun p hp =>
  k _ _ ⟨.ref p,_,fY,hm1.lnew hp rs,e1.trans (Ext.new hp _),q2 p (hm1.fresh hp)⟩⟩⟩
end
end Dd
namespace Dd
open PySem PySem.Spec PyProof.Rows L2
section
variable {X:Cx} {st:Stmt} {cJ:List Stmt} {t u:DS} {e:Expr} {te:DE} {pos:Pos}
noncomputable def aFN:DS:=fun E ρ M=>E.nx ρ M
noncomputable def aJa (t u:DS):DS:=fun E ρ M=>t { E with nx:=u E } ρ M
theorem aFV:iV X [] aFN:=aAI aGV fun E σ H ⟨ρ,M,D,re,hm,q,k⟩=>k.nx σ H ⟨ρ,M,re,hm,.refl H,q⟩
theorem aFH (h1:PDS X st t) (h2:iV X cJ u):iV X (st :: cJ) (aJa t u) :=
 aAI (aBj h1 h2) fun E σ H ⟨ρ,M,D,re,hm,q,k⟩=>⟨ρ,M,{ D with nx:=u D },re,hm,q,
  ⟨fun σ' H' ⟨ρ',M',re',hm',ex,q'⟩=>⟨ρ',M',D,re',hm',q',k.at ex⟩,k.rt,k.bk,k.ct⟩⟩
theorem aHh (h1:PDS X st t):iV X [st] t:=aHf h1
noncomputable def aEj (te:DE):DS:=fun E ρ M=>te ρ M fun _ M1=>E.nx ρ M1
theorem aGy (he:PDE X e te) (hs:swapsWith e none pos.line X.env = pure false:=by rfl):PDS X (.Expr e pos) (aEj te) :=
 gM (aGI he hs) fun E σ H ⟨ρ,M,D,re,hm,q,k⟩=>⟨ρ,M,_,re,hm,q,fun v H1 ⟨d,M1,rd,hm1,ex,q1⟩=>k.nx σ H1 ⟨ρ,M1,re.ext ex,hm1,ex,q1⟩⟩
noncomputable def aJf (te:DE):DS:=fun E ρ M=>te ρ M E.rt
theorem aIO (he:PDE X e te):PDS X (.Return (some e) pos) (aJf te) :=
 gM (aIu he) fun E σ H ⟨ρ,M,D,re,hm,q,k⟩=>⟨ρ,M,_,re,hm,q,k.rt⟩
noncomputable def aHU (c:DT) (t u:DS):DS:=fun E ρ M=>c ρ M fun b M1=>if b = true then t E ρ M1 else u E ρ M1
theorem aKu {c:Expr} {a b:List Stmt} {tc:DT} (hc:PDT X c tc) (ha:iV X a t) (hb:iV X b u):PDS X (.If c a b pos) (aHU tc t u) :=
 gM (aLS hc ha hb) fun E σ H ⟨ρ,M,D,re,hm,q,k⟩=>⟨ρ,M,_,re,hm,q,fun b H1 ⟨M1,hm1,ex,q1⟩=>by
  cases b with
  | true=>exact ⟨ρ,M1,D,re.ext ex,hm1,q1,k.at ex⟩
  | false=>exact ⟨ρ,M1,D,re.ext ex,hm1,q1,k.at ex⟩⟩
noncomputable def uR:DS:=fun _ _ _=>False
theorem aEv:PDS X st uR:=fun _ _ _ _ _ _ ⟨_,_,_,_,_,q,_⟩=>q.elim
theorem aDm {sts:List Stmt}:iV X sts uR:=fun _ _ _ _ _ _ ⟨_,_,_,_,_,q,_⟩=>q.elim
end
section
variable {X:Cx} {pos:Pos} {e tg:Expr} {es:List Expr} {te:DE}
noncomputable def gN (i:Nat):DG:=fun d ρ M Q=>Q (ρ.set i (some d)) M
theorem aGE {i:Nat} {x:Str} (hN:X.N.Nodup) (hi:X.N[i]? = some x:=by rfl) (hx:Loc X.env.scope x:=by first | exact Or.inl rfl | exact Or.inr rfl) (hf:X.fn x = true ∨ X.env.scope.names.lookup x = some .local:=by first | exact .inl rfl | exact .inr rfl | assumption):PDG X (.Name x pos) (gN i) :=
 aBS (aGL (i:=i) hN hi hx hf) fun v σ H Q ⟨d,ρ,M,Q',rd,re,hm,q,k⟩=>k _ H ⟨_,M,re.set rd i,hm,.refl H,q⟩
noncomputable def gNl:DGs:=fun ds ρ M Q=>match ds with
 | []=>Q ρ M
 | _=>False
noncomputable def gCn (t:DG) (u:DGs):DGs:=fun ds ρ M Q=>match ds with
 | d :: r=>t d ρ M fun ρ' M'=>u r ρ' M' Q
 | []=>False
theorem aHg:aBb X [] gNl:=aCB aHp fun v σ H Q ⟨ds,ρ,M,Q',rd,re,hm,q,k⟩=>by
 cases ds with
 | nil=>exact ⟨bR rd,k σ H ⟨ρ,M,re,hm,.refl H,q⟩⟩
 | cons _ _=>exact q.elim
theorem aFh {t:DG} {u:DGs} (h1:PDG X e t) (h2:aBb X es u) (hs:(assignEach (e :: es) X.env).map (·.2) = assign e X.env :: (assignEach es X.env).map (·.2):=by rfl):aBb X (e :: es) (gCn t u) :=
 aCB (aFC h1 h2 hs) fun v σ H Q ⟨ds,ρ,M,Q',rd,re,hm,q,k⟩=>by
  cases ds with
  | nil=>exact q.elim
  | cons d r =>
   obtain ⟨x,xs,rfl,rx,rxs⟩:=aY rd
   exact ⟨x,xs,rfl,d,ρ,M,_,rx,re,hm,q,fun σ' H' ⟨ρ',M',re',hm',ex,q'⟩=>⟨r,ρ',M',Q',rxs.ext ex,re',hm',q',fun σ2 H2 z=>k σ2 H2 (z.back ex)⟩⟩
noncomputable def gT (n:Nat) (t:DGs):DG:=fun d ρ M Q=>match d with
 | .tup ds=>ds.length = n/\t ds ρ M Q
 | _=>False
theorem aH6 {k:Nat} {t:DGs} {n:Nat} (hc:X.calm = true) (h:aBb X es t) (hn:(assignEach es X.env).length = n:=by rfl) (hst:(assignEach es X.env).findIdx? (·.1) = none:=by rfl):PDG X (.Tuple es k pos) (gT n t) :=
 aBS (aKl hc h hn hst) fun v σ H Q ⟨d,ρ,M,Q',rd,re,hm,q,k⟩=>by
  cases d with
  | tup ds =>
   obtain ⟨a,xs,rfl,sq,rs⟩:=bM rd
   exact ⟨a,xs,rfl,sq,by rw [<- rs.length];exact q.1,ds,ρ,M,Q',rs,re,hm,q.2,k⟩
  | _=>exact q.elim
noncomputable def aDw (te:DE) (g:DG):DS:=fun E ρ M=>te ρ M fun x M1=>g x ρ M1 E.nx
theorem aF1 {g:DG} {σ:L2.St} {H:Hp} {E:pT} (h:aDR X.K (aDw te g) E σ H):low X.K te σ H fun x H1=>xG X.K g x σ H1 E.nx:=by
 obtain ⟨ρ,M,D,re,hm,q,k⟩:=h
 exact ⟨ρ,M,_,re,hm,q,fun v H1 ⟨d,M1,rd,hm1,ex,q1⟩=>⟨d,ρ,M1,_,rd,re.ext ex,hm1,q1,fun σ' H' z=>k.nx σ' H' (z.back ex)⟩⟩
theorem aJg {g:DG} (he:PDE X e te) (hg:PDG X tg g) (hs:swapsWithSole [tg] e pos.line X.env = pure false:=by rfl) (hw:swappedStores [tg] e X.env = pure none:=by rfl)
  (h1:(assignEach [tg] X.env).map (·.2) = [assign tg X.env]:=by rfl):PDS X (.Assign [tg] e pos) (aDw te g) :=
 gM (aKa he hg hs hw h1) fun E σ H h=>aF1 h
theorem aIG {i:Nat} {x:Str} {pos':Pos} (hN:X.N.Nodup) (he:PDE X e te) (hi:X.N[i]? = some x:=by rfl) (hx:Loc X.env.scope x:=by first | exact Or.inl rfl | exact Or.inr rfl) (hs:swapsWith e (some (.Name x pos')) pos.line X.env = pure false:=by rfl) (hf:X.fn x = true ∨ X.env.scope.names.lookup x = some .local:=by first | exact .inl rfl | exact .inr rfl | assumption) :
  PDS X (.Assign [.Name x pos'] e pos) (aDw te (gN i)) :=
 gM (aKh (i:=i) hN hi hx he hs hf) fun E σ H ⟨ρ,M,D,re,hm,q,k⟩=>⟨ρ,M,_,re,hm,q,fun v H1 ⟨d,M1,rd,hm1,ex,q1⟩=>k.nx _ H1 ⟨_,M1,(re.ext ex).set rd i,hm1,ex,q1⟩⟩
noncomputable def aIh (i j:Nat) (ta:DA):DS:=fun E ρ M=>ta ρ M fun ds M1=>match ds with
 | [x,y]=>E.nx ((ρ.set i (some x)).set j (some y)) M1
 | _=>False
theorem aIa {i j:Nat} {x y:Str} {a b:Expr} {ta:DA} {px py pt:Pos} {kt k2 pt2} (hc:X.calm = true) (hN:X.N.Nodup) (ha:PDA X [a,b] ta) (hi:X.N[i]? = some x:=by rfl) (hj:X.N[j]? = some y:=by rfl) (hij:i ≠ j:=by decide)
  (hx:X.env.scope.names.lookup x = some .local:=by rfl) (hy:X.env.scope.names.lookup y = some .local:=by rfl)
  (hw:swappedStores [.Tuple [.Name x px,.Name y py] kt pt] (.Tuple [a,b] k2 pt2) X.env = pure (some [x,y]):=by rfl)
  (hs:swapsWithSole [.Tuple [.Name x px,.Name y py] kt pt] (.Tuple [a,b] k2 pt2) pos.line X.env = pure false:=by rfl) :
  PDS X (.Assign [.Tuple [.Name x px,.Name y py] kt pt] (.Tuple [a,b] k2 pt2) pos) (aIh i j ta) :=
 gM (aH8 (i:=i) (j:=j) hc hN hi hj hij hx hy ha hw hs) fun E σ H ⟨ρ,M,D,re,hm,q,k⟩=>⟨ρ,M,_,re,hm,q,fun vs H1 ⟨ds,M1,rs,hm1,ex,q1⟩=>by
  match ds,q1 with
  | [d1,d2],q1 =>
   obtain ⟨v1,r1,rfl,rv1,rr1⟩:=aY rs
   obtain ⟨v2,r2,rfl,rv2,rr2⟩:=aY rr1
   obtain rfl:=bR rr2
   exact ⟨v1,v2,rfl,k.nx _ H1 ⟨_,M1,((re.ext ex).set rv1 i).set rv2 j,hm1,ex,q1⟩⟩
  | [],q1=>exact q1.elim
  | [_],q1=>exact q1.elim
  | _ :: _ :: _ :: _,q1=>exact q1.elim⟩
end
section
variable {X:Cx} {pos:Pos}
noncomputable def aB9 (c:DT) (tb:DS):DS:=fun E ρ M=>∃ W:Nat->cF->DM->Prop,(∃ m,W m ρ M)/\∀ m ρ M,W m ρ M ->
 c ρ M fun b M1=>if b = true then tb { E with nx:=fun ρ' M'=>∃ m',m' < m/\W m' ρ' M',ct:=fun ρ' M'=>∃ m',m' < m/\W m' ρ' M',bk:=E.nx } ρ M1 else E.nx ρ M1
theorem aDV {c:Expr} {body:List Stmt} {tc:DT} {tb:DS} (hp:PassesOwn (model X.prog X.w) X.A X.env X.xe) (hc:PDT X c tc) (hb:iV X body tb):PDS X (.While c body [] pos) (aB9 tc tb) :=
 gM (aEW hp hc hb) fun E σ H ⟨ρ,M,D,re,hm,⟨W,⟨m0,w0⟩,turn⟩,k⟩=>by
  refine ⟨fun m σ' H'=>∃ ρ' M',eZ X.K H' ρ' σ'/\bK X.K M' H'/\Ext H H'/\W m ρ' M',⟨m0,ρ,M,re,hm,.refl H,w0⟩,?_⟩
  rintro m σ1 H1 ⟨ρ1,M1,re1,hm1,e1,w1⟩
  refine ⟨ρ1,M1,_,re1,hm1,turn m ρ1 M1 w1,fun b H2 ⟨M2,hm2,e2,q2⟩=>?_⟩
  cases b with
  | false=>exact k.nx σ1 H2 ⟨ρ1,M2,re1.ext e2,hm2,e1.trans e2,q2⟩
  | true =>
   refine ⟨fun σ' H'=>∃ m',m' < m/\∃ ρ' M',eZ X.K H' ρ' σ'/\bK X.K M' H'/\Ext H H'/\W m' ρ' M',fun σ' H' z=>z,?_⟩
   refine ⟨ρ1,M2,_,re1.ext e2,hm2,q2,?_⟩
   have ex:=e1.trans e2
   exact ⟨fun σ' H' ⟨ρ',M',a,b,c,m',l,d⟩=>⟨m',l,ρ',M',a,b,ex.trans c,d⟩,fun v H' z=>k.rt v H' (z.back ex),fun σ' H' z=>k.nx σ' H' (z.back ex),fun σ' H' ⟨ρ',M',a,b,c,m',l,d⟩=>⟨m',l,ρ',M',a,b,ex.trans c,d⟩⟩
theorem kN {c:DT} {tb:DS} {E:fO} {ρ:cF} {M:DM} (Pv:Nat->cF->DM->Prop) (m0:Nat) (h0:Pv m0 ρ M)
  (hs:∀ m ρ M,Pv m ρ M->c ρ M fun b M1=>if b = true then tb { E with nx:=fun ρ' M'=>∃ m',m' < m/\Pv m' ρ' M',ct:=fun ρ' M'=>∃ m',m' < m/\Pv m' ρ' M',bk:=E.nx } ρ M1 else E.nx ρ M1):aB9 c tb E ρ M:=⟨Pv,⟨m0,h0⟩,hs⟩
noncomputable def dIt (at':Option Addr) (ds:List D) (g:DG) (tb:DS):DS:=fun E ρ M=>∃ Pv:Nat->cF->DM->Prop,Pv 0 ρ M /\
 (∀ i ρ M,i<=ds.length->Pv i ρ M->∀ a,at' = some a->M a = some ds) /\
 (∀ i d ρ M,ds[i]? = some d->Pv i ρ M->g d ρ M fun ρ2 M2=>tb { E with nx:=Pv (i + 1),ct:=Pv (i + 1),bk:=E.nx } ρ2 M2)/\∀ ρ M,Pv ds.length ρ M->E.nx ρ M
noncomputable def aBx (tl:DE) (g:DG) (tb:DS):DS:=fun E ρ M=>tl ρ M fun d M1=>match d with
 | .tup ds=>dIt none ds g tb E ρ M1
 | _=>False
noncomputable def aBk (tl:DE) (g:DG) (tb:DS):DS:=fun E ρ M=>tl ρ M fun d M1=>match d with
 | .fz ds=>dIt none ds g tb E ρ M1
 | .ref a=>∃ ds,M1 a = some ds/\dIt (some a) ds g tb E ρ M1
 | _=>False
variable {iter tg:Expr} {body:List Stmt} {tl:DE} {g:DG} {tb:DS}
theorem aEJ {K:PySem.W.Frag} {a':Option Addr} {ds:List D} {E:pT} {Dn:fO} {σ:L2.St} {ρ:cF} {M:DM} {H0 H:Hp} {J:It} (ex0:Ext H0 H) (re:eZ K H ρ σ) (hm:bK K M H) (k:iW K H0 Dn E) (h:dIt a' ds g tb Dn ρ M)
  (seq:∀ H',Ext H H'->(∀ M',bK K M' H'->(∀ a,a' = some a->M' a = some ds)->∃ xs,bN K H' ds xs/\(∀ i,xs.length<=i->J.stop i H')/\(∀ i,i < xs.length->J.go i H')/\∀ i x H2,J.yld i H' x H2->H2 = H'/\xs[i]? = some x)) :
  ∃ W:Nat->Nat->L2.St->Hp->Prop,(∃ m,W 0 m σ H)/\∀ i m σ H,W i m σ H ->
   (J.stop i H/\E.nx σ H) ∨ (J.go i H/\∃ N:L2.St->Hp->Prop,(∀ σ' H',N σ' H'->∃ m',m' < m/\W (i + 1) m' σ' H')/\∀ x H',J.yld i H x H'->xG K g x σ H' fun σ2 H2=>aDR K tb { E with nx:=N,ct:=N,bk:=E.nx } σ2 H2):=by
 obtain ⟨Pv,p0,hat,step,done⟩:=h
 refine ⟨fun i m σ' H'=>∃ ρ' M',eZ K H' ρ' σ'/\bK K M' H'/\Ext H H'/\m = ds.length - i/\i<=ds.length/\Pv i ρ' M',⟨ds.length,ρ,M,re,hm,.refl H,rfl,Nat.zero_le _,p0⟩,?_⟩
 rintro i m σ1 H1 ⟨ρ1,M1,re1,hm1,e1,rfl,hi,w1⟩
 obtain ⟨xs,rs,hst,hgo,hy⟩:=seq H1 e1 M1 hm1 (hat i ρ1 M1 hi w1)
 have hl:=rs.length
 by_cases hlt:i < ds.length
 ·refine .inr ⟨hgo i (by omega),fun σ' H'=>∃ ρ' M',eZ K H' ρ' σ'/\bK K M' H'/\Ext H H'/\Pv (i + 1) ρ' M',fun σ' H' ⟨ρ',M',a,b,c,d⟩=>⟨ds.length - (i + 1),by omega,ρ',M',a,b,c,rfl,hlt,d⟩,fun x H' y=>?_⟩
  obtain ⟨rfl,hx⟩:=hy i x H' y
  obtain ⟨d,hd,rd⟩:=rs.getV hx
  refine ⟨d,ρ1,M1,_,rd,re1,hm1,step i d ρ1 M1 hd w1,fun σ2 H2 ⟨ρ2,M2,re2,hm2,e2,q2⟩=>⟨ρ2,M2,_,re2,hm2,q2,?_⟩⟩
  have ex:=e1.trans e2
  exact ⟨fun σ' H' ⟨ρ',M',a,b,c,d⟩=>⟨ρ',M',a,b,ex.trans c,d⟩,fun v H' z=>k.rt v H' (z.back (ex0.trans ex)),fun σ' H' z=>k.nx σ' H' (z.back (ex0.trans ex)),fun σ' H' ⟨ρ',M',a,b,c,d⟩=>⟨ρ',M',a,b,ex.trans c,d⟩⟩
 ·have e:i = ds.length:=by omega
  subst e
  exact .inl ⟨hst _ (by omega),k.nx σ1 H1 ⟨ρ1,M1,re1,hm1,ex0.trans e1,done ρ1 M1 w1⟩⟩
noncomputable def aLG (lo:Int) (n:Nat) (g:DG) (tb:DS):DS:=fun E ρ M=>∃ Pv:Nat->cF->DM->Prop,Pv 0 ρ M /\
 (∀ i ρ M,i < n->Pv i ρ M->g (.int (lo + i)) ρ M fun ρ2 M2=>tb { E with nx:=Pv (i + 1),ct:=Pv (i + 1),bk:=E.nx } ρ2 M2)/\∀ ρ M,Pv n ρ M->E.nx ρ M
noncomputable def aD6 (ta:DA) (g:DG) (tb:DS):DS:=fun E ρ M=>ta ρ M fun ds M1=>match ds with
 | [.int j]=>(-(2 ^ 62)<=j/\j < 2 ^ 62)/\aLG 0 j.toNat g tb E ρ M1
 | _=>False
theorem aIE {K:PySem.W.Frag} {lo:Int} {n:Nat} {E:pT} {Dn:fO} {σ:L2.St} {ρ:cF} {M:DM} {H0 H:Hp} (ex0:Ext H0 H) (re:eZ K H ρ σ) (hm:bK K M H) (k:iW K H0 Dn E) (h:aLG lo n g tb Dn ρ M) :
  ∃ W:Nat->Nat->L2.St->Hp->Prop,(∃ m,W 0 m σ H)/\∀ i m σ H,W i m σ H ->
   ((Itr lo n).stop i H/\E.nx σ H) ∨ ((Itr lo n).go i H/\∃ N:L2.St->Hp->Prop,(∀ σ' H',N σ' H'->∃ m',m' < m/\W (i + 1) m' σ' H')/\∀ x H',(Itr lo n).yld i H x H'->xG K g x σ H' fun σ2 H2=>aDR K tb { E with nx:=N,ct:=N,bk:=E.nx } σ2 H2):=by
 obtain ⟨Pv,p0,step,done⟩:=h
 refine ⟨fun i m σ' H'=>∃ ρ' M',eZ K H' ρ' σ'/\bK K M' H'/\Ext H H'/\m = n - i/\i<=n/\Pv i ρ' M',⟨n,ρ,M,re,hm,.refl H,rfl,Nat.zero_le _,p0⟩,?_⟩
 rintro i m σ1 H1 ⟨ρ1,M1,re1,hm1,e1,rfl,hi,w1⟩
 by_cases hlt:i < n
 ·refine .inr ⟨hlt,fun σ' H'=>∃ ρ' M',eZ K H' ρ' σ'/\bK K M' H'/\Ext H H'/\Pv (i + 1) ρ' M',fun σ' H' ⟨ρ',M',a,b,c,d⟩=>⟨n - (i + 1),by omega,ρ',M',a,b,c,rfl,hlt,d⟩,fun x H' y=>?_⟩
  obtain ⟨rfl,rfl⟩:=y
  refine ⟨_,ρ1,M1,_,bY,re1,hm1,step i ρ1 M1 hlt w1,fun σ2 H2 ⟨ρ2,M2,re2,hm2,e2,q2⟩=>⟨ρ2,M2,_,re2,hm2,q2,?_⟩⟩
  have ex:=e1.trans e2
  exact ⟨fun σ' H' ⟨ρ',M',a,b,c,d⟩=>⟨ρ',M',a,b,ex.trans c,d⟩,fun v H' z=>k.rt v H' (z.back (ex0.trans ex)),fun σ' H' z=>k.nx σ' H' (z.back (ex0.trans ex)),fun σ' H' ⟨ρ',M',a,b,c,d⟩=>⟨ρ',M',a,b,ex.trans c,d⟩⟩
 ·have e:i = n:=by omega
  subst e
  exact .inl ⟨Nat.le_refl _,k.nx σ1 H1 ⟨ρ1,M1,re1,hm1,ex0.trans e1,done ρ1 M1 w1⟩⟩
end
end Dd
namespace Dd
open PySem PySem.Spec PyProof.Rows L2
section
variable {X:Cx} {pos:Pos} {iter tg:Expr} {body:List Stmt} {tl:DE} {g:DG} {tb:DS} {ta:DA}
theorem aCn (hp:PassesOwn (model X.prog X.w) X.A X.env X.xe) (hc:X.calm = true) (hi:PDE X iter tl) (hg:PDG X tg g) (hb:iV X body tb) (hs:∀ x,foldedSetIterable iter X.env x = pure x:=by intro _;rfl):PDS X (.For tg iter body [] pos) (aBx tl g tb) :=
 gM (aAK hp hc (aEt hi) hg hb hs) fun E σ H ⟨ρ,M,Dn,re,hm,q,k⟩=>⟨ρ,M,_,re,hm,q,fun v H1 ⟨d,M1,rd,hm1,ex,q1⟩=>by
  cases d with
  | tup ds =>
   obtain ⟨a,xs,rfl,sq,rs⟩:=bM rd
   refine ⟨a,rfl,⟨xs,sq⟩,aEJ ex (re.ext ex) hm1 k q1 fun H' e' M' hm' _=>⟨xs,rs.ext e',fun i hi=>⟨xs,mD e' sq,hi⟩,fun i hi=>⟨xs,xs[i],mD e' sq,by simp [hi]⟩,fun i x H2 y=>⟨y.1,y.2 xs (mD e' sq)⟩⟩⟩
  | _=>exact q1.elim⟩
theorem aCM (hp:PassesOwn (model X.prog X.w) X.A X.env X.xe) (hc:X.calm = true) (hi:PDE X iter tl) (hg:PDG X tg g) (hb:iV X body tb) (hs:∀ x,foldedSetIterable iter X.env x = pure x:=by intro _;rfl):PDS X (.For tg iter body [] pos) (aBk tl g tb) :=
 gM (aAK hp hc (tU hi) hg hb hs) fun E σ H ⟨ρ,M,Dn,re,hm,q,k⟩=>⟨ρ,M,_,re,hm,q,fun v H1 ⟨d,M1,rd,hm1,ex,q1⟩=>by
  cases d with
  | fz ds =>
   obtain ⟨a,xs,rfl,sq,rs⟩:=jZ rd
   exact ⟨a,rfl,⟨xs,sq.sq⟩,aEJ ex (re.ext ex) hm1 k q1 fun H' e' M' hm' _=>⟨xs,rs.ext e',fun i hi=>⟨xs,(fF e' sq).sq,hi⟩,fun i hi=>⟨xs,xs[i],(fF e' sq).sq,by simp [hi]⟩,fun i x H2 y=>⟨y.1,y.2 xs (fF e' sq).sq⟩⟩⟩
  | ref a =>
   obtain ⟨ds,ha,q1⟩:=q1
   obtain rfl:=aT rd
   obtain ⟨xs,hx,rs⟩:=hm1.l a ds ha
   refine ⟨a,rfl,⟨xs,.of hx⟩,aEJ ex (re.ext ex) hm1 k q1 fun H' e' M' hm' hat=>?_⟩
   obtain ⟨ys,hy,rs'⟩:=hm'.l a ds (hat a rfl)
   exact ⟨ys,rs',fun i hi=>⟨ys,.of hy,hi⟩,fun i hi=>⟨ys,ys[i],.of hy,by simp [hi]⟩,fun i x H2 y=>⟨y.1,y.2 ys (.of hy)⟩⟩
  | _=>exact q1.elim⟩
theorem aGX {a:Expr} {p pos':Pos} (hp:PassesOwn (model X.prog X.w) X.A X.env X.xe) (hc:X.calm = true) (hmg:X.mg "range" = none) (ha:PDA X [a] ta) (hg:PDG X tg g) (hb:iV X body tb) (hgl:Gl X "range":=by rfl) (hse:starEach [a] X.env = [(false,eval a X.env)]:=by rfl)
  (hs:∀ x,foldedSetIterable (.Call (.Name "range" p) [a] [] pos') X.env x = pure x:=by intro _;rfl):PDS X (.For tg (.Call (.Name "range" p) [a] [] pos') body [] pos) (aD6 ta g tb) :=
 gM (aAK hp hc (aDi hgl hmg ha hse) hg hb hs) fun E σ H ⟨ρ,M,Dn,re,hm,q,k⟩=>⟨ρ,M,_,re,hm,q,fun vs H1 ⟨ds,M1,rs,hm1,ex,q1⟩=>by
  rcases ds with _ | ⟨d,_ | ⟨d2,r⟩⟩
  ·exact q1.elim
  ·cases d with
   | int j =>
    obtain ⟨⟨j1,j2⟩,q1⟩:=q1
    obtain ⟨v1,r1,rfl,rv1,rr1⟩:=aY rs
    obtain rfl:=bR rr1
    obtain rfl:=aV rv1
    exact ⟨j,rfl,j1,j2,aIE ex (re.ext ex) hm1 k q1⟩
   | _=>exact q1.elim
  ·cases d<;>exact q1.elim⟩
end
mutual
noncomputable def eqD:D->D->Bool
 | .tup xs,.tup ys=>kR xs ys
 | .non,.non=>true
 | .bl a,.bl b=>a == b
 | .bl a,.int b=>(if a then 1 else 0) == b
 | .int a,.bl b=>a == (if b then 1 else 0)
 | .int a,.int b=>a == b
 | .str a,.str b=>a == b
 | _,_=>false
noncomputable def kR:List D->List D->Bool
 | [],[]=>true
 | x :: xs,y :: ys=>eqD x y && kR xs ys
 | _,_=>false
end
noncomputable def bH:Nat->D->Bool
 | _,.ref _=>false
 | _,.fz _=>false
 | 0,.tup _=>false
 | n + 1,.tup ds=>ds.all (bH n)
 | _,_=>true
noncomputable def tG:List D->List D->Nat->Bool
 | x :: _,y :: _,0=>eqD x y
 | _ :: xs,_ :: ys,j + 1=>tG xs ys j
 | _,_,_=>true
theorem xC (n:Nat) (e:Nat->Bool):(List.range (n + 1)).all e = (e 0 && (List.range n).all fun j=>e (j + 1)):=by
 rw [List.range_succ_eq_map,List.all_cons,List.all_map]
 rfl
theorem iU:∀ (xs ys:List D),kR xs ys = ((List.range (min xs.length ys.length)).all (tG xs ys) && xs.length == ys.length)
 | [],[]=>by simp [kR]
 | [],_ :: _=>by simp [kR]
 | _ :: _,[]=>by simp [kR]
 | x :: xs,y :: ys=>by
  have ih:=iU xs ys
  have e1:min (x :: xs).length (y :: ys).length = min xs.length ys.length + 1:=by simp only [List.length_cons];omega
  have e2:((x :: xs).length == (y :: ys).length) = (xs.length == ys.length):=by simp
  rw [e1,e2,xC]
  show (eqD x y && kR xs ys) = ((eqD x y && (List.range (min xs.length ys.length)).all fun j=>tG xs ys j) && xs.length == ys.length)
  rw [ih,Bool.and_assoc]
section
variable {X:Cx} {pins:List (Addr × Obj)} {σ:L2.St} {H:Hp} {s:Shared}
theorem yI {n:Nat} {d:D} (p:bH n d = true) (h:∀ xs,d ≠ .tup xs):bH 0 d = true:=by
 cases d with
 | tup xs=>exact absurd rfl (h xs)
 | ref b=>cases n<;>exact absurd p Bool.false_ne_true
 | fz b=>cases n<;>exact absurd p Bool.false_ne_true
 | _=>rfl
theorem qT {d d':D} {v:V} (p:bH 0 d = true) (p':bH 0 d' = true) (r:Rep X.K H d v) (r':Rep X.K H d' v):eqD d d' = true:=by
 cases d<;>cases d'<;>first
  | (exact absurd p Bool.false_ne_true)
  | (exact absurd p' Bool.false_ne_true)
  | (unfold Rep at r r';subst r;cases r'<;>simp [eqD])
theorem vZ {d:D} {a:Addr} (p:bH 0 d = true) (r:Rep X.K H d (.ref a)):False:=by
 cases d<;>first
  | (exact absurd p Bool.false_ne_true)
  | (unfold Rep at r;cases r)
theorem aBc {n:Nat} (ih:∀ {d d':D} {v:V},bH n d = true->bH n d' = true->Rep X.K H d v->Rep X.K H d' v->eqD d d' = true) :
  ∀ {xs ys:List D} {us:List V},xs.all (bH n) = true->ys.all (bH n) = true->bN X.K H xs us->bN X.K H ys us->kR xs ys = true
 | [],[],_,_,_,_,_=>by simp [kR]
 | [],_ :: _,_,_,_,r,r'=>by
  rw [bR r] at r'
  obtain ⟨_,_,z,_⟩:=aY r'
  cases z
 | _ :: _,[],_,_,_,r,r'=>by
  rw [bR r'] at r
  obtain ⟨_,_,z,_⟩:=aY r
  cases z
 | x :: xs,y :: ys,_,p1,p2,r,r'=>by
  obtain ⟨v0,r0,rfl,h1,h2⟩:=aY r
  obtain ⟨v0',r0',e0,h1',h2'⟩:=aY r'
  cases e0
  rw [List.all_cons,Bool.and_eq_true] at p1 p2
  show (eqD x y && kR xs ys) = true
  rw [ih p1.1 p2.1 h1 h1',aBc ih p1.2 p2.2 h2 h2']
  rfl
theorem aF7 (I:Inv X pins σ H s):∀ (n:Nat) {d d':D} {v:V},bH n d = true->bH n d' = true->Rep X.K H d v->Rep X.K H d' v->eqD d d' = true:=by
 intro n
 induction n with
 | zero=>intro d d' v p p' r r';exact qT p p' r r'
 | succ n ih =>
  intro d d' v p p' r r'
  by_cases h1:∃ xs,d = .tup xs
  ·obtain ⟨xs,rfl⟩:=h1
   obtain ⟨a,us,rfl,sq,rs⟩:=bM r
   by_cases h2:∃ ys,d' = .tup ys
   ·obtain ⟨ys,rfl⟩:=h2
    obtain ⟨a',us',e1',sq',rs'⟩:=bM r'
    cases e1'
    obtain rfl:=I.tuple_inj sq sq'
    exact aBc ih p p' rs rs'
   ·exact (vZ (yI p' fun xs e=>h2 ⟨xs,e⟩) r').elim
  ·have p0:=yI p fun xs e=>h1 ⟨xs,e⟩
   by_cases h2:∃ ys,d' = .tup ys
   ·obtain ⟨ys,rfl⟩:=h2
    obtain ⟨a',us',rfl,sq',rs'⟩:=bM r'
    exact (vZ p0 r).elim
   ·exact qT p0 (yI p' fun xs e=>h2 ⟨xs,e⟩) r r'
theorem jC (I:Inv X pins σ H s) {a:Addr} {xs:List V} (sq:SqT X.K H a xs):∃ its:List Value,bT xs its/\s.heap.IsTuple a its.toArray:=let ⟨its,r,p,_⟩:=I.tuple sq;⟨its,r,p⟩
theorem uB {d:D} {v:V} {n:Nat} (h:Rep X.K H d v) (p:bH 0 d = true):aEu v = true:=by
 cases d with
 | non=>unfold Rep at h;subst h;rfl
 | bl b=>unfold Rep at h;subst h;rfl
 | int b=>unfold Rep at h;subst h;rfl
 | str b=>unfold Rep at h;subst h;rfl
 | tup b=>exact absurd p Bool.false_ne_true
 | ref b=>exact absurd p Bool.false_ne_true
 | fz b=>exact absurd p Bool.false_ne_true
theorem rP {A:Around} {n:Nat} (ih:∀ {d d':D} {v v':V} {u u':Value},bH n d = true->bH n d' = true->Rep X.K H d v->Rep X.K H d' v'->bO v u->bO v' u'->SeqAt.EqAt A s u u' (eqD d d')) :
  ∀ {xs ys:List D} {us us':List V} {its its':List Value},xs.all (bH n) = true->ys.all (bH n) = true->bN X.K H xs us->bN X.K H ys us'->bT us its->bT us' its'->∀ j (h1:j < its.length) (h2:j < its'.length),SeqAt.EqAt A s its[j] its'[j] (tG xs ys j)
 | [],ys,us,us',its,its',_,_,r1,_,v1,_,j,h1,_=>by rw [bR r1] at v1;cases v1;exact absurd h1 (Nat.not_lt_zero _)
 | _ :: _,[],us,us',its,its',_,_,_,r2,_,v2,j,_,h2=>by rw [bR r2] at v2;cases v2;exact absurd h2 (Nat.not_lt_zero _)
 | x :: xs,y :: ys,us,us',its,its',p1,p2,r1,r2,v1,v2,j,h1,h2=>by
  obtain ⟨a,ra,rfl,ha,hra⟩:=aY r1
  obtain ⟨b,rb,rfl,hb,hrb⟩:=aY r2
  rw [List.all_cons,Bool.and_eq_true] at p1 p2
  cases v1 with
  | cons q1 w1 =>
   cases v2 with
   | cons q2 w2 =>
    cases j with
    | zero=>exact ih p1.1 p2.1 ha hb q1 q2
    | succ j=>exact rP ih p1.2 p2.2 hra hrb w1 w2 j (Nat.lt_of_succ_lt_succ h1) (Nat.lt_of_succ_lt_succ h2)
theorem aEO {d d':D} {v v':V} (p:bH 0 d = true) (p':bH 0 d' = true) (r:Rep X.K H d v) (r':Rep X.K H d' v'):eqV v v' = eqD d d':=by
 cases d<;>cases d'<;>first
  | (exact absurd p Bool.false_ne_true)
  | (exact absurd p' Bool.false_ne_true)
  | (unfold Rep at r r';subst r;subst r';simp [eqD,eqV])
theorem aCK (I:Inv X pins σ H s):∀ (n:Nat) {A:Around} {d d':D} {v v':V} {u u':Value},A.units + n < cLine->bH n d = true->bH n d' = true->Rep X.K H d v->Rep X.K H d' v'->bO v u->bO v' u'->SeqAt.EqAt A s u u' (eqD d d'):=by
 intro n
 induction n with
 | zero =>
  intro A d d' v v' u u' hu p p' r r' q q'
  have:=aEX (A:=A) (s:=s) q q' (uB (n:=0) r p) (uB (n:=0) r' p')
  rw [aEO p p' r r'] at this
  exact this
 | succ n ih =>
  intro A d d' v v' u u' hu p p' r r' q q'
  by_cases h1:∃ xs,d = .tup xs
  ·obtain ⟨xs,rfl⟩:=h1
   obtain ⟨a,us,rfl,sq,rs⟩:=bM r
   obtain ⟨its,rv,ht⟩:=jC I sq
   cases q
   by_cases h2:∃ ys,d' = .tup ys
   ·obtain ⟨ys,rfl⟩:=h2
    obtain ⟨a',us',rfl,sq',rs'⟩:=bM r'
    obtain ⟨its',rv',ht'⟩:=jC I sq'
    cases q'
    by_cases hll:a = a'
    ·subst hll
     rw [aF7 I (n + 1) p p' r r']
     exact SeqAt.EqAt.same _
    ·have e1:=rs.length
     have e2:=rv.length
     have e3:=rs'.length
     have e4:=rv'.length
     show SeqAt.EqAt A s (.ref a) (.ref a') (kR xs ys)
     rw [iU,show xs.length = its.toArray.size by rw [List.size_toArray];omega,show ys.length = its'.toArray.size by rw [List.size_toArray];omega]
     refine SeqAt.EqAt.of_refs hll (SeqAt.RcAt.tuples ht ht' (by omega) fun j j1 j2=>?_)
     have hu':A.in1.units + n < cLine:=by show A.units + 1 + n < cLine;omega
     have:=rP (A:=A.in1) (s:=s) (fun {d d' v v' u u'} p p' r r' q q'=>ih hu' p p' r r' q q') p p' rs rs' rv rv' j (by simpa using j1) (by simpa using j2)
     simpa using this
   ·have p0:=yI p' (fun xs e=>h2 ⟨xs,e⟩)
    cases d' with
    | non=>rw [dG r'] at q';cases q';exact SeqAt.EqAt.tuple_none ht (by omega)
    | bl b=>rw [cL r'] at q';cases q';exact SeqAt.EqAt.tuple_bool b ht (by omega)
    | int b=>rw [aV r'] at q';obtain ⟨t,rfl⟩:=q';exact SeqAt.EqAt.tuple_int b t ht (by omega)
    | str b=>rw [bU r'] at q';obtain ⟨t,rfl⟩:=q';exact SeqAt.EqAt.tuple_str b t ht (by omega)
    | tup b=>exact absurd p0 Bool.false_ne_true
    | ref b=>exact absurd p0 Bool.false_ne_true
    | fz b=>exact absurd p0 Bool.false_ne_true
  ·have p0:=yI p (fun xs e=>h1 ⟨xs,e⟩)
   by_cases h2:∃ ys,d' = .tup ys
   ·obtain ⟨ys,rfl⟩:=h2
    obtain ⟨a',us',rfl,sq',rs'⟩:=bM r'
    obtain ⟨its',rv',ht'⟩:=jC I sq'
    cases q'
    cases d with
    | non=>rw [dG r] at q;cases q;exact SeqAt.EqAt.none_tuple ht' (by omega)
    | bl b=>rw [cL r] at q;cases q;exact SeqAt.EqAt.bool_tuple b ht' (by omega)
    | int b=>rw [aV r] at q;obtain ⟨t,rfl⟩:=q;exact SeqAt.EqAt.int_tuple b t ht' (by omega)
    | str b=>rw [bU r] at q;obtain ⟨t,rfl⟩:=q;exact SeqAt.EqAt.str_tuple b t ht' (by omega)
    | tup b=>exact absurd p0 Bool.false_ne_true
    | ref b=>exact absurd p0 Bool.false_ne_true
    | fz b=>exact absurd p0 Bool.false_ne_true
   ·have p0':=yI p' (fun xs e=>h2 ⟨xs,e⟩)
    have:=aEX (A:=A) (s:=s) q q' (uB (n:=0) r p0) (uB (n:=0) r' p0')
    rw [aEO p0 p0' r r'] at this
    exact this
theorem aLQ (I:Inv X pins σ H s) {A:Around} (hu:A.units + 60 < cLine) {d d':D} {v v':V} {u u':Value} (p:bH 60 d = true) (p':bH 60 d' = true) (r:Rep X.K H d v) (r':Rep X.K H d' v') (q:bO v u) (q':bO v' u') :
  SeqAt.RcAt A s u u' (eqD d d')/\SeqAt.RcNeAt A s u u' (!eqD d d'):=by
 have hu0:A.units < cLine:=by omega
 cases d with
 | ref b=>exact absurd p Bool.false_ne_true
 | fz b=>exact absurd p Bool.false_ne_true
 | tup xs =>
  obtain ⟨a,us,rfl,sq,rs⟩:=bM r
  obtain ⟨its,rv,ht⟩:=jC I sq
  cases q
  cases d' with
  | ref b=>exact absurd p' Bool.false_ne_true
  | fz b=>exact absurd p' Bool.false_ne_true
  | non=>rw [dG r'] at q';cases q';exact ⟨SeqAt.RcAt.tuple_none ht hu0,SeqAt.RcNeAt.tuple_none ht hu0⟩
  | bl b=>rw [cL r'] at q';cases q';exact ⟨SeqAt.RcAt.tuple_bool b ht hu0,SeqAt.RcNeAt.tuple_bool b ht hu0⟩
  | int b=>rw [aV r'] at q';obtain ⟨t,rfl⟩:=q';exact ⟨SeqAt.RcAt.tuple_int b t ht hu0,SeqAt.RcNeAt.tuple_int b t ht hu0⟩
  | str b=>rw [bU r'] at q';obtain ⟨t,rfl⟩:=q';exact ⟨SeqAt.RcAt.tuple_str b t ht hu0,SeqAt.RcNeAt.tuple_str b t ht hu0⟩
  | tup ys =>
   obtain ⟨a',us',rfl,sq',rs'⟩:=bM r'
   obtain ⟨its',rv',ht'⟩:=jC I sq'
   cases q'
   have e1:=rs.length
   have e2:=rv.length
   have e3:=rs'.length
   have e4:=rv'.length
   have hit:∀ j (h1:j < its.toArray.size) (h2:j < its'.toArray.size),SeqAt.EqAt A.in1 s its.toArray[j] its'.toArray[j] (tG xs ys j):=fun j j1 j2=>by
    have hu':A.in1.units + 59 < cLine:=by show A.units + 1 + 59 < cLine;omega
    have:=rP (A:=A.in1) (s:=s) (fun {d d' v v' u u'} p p' r r' q q'=>aCK I 59 hu' p p' r r' q q') p p' rs rs' rv rv' j (by simpa using j1) (by simpa using j2)
    simpa using this
   have hz:eqD (.tup xs) (.tup ys) = ((List.range (min its.toArray.size its'.toArray.size)).all (tG xs ys) && its.toArray.size == its'.toArray.size):=by
    show kR xs ys = _
    rw [iU,show xs.length = its.toArray.size by rw [List.size_toArray];omega,show ys.length = its'.toArray.size by rw [List.size_toArray];omega]
   rw [hz]
   exact ⟨SeqAt.RcAt.tuples ht ht' hu0 hit,SeqAt.RcNeAt.tuples ht ht' hu0 hit⟩
 | non =>
  rw [dG r] at q;cases q
  cases d' with
  | ref b=>exact absurd p' Bool.false_ne_true
  | fz b=>exact absurd p' Bool.false_ne_true
  | non=>rw [dG r'] at q';cases q';exact ⟨SeqAt.RcAt.none_none,SeqAt.RcNeAt.none_none⟩
  | bl b=>rw [cL r'] at q';cases q';exact ⟨SeqAt.RcAt.none_bool b,SeqAt.RcNeAt.none_bool b⟩
  | int b=>rw [aV r'] at q';obtain ⟨t,rfl⟩:=q';exact ⟨SeqAt.RcAt.none_int b t,SeqAt.RcNeAt.none_int b t⟩
  | str b=>rw [bU r'] at q';obtain ⟨t,rfl⟩:=q';exact ⟨SeqAt.RcAt.none_str b t,SeqAt.RcNeAt.none_str b t⟩
  | tup ys =>
   obtain ⟨a',us',rfl,sq',rs'⟩:=bM r'
   obtain ⟨its',rv',ht'⟩:=jC I sq'
   cases q'
   exact ⟨SeqAt.RcAt.none_tuple ht' hu0,SeqAt.RcNeAt.none_tuple ht' hu0⟩
 | bl z =>
  rw [cL r] at q;cases q
  cases d' with
  | ref b=>exact absurd p' Bool.false_ne_true
  | fz b=>exact absurd p' Bool.false_ne_true
  | non=>rw [dG r'] at q';cases q';exact ⟨SeqAt.RcAt.bool_none z,SeqAt.RcNeAt.bool_none z⟩
  | bl b=>rw [cL r'] at q';cases q';exact ⟨SeqAt.RcAt.bool_bool z b,SeqAt.RcNeAt.bool_bool z b⟩
  | int b=>rw [aV r'] at q';obtain ⟨t,rfl⟩:=q';exact ⟨SeqAt.RcAt.bool_int z b t,SeqAt.RcNeAt.bool_int z b t⟩
  | str b=>rw [bU r'] at q';obtain ⟨t,rfl⟩:=q';exact ⟨SeqAt.RcAt.bool_str z b t,SeqAt.RcNeAt.bool_str z b t⟩
  | tup ys =>
   obtain ⟨a',us',rfl,sq',rs'⟩:=bM r'
   obtain ⟨its',rv',ht'⟩:=jC I sq'
   cases q'
   exact ⟨SeqAt.RcAt.bool_tuple z ht' hu0,SeqAt.RcNeAt.bool_tuple z ht' hu0⟩
 | int z =>
  rw [aV r] at q;obtain ⟨tz,rfl⟩:=q
  cases d' with
  | ref b=>exact absurd p' Bool.false_ne_true
  | fz b=>exact absurd p' Bool.false_ne_true
  | non=>rw [dG r'] at q';cases q';exact ⟨SeqAt.RcAt.int_none z tz,SeqAt.RcNeAt.int_none z tz⟩
  | bl b=>rw [cL r'] at q';cases q';exact ⟨SeqAt.RcAt.int_bool z tz b,SeqAt.RcNeAt.int_bool z tz b⟩
  | int b=>rw [aV r'] at q';obtain ⟨t,rfl⟩:=q';exact ⟨SeqAt.RcAt.int_int z tz b t,SeqAt.RcNeAt.int_int z tz b t⟩
  | str b=>rw [bU r'] at q';obtain ⟨t,rfl⟩:=q';exact ⟨SeqAt.RcAt.int_str z tz b t,SeqAt.RcNeAt.int_str z tz b t⟩
  | tup ys =>
   obtain ⟨a',us',rfl,sq',rs'⟩:=bM r'
   obtain ⟨its',rv',ht'⟩:=jC I sq'
   cases q'
   exact ⟨SeqAt.RcAt.int_tuple z tz ht' hu0,SeqAt.RcNeAt.int_tuple z tz ht' hu0⟩
 | str z =>
  rw [bU r] at q;obtain ⟨tz,rfl⟩:=q
  cases d' with
  | ref b=>exact absurd p' Bool.false_ne_true
  | fz b=>exact absurd p' Bool.false_ne_true
  | non=>rw [dG r'] at q';cases q';exact ⟨SeqAt.RcAt.str_none z tz,SeqAt.RcNeAt.str_none z tz⟩
  | bl b=>rw [cL r'] at q';cases q';exact ⟨SeqAt.RcAt.str_bool z tz b,SeqAt.RcNeAt.str_bool z tz b⟩
  | int b=>rw [aV r'] at q';obtain ⟨t,rfl⟩:=q';exact ⟨SeqAt.RcAt.str_int z tz b t,SeqAt.RcNeAt.str_int z tz b t⟩
  | str b=>rw [bU r'] at q';obtain ⟨t,rfl⟩:=q';exact ⟨SeqAt.RcAt.str_str z tz b t,SeqAt.RcNeAt.str_str z tz b t⟩
  | tup ys =>
   obtain ⟨a',us',rfl,sq',rs'⟩:=bM r'
   obtain ⟨its',rv',ht'⟩:=jC I sq'
   cases q'
   exact ⟨SeqAt.RcAt.str_tuple z tz ht' hu0,SeqAt.RcNeAt.str_tuple z tz ht' hu0⟩
end
end Dd
namespace Dd
open PySem PySem.Spec PyProof.Rows L2
section
variable {X:Cx} {a b e o:Expr} {es:List Expr} {ta tb te to:DE} {t:DA} {pos:Pos}
noncomputable def d2I (C:Int->Int->Prop) (g:Int->Int->D):D2:=fun x y M Q=>match x,y with
 | .int i,.int j=>C i j/\Q (g i j) M
 | _,_=>False
noncomputable def d2J (g:Int->Int->D):D2:=fun x y M Q=>match x,y with
 | .int i,.int j=>Q (g i j) M
 | _,_=>False
theorem aF6 {f:Value->Value->Sem Value} {C:Int->Int->Prop} {g:Int->Int->D} {g':Int->Int->V} (h:OpR X f (rI C g')) (hg:∀ H i j,Rep X.K H (g i j) (g' i j)):OpD X f (d2I C g) :=
 OpD.of h fun x y H M dx dy Q rx ry hm q=>by
  cases dx with
  | int i =>
   cases dy with
   | int j=>exact ⟨i,j,aV rx,aV ry,q.1,_,M,hg H i j,hm,.refl H,q.2⟩
   | _=>exact q.elim
  | _=>exact q.elim
theorem aGn {f:Value->Value->Sem Value} {g:Int->Int->D} {g':Int->Int->V} (h:OpR X f (rI0 g')) (hg:∀ H i j,Rep X.K H (g i j) (g' i j)):OpD X f (d2J g) :=
 OpD.of h fun x y H M dx dy Q rx ry hm q=>by
  cases dx with
  | int i =>
   cases dy with
   | int j=>exact ⟨i,j,aV rx,aV ry,_,M,hg H i j,hm,.refl H,q⟩
   | _=>exact q.elim
  | _=>exact q.elim
theorem jW:OpD X (binaryOp .Sub) (d2J fun i j=>.int (i - j)):=aGn aJm fun _ _ _=>bY
theorem aGk:OpR X (binaryOp .Mult) (rI IntMulOk fun i j=>.int (i * j)):=opI fun _ _ _ _ _ _ _ hc q=>mul_int q hc
theorem cB:OpD X (binaryOp .Mult) (d2I IntMulOk fun i j=>.int (i * j)):=aF6 aGk fun _ _ _=>bY
noncomputable def CFd (i j:Int):Prop:=j ≠ 0/\j.natAbs.log2 < 9000
theorem aJd:OpR X (binaryOp .FloorDiv) (rI CFd fun i j=>.int (i.fdiv j)):=opI fun _ _ _ _ _ _ _ hc q=>floordiv_int hc.1 q (.inl (PyProof.noPylong_of_log2 hc.2))
theorem fG:OpD X (binaryOp .FloorDiv) (d2I CFd fun i j=>.int (i.fdiv j)):=aF6 aJd fun _ _ _=>bY
theorem cW:OpD X (binaryOp .Mod) (d2I (fun _ j=>j ≠ 0) fun i j=>.int (i.fmod j)):=aF6 aGo fun _ _ _=>bY
theorem vQ:OpD X (binaryOp .Pow) (d2I aKp fun i j=>.int (i ^ j.toNat)):=aF6 aIR fun _ _ _=>bY
theorem wD:OpD X (compareOp .Lt) (d2J fun i j=>.bl (decide (i < j))):=aGn aK0 fun _ _ _=>eA
theorem aLs:OpD X (compareOp .LtE) (d2J fun i j=>.bl (decide (i<=j))):=aGn aLa fun _ _ _=>eA
theorem jP:OpD X (compareOp .Gt) (d2J fun i j=>.bl (decide (j < i))):=aGn aLk fun _ _ _=>eA
noncomputable def aLf:D2:=fun x y M Q=>match x,y with
 | .int i,.int j=>Q (.int (i + j)) M
 | .ref a,.ref b=>∃ xs ys,M a = some xs/\M b = some ys/\xs.length + ys.length<=1000/\∀ p:Addr,M p = none->Q (.ref p) (bE M p (xs ++ ys))
 | .fz xs,.ref b=>∃ ys,M b = some ys/\xs.length + ys.length<=1000/\∀ p:Addr,M p = none->Q (.ref p) (bE M p (xs ++ ys))
 | .tup xs,.tup ys=>xs ≠ []/\ys ≠ []/\xs.length + ys.length<=1000/\Q (.tup (xs ++ ys)) M
 | _,_=>False
theorem aFb {pins:List (Addr × Obj)} {σ:L2.St} {H:Hp} {s:Shared} (I:Inv X pins σ H s) {a:Addr} {xs:List V} (h:SqX X.K H a xs):xs.length<=sizeLine/\∃ (its:List Value) (n:Nat),bT xs its/\s.heap.get? a = some { cls:=.type "list",data:=.seq its.toArray n }:=by
 rcases h with ⟨o,h⟩ | ⟨its,n,hk,hz,r⟩
 ·obtain ⟨_,z,its,n,r,e⟩:=I.hok a _ h
  exact ⟨z,its,n,r,e⟩
 ·have e:=r.length
  simp only [Array.length_toList] at e
  exact ⟨by omega,its.toList,n,r,by simpa using I.kIn a _ hk⟩
theorem cP:OpD X (binaryOp .Add) aLf:=by
 intro pins s σ H x y v u Q I rx ry ⟨dx,dy,M,Q',r1,r2,hm,q,k⟩
 cases dx with
 | int i =>
  cases dy with
  | int j=>exact aIp pins s σ H x y v u Q I rx ry ⟨i,j,aV r1,aV r2,k _ H ⟨_,M,bY,hm,.refl H,q⟩⟩
  | _=>exact q.elim
 | ref a =>
  cases dy with
  | ref b =>
   obtain ⟨xs,ys,ha,hb,hl,q⟩:=q
   obtain ⟨us,hu,ru⟩:=hm.l a xs ha
   obtain ⟨ws,hw,rw'⟩:=hm.l b ys hb
   refine aJn pins s σ H x y v u Q I rx ry ⟨a,b,us,ws,aT r1,aT r2,hu,hw,?_,fun p hp=>k _ _ ⟨.ref p,_,fY,hm.lnew hp (ru.append rw'),Ext.new hp _,q p (hm.fresh hp)⟩⟩
   rw [<- ru.length,<- rw'.length];exact Nat.le_of_lt (cY hl)
  | _=>exact q.elim
 | fz xs =>
  cases dy with
  | ref b =>
   obtain ⟨ys,hb,hl,q⟩:=q
   obtain ⟨a,us,rfl,sq,ru⟩:=jZ r1
   obtain ⟨ws,hw,rw'⟩:=hm.l b ys hb
   obtain rfl:=aT r2
   cases rx
   cases ry
   obtain ⟨z,its,n,r,e⟩:=aFb I sq
   obtain ⟨z2,its2,n2,r3,hl2,e2⟩:=I.lstM hw
   have l1:=r.length
   have l2:=r3.length
   have l3:=ru.length
   have l4:=rw'.length
   have hz:=cY hl
   refine PySem.P.add_list e e2 ?_ (by rw [List.size_toArray,List.size_toArray];omega)
   have ea:its.toArray ++ its2.toArray = (its ++ its2).toArray:=by simp
   rw [ea]
   refine ⟨.ref _,_,I.lnew (t':=s.toks) (r.append r3) (by rw [List.length_append];omega),rfl,k _ _ ⟨.ref _,_,fY,hm.lnew I.fresh (ru.append rw'),Ext.new I.fresh _,q _ (hm.fresh I.fresh)⟩⟩
  | _=>exact q.elim
 | tup xs =>
  cases dy with
  | tup ys =>
   obtain ⟨h1,h2,hl,q⟩:=q
   obtain ⟨a,us,rfl,sq,ru⟩:=bM r1
   obtain ⟨b,ws,rfl,sq2,rw'⟩:=bM r2
   have l3:=ru.length
   have l4:=rw'.length
   refine aCx pins s σ H _ _ v u Q I rx ry ?_
   have n1:us ≠ []:=fun z=>by rw [z] at l3;exact h1 (List.length_eq_zero_iff.mp l3)
   have n2:ws ≠ []:=fun z=>by rw [z] at l4;exact h2 (List.length_eq_zero_iff.mp l4)
   exact ⟨a,b,us,ws,rfl,rfl,sq,sq2,n1,by rw [<- l3,<- l4];exact Nat.le_of_lt (cY hl),fun z=>absurd z n2,fun _ p hp=>k _ _ ⟨.tup _,M,cE (.of dF) ((ru.append rw').ext (Ext.new hp _)),hm.new hp _,Ext.new hp _,q⟩⟩
  | _=>exact q.elim
 | _=>exact q.elim
noncomputable def dEq (g:Bool->Bool):D2:=fun x y M Q=>match x,y with
 | .ref a,.ref b=>∃ xs ys,M a = some xs/\M b = some ys/\(a ≠ b)/\xs.all (bH 59) = true/\ys.all (bH 59) = true/\Q (.bl (g (kR xs ys))) M
 | x,y=>bH 60 x = true/\bH 60 y = true/\Q (.bl (g (eqD x y))) M
theorem aFj {pins:List (Addr × Obj)} {σ:L2.St} {H:Hp} {s:Shared} (I:Inv X pins σ H s) {A:Around} (hu:A.units + 60 < cLine) {a b:Addr} {us ws:List V} {xs ys:List D} (ha:H a = some (.lst us)) (hb:H b = some (.lst ws)) (ru:bN X.K H xs us) (rw':bN X.K H ys ws)
  (p:xs.all (bH 59) = true) (p':ys.all (bH 59) = true):SeqAt.RcAt A s (.ref a) (.ref b) (kR xs ys)/\SeqAt.RcNeAt A s (.ref a) (.ref b) (!kR xs ys):=by
 obtain ⟨z,its,n,r,hl,e⟩:=I.lstM ha
 obtain ⟨z2,its2,n2,r3,hl2,e2⟩:=I.lstM hb
 have i1:s.heap.IsList a its.toArray:=⟨_,e,rfl,_,rfl⟩
 have i2:s.heap.IsList b its2.toArray:=⟨_,e2,rfl,_,rfl⟩
 have l3:=ru.length
 have l4:=rw'.length
 have hu0:A.units < cLine:=by omega
 by_cases hz:its.toArray.size = its2.toArray.size
 ·have hz':=hz
  rw [List.size_toArray,List.size_toArray] at hz'
  have hit:∀ j (h1:j < its.toArray.size) (h2:j < its2.toArray.size),SeqAt.EqAt A.in1 s its.toArray[j] its2.toArray[j] (tG xs ys j):=fun j j1 j2=>by
   have hu':A.in1.units + 59 < cLine:=by show A.units + 1 + 59 < cLine;omega
   have:=rP (A:=A.in1) (s:=s) (fun {d d' v v' u u'} p p' r r' q q'=>aCK I 59 hu' p p' r r' q q') p p' ru rw' r r3 j (by simpa using j1) (by simpa using j2)
   simpa using this
  have hz2:kR xs ys = (List.range its.toArray.size).all (tG xs ys):=by
   rw [iU,show min xs.length ys.length = its.toArray.size by rw [List.size_toArray];omega,show (xs.length == ys.length) = true by simp;omega,Bool.and_true]
  rw [hz2]
  exact ⟨SeqAt.RcAt.lists i1 i2 hz hu0 hit,SeqAt.RcNeAt.lists i1 i2 hz hu0 hit⟩
 ·have hz':=hz
  rw [List.size_toArray,List.size_toArray] at hz'
  have hz2:kR xs ys = false:=by
   rw [iU,show (xs.length == ys.length) = false by simp;omega,Bool.and_false]
  rw [hz2]
  exact ⟨SeqAt.RcAt.lists_lengths i1 i2 (by simpa using hz) hu0,SeqAt.RcNeAt.lists_lengths i1 i2 (by simpa using hz) hu0⟩
theorem aEK (hu:X.A.units + 60 < cLine):OpD X (compareOp .Eq) (dEq id)/\OpD X (compareOp .NotEq) (dEq not):=by
 have key:∀ {pins:List (Addr × Obj)} {s:Shared} {σ:L2.St} {H:Hp} {x y:V} {v u:Value} {dx dy:D} {M:DM} {Q':DQ} {g:Bool->Bool},Inv X pins σ H s->bO x v->bO y u->Rep X.K H dx x->Rep X.K H dy y->bK X.K M H->dEq g dx dy M Q' ->
   ∃ b,SeqAt.RcAt X.A s v u b/\SeqAt.RcNeAt X.A s v u (!b)/\Q' (.bl (g b)) M:=by
  intro pins s σ H x y v u dx dy M Q' g I rx ry r1 r2 hm q
  have gen:bH 60 dx = true->bH 60 dy = true->Q' (.bl (g (eqD dx dy))) M->∃ b,SeqAt.RcAt X.A s v u b/\SeqAt.RcNeAt X.A s v u (!b)/\Q' (.bl (g b)) M:=fun p p' q=>let ⟨h1,h2⟩:=aLQ I hu p p' r1 r2 rx ry;⟨_,h1,h2,q⟩
  cases dx with
  | ref a =>
   cases dy with
   | ref b =>
    obtain ⟨xs,ys,ha,hb,_,p,p',q⟩:=q
    obtain ⟨us,hu',ru⟩:=hm.l a xs ha
    obtain ⟨ws,hw,rw'⟩:=hm.l b ys hb
    obtain rfl:=aT r1
    obtain rfl:=aT r2
    cases rx
    cases ry
    obtain ⟨h1,h2⟩:=aFj I hu hu' hw ru rw' p p'
    exact ⟨_,h1,h2,q⟩
   | _=>exact gen q.1 q.2.1 q.2.2
  | _=>exact gen q.1 q.2.1 q.2.2
 refine ⟨fun pins s σ H x y v u Q I rx ry ⟨dx,dy,M,Q',r1,r2,hm,q,k⟩=>?_,fun pins s σ H x y v u Q I rx ry ⟨dx,dy,M,Q',r1,r2,hm,q,k⟩=>?_⟩
 ·obtain ⟨b,h1,_,q⟩:=key I rx ry r1 r2 hm q
  exact h1 X.prog X.w X.xe _ ⟨.bl b,H,I,rfl,k _ H ⟨.bl b,M,eA,hm,.refl H,q⟩⟩
 ·obtain ⟨b,_,h2,q⟩:=key I rx ry r1 r2 hm q
  exact h2 X.prog X.w X.xe _ ⟨.bl (!b),H,I,rfl,k _ H ⟨.bl (!b),M,eA,hm,.refl H,q⟩⟩
theorem cN {k:Nat} (hr:eB k X.A):OpD X (compareOp .Eq) (dEq id):=(aEK (by have:=hr.un;omega)).1
theorem rB {k:Nat} (hr:eB k X.A):OpD X (compareOp .NotEq) (dEq not):=(aEK (by have:=hr.un;omega)).2
noncomputable def aJZ (ta:DE):DE:=fun ρ M Q=>ta ρ M fun x M1=>match x with
 | .int i=>Q (.int (-i)) M1
 | _=>False
theorem aJY (ha:PDE X a ta):PDE X (.UnaryOp .USub a pos) (aJZ ta) :=
 cM (aKS aHV ha) fun σ H Q ⟨ρ,M,Q',re,hm,q,k⟩=>⟨ρ,M,_,re,hm,q,fun x H1 ⟨d,M1,rd,hm1,ex,q1⟩=>by
  cases d with
  | int i=>exact ⟨i,aV rd,k _ H1 ⟨_,M1,bY,hm1,ex,q1⟩⟩
  | _=>exact q1.elim⟩
noncomputable def jS:D2:=fun x y M Q=>match x,y with
 | .tup ds,.int i=>match atI ds i with
  | some d=>Q d M
  | none=>False
 | .fz ds,.int i=>match atI ds i with
  | some d=>Q d M
  | none=>False
 | .ref a,.int i=>∃ ds d,M a = some ds/\atI ds i = some d/\Q d M
 | _,_=>False
theorem vT {K:PySem.W.Frag} {H:Hp} {ds:List D} {xs:List V} {i:Int} {d:D} (r:bN K H ds xs) (h:atI ds i = some d):∃ v,atI xs i = some v/\Rep K H d v:=by
 unfold atI at h ⊢
 rw [<- r.length]
 cases e:ixN ds.length i with
 | none=>rw [e] at h;cases h
 | some j =>
  rw [e] at h
  exact r.get h
theorem ixd:IxR X fun x y H Q=>∃ dx dy M Q',Rep X.K H dx x/\Rep X.K H dy y/\bK X.K M H/\jS dx dy M Q'/\∀ v H',LQ X.K H Q' v H'->Q v H':=by
 intro value slice pins s σ H x y v u Q I rx ry ⟨dx,dy,M,Q',r1,r2,hm,q,k⟩ hs
 cases dx with
 | tup ds =>
  cases dy with
  | int i =>
   obtain ⟨a,us,rfl,sq,ru⟩:=bM r1
   obtain rfl:=aV r2
   cases e:atI ds i with
   | none=>exact absurd q (by show ¬ (match atI ds i with | some d=>Q' d M | none=>False);rw [e];exact id)
   | some d =>
    have q':Q' d M:=by
     have z:(match atI ds i with | some d=>Q' d M | none=>False):=q
     rw [e] at z;exact z
    obtain ⟨w,hw,rw'⟩:=vT ru e
    exact aIF value slice pins s σ H _ _ v u Q I rx ry ⟨a,us,i,w,rfl,rfl,sq,hw,k _ H ⟨d,M,rw',hm,.refl H,q'⟩⟩ hs
  | _=>exact q.elim
 | fz ds =>
  cases dy with
  | int i =>
   obtain ⟨a,us,rfl,sq,ru⟩:=jZ r1
   obtain rfl:=aV r2
   cases e:atI ds i with
   | none=>exact absurd q (by show ¬ (match atI ds i with | some d=>Q' d M | none=>False);rw [e];exact id)
   | some d =>
    have q':Q' d M:=by
     have z:(match atI ds i with | some d=>Q' d M | none=>False):=q
     rw [e] at z;exact z
    obtain ⟨w,hw,rw'⟩:=vT ru e
    exact aC6 value slice pins s σ H _ _ v u Q I rx ry ⟨a,us,i,w,rfl,rfl,sq.sq,hw,k _ H ⟨d,M,rw',hm,.refl H,q'⟩⟩ hs
  | _=>exact q.elim
 | ref a =>
  cases dy with
  | int i =>
   obtain ⟨ds,d,ha,e,q'⟩:=q
   obtain rfl:=aT r1
   obtain rfl:=aV r2
   obtain ⟨us,hu,ru⟩:=hm.l a ds ha
   obtain ⟨w,hw,rw'⟩:=vT ru e
   exact aC6 value slice pins s σ H _ _ v u Q I rx ry ⟨a,us,i,w,rfl,rfl,.of hu,hw,k _ H ⟨d,M,rw',hm,.refl H,q'⟩⟩ hs
  | _=>exact q.elim
 | _=>exact q.elim
theorem aKW (ha:PDE X a ta) (hb:PDE X b tb) (hs:lZ b:=by exact fun _ _=>rfl):PDE X (.Subscript a b pos) (dOp jS ta tb) :=
 cM (aKx ixd ha hb hs) fun σ H Q h=>aAk (fun _ _ _ _ z=>z) h
noncomputable abbrev DO:=cF->DM->(Option Int->DM->Prop)->Prop
noncomputable def aAd (K:PySem.W.Frag) (t:DO):TO:=fun σ H Q=>∃ ρ M Q',eZ K H ρ σ/\bK K M H/\t ρ M Q'/\∀ i H',(∃ M',bK K M' H'/\Ext H H'/\Q' i M')->Q i H'
noncomputable def aI5:DO:=fun _ M Q=>Q none M
noncomputable def dPt (t:DE):DO:=fun ρ M Q=>t ρ M fun x M1=>match x with
 | .int i=>Q (some i) M1
 | _=>False
theorem aGf:PO X none (aAd X.K aI5):=fun pins s σ H Q I ⟨ρ,M,Q',re,hm,q,k⟩=>aG7 pins s σ H Q I (k none H ⟨M,hm,.refl H,q⟩)
theorem aHe (h:PDE X e te):PO X (some e) (aAd X.K (dPt te)):=fun pins s σ H Q I ⟨ρ,M,Q',re,hm,q,k⟩=>aFY h pins s σ H Q I ⟨ρ,M,_,re,hm,q,fun v H1 ⟨d,M1,rd,hm1,ex,q1⟩=>by
 cases d with
 | int i=>exact ⟨i,aV rd,k (some i) H1 ⟨M1,hm1,ex,q1⟩⟩
 | _=>exact q1.elim⟩
noncomputable def cutD (xs:List D) (lo hi:Option Int):List D:=(xs.drop (HT.sIx xs.length 0 lo)).take (HT.sIx xs.length xs.length hi - HT.sIx xs.length 0 lo)
theorem uO {K:PySem.W.Frag} {H:Hp} {ds:List D} {xs:List V} (r:bN K H ds xs) (lo hi:Option Int):bN K H (cutD ds lo hi) (aA0 xs lo hi):=by
 unfold cutD aA0
 rw [r.length]
 exact (r.drop _).take _
noncomputable def aKR (x:D) (lo hi:Option Int) (M:DM) (Q:DQ):Prop:=match x with
 | .fz ds=>∀ p:Addr,M p = none->Q (.ref p) (bE M p (cutD ds lo hi))
 | .ref a=>∃ ds,M a = some ds/\∀ p:Addr,M p = none->Q (.ref p) (bE M p (cutD ds lo hi))
 | _=>False
noncomputable def dSl (te:DE) (tl th:DO):DE:=fun ρ M Q=>te ρ M fun x M1=>tl ρ M1 fun l M2=>th ρ M2 fun h M3=>aKR x l h M3 Q
variable {lo hi:Option Expr} {tl th:DO} {p2:Pos}
theorem aFO (he:PDE X e te) (hl:PO X lo (aAd X.K tl)) (hu:PO X hi (aAd X.K th)):PDE X (.Subscript e (.Slice lo hi none p2) pos) (dSl te tl th) :=
 cM (aBo aHr he hl hu) fun σ H Q ⟨ρ,M,Q',re,hm,q,k⟩=>⟨ρ,M,_,re,hm,q,fun v H1 ⟨d,M1,rd,hm1,e1,q1⟩=>⟨ρ,M1,_,re.ext e1,hm1,q1,fun l H2 ⟨M2,hm2,e2,q2⟩=>⟨ρ,M2,_,(re.ext e1).ext e2,hm2,q2,fun h H3 ⟨M3,hm3,e3,q3⟩=>by
  have rd3:=(rd.ext e2).ext e3
  have ex:=(e1.trans e2).trans e3
  cases d with
  | fz ds =>
   obtain ⟨a,us,rfl,sq,ru⟩:=jZ rd3
   exact ⟨a,us,rfl,sq.sq,fun p hp=>k _ _ ⟨.ref p,_,fY,hm3.lnew hp (uO ru l h),ex.trans (Ext.new hp _),q3 p (hm3.fresh hp)⟩⟩
  | ref a =>
   obtain ⟨ds,ha,q3⟩:=q3
   obtain rfl:=aT rd
   obtain ⟨us,hu,ru⟩:=hm3.l a ds ha
   exact ⟨a,us,rfl,.of hu,fun p hp=>k _ _ ⟨.ref p,_,fY,hm3.lnew hp (uO ru l h),ex.trans (Ext.new hp _),q3 p (hm3.fresh hp)⟩⟩
  | _=>exact q3.elim⟩⟩⟩
noncomputable abbrev DSp:=List D->DM->DQ->Prop
noncomputable def qS (K:PySem.W.Frag) (sp:DSp):Sp:=fun vs H Q _=>∃ ds M Q',bN K H ds vs/\bK K M H/\sp ds M Q'/\∀ v H',LQ K H Q' v H'->Q v H'
noncomputable def mE (sp:DSp) (t:DA):DE:=fun ρ M Q=>t ρ M fun ds M1=>sp ds M1 Q
variable {CX:CXT} {k:Nat} {f:Addr} {fd:FuncData} {ps:List Str} {sp:DSp} {E:XK} {x:Str} {p:Pos}
theorem aF9 (F:jH X.prog X.w X.K X.mg X.base CX k f fd ps (qS X.K sp)) (hr:eB k X.A) (hm:X.mg x = some (.ref f)) (hk:PySem.W.keepIn X.K (.ref f) = true) (hb:nA X.K fd ps []) (hx:sP CX X E) (ha:PDA X (e :: es) t) (hg:Gl X x:=by rfl)
  (hdb:(x == ("__debug__":Str)) = false:=by decide) (he:starEach (e :: es) X.env = (false,eval e X.env) :: starEach es X.env:=by rfl) (hpl:(backTo pos (starEach es X.env)).any (·.1) = false:=by rfl) :
  PDE X (.Call (.Name x p) (e :: es) [] pos) (mE sp t) :=
 cM (aGt F hr hg hm hk hb .nil hx ha hdb he hpl) fun σ H Q ⟨ρ,M,Q',re,hm,q,k⟩=>⟨ρ,M,_,re,hm,q,fun vs H1 ⟨ds,M1,rs,hm1,ex,q1⟩=>⟨ds,M1,Q',by rw [List.append_nil];exact rs,hm1,q1,fun v H' z=>k v H' (z.back ex)⟩⟩
theorem aFD (F:jH X.prog X.w X.K X.mg X.base CX k f fd ps (qS X.K sp)) (hr:eB k X.A) (hm:X.mg x = some (.ref f)) (hk:PySem.W.keepIn X.K (.ref f) = true) (hb:nA X.K fd ps []) (hx:sP CX X E) (hg:Gl X x:=by rfl)
  (hdb:(x == ("__debug__":Str)) = false:=by decide):PDE X (.Call (.Name x p) [] [] pos) (mE sp aBM) :=
 cM (aD9 F hr hg hm hk hb .nil hx hdb) fun σ H Q ⟨ρ,M,Q',re,hm,q,k⟩=>⟨[],M,Q',cO,hm,q,k⟩
noncomputable def gI (X:Cx) (fv:Value) (r:DSp):Prop:=kL X fv fun vs H Q=>∃ ds M Q',bN X.K H ds vs/\bK X.K M H/\r ds M Q'/\∀ v H',LQ X.K H Q' v H'->Q v H'
theorem gI.of {fv:Value} {r:List V->Hp->VK->Prop} {r':DSp} (h:kL X fv r) (l:∀ vs H M ds Q,bN X.K H ds vs->bK X.K M H->r' ds M Q->r vs H (LQ X.K H Q)):gI X fv r':=fun pins s σ H xs us Q I rs ⟨ds,M,Q',r1,hm,q,k⟩ =>
 thn (h pins s σ H xs us _ I rs (l xs H M ds Q' r1 hm q)) fun v s h=>aDa h k
theorem aEU {r:DSp} {σ:L2.St} {H:Hp} {Q:VK} (h:low X.K (mE r t) σ H Q):aLl X.K t σ H fun vs H1=>∃ ds M Q',bN X.K H1 ds vs/\bK X.K M H1/\r ds M Q'/\∀ v H',LQ X.K H1 Q' v H'->Q v H':=by
 obtain ⟨ρ,M,Q',re,hm,q,k⟩:=h
 exact ⟨ρ,M,_,re,hm,q,fun vs H1 ⟨ds,M1,rs,hm1,ex,q1⟩=>⟨ds,M1,Q',rs,hm1,q1,fun v H' z=>k v H' (z.back ex)⟩⟩
theorem aFu {id:String} {r:DSp} (hc:gI X (.builtin id) r) (hm:X.mg x = none) (ha:PDA X (e :: es) t) (hv:bootBuiltins x = some (.builtin id):=by rfl) (hg:Gl X x:=by rfl) (hn:x ≠ "__name__":=by decide) (hdb:(x == ("__debug__":Str)) = false:=by decide)
  (he:starEach (e :: es) X.env = (false,eval e X.env) :: starEach es X.env:=by rfl) (hpl:(backTo pos (starEach es X.env)).any (·.1) = false:=by rfl):PDE X (.Call (.Name x p) (e :: es) [] pos) (mE r t) :=
 cM (rO hc hg hm hv ha hn hdb he hpl) fun σ H Q h=>aEU h
theorem aDh {T:String} {r:DSp} (hc:gI X (.type T) r) (hm:X.mg x = none) (ha:PDA X (e :: es) t) (hv:bootBuiltins x = some (.type T):=by rfl) (hg:Gl X x:=by rfl) (hn:x ≠ "__name__":=by decide) (hdb:(x == ("__debug__":Str)) = false:=by decide)
  (he:starEach (e :: es) X.env = (false,eval e X.env) :: starEach es X.env:=by rfl) (hpl:(backTo pos (starEach es X.env)).any (·.1) = false:=by rfl):PDE X (.Call (.Name x p) (e :: es) [] pos) (mE r t) :=
 cM (aDy hc hg hm hv ha hn hdb he hpl) fun σ H Q h=>aEU h
end
end Dd
namespace Dd
open PySem PySem.Spec PyProof.Rows L2
section
variable {X:Cx} {a b e o:Expr} {es:List Expr} {ta tb te to:DE} {t:DA} {pos:Pos}
noncomputable def aKK:DSp:=fun ds M Q=>match ds with
 | [.int i]=>Q (.int (if i < 0 then -i else i)) M
 | _=>False
theorem iB {K:PySem.W.Frag} {H:Hp} {d:D} {vs:List V} (h:bN K H [d] vs):∃ v,vs = [v]/\Rep K H d v:=by
 obtain ⟨v,r,rfl,rv,rr⟩:=aY h
 obtain rfl:=bR rr
 exact ⟨v,rfl,rv⟩
theorem aJ4 {K:PySem.W.Frag} {H:Hp} {d d2:D} {vs:List V} (h:bN K H [d,d2] vs):∃ v v2,vs = [v,v2]/\Rep K H d v/\Rep K H d2 v2:=by
 obtain ⟨v,r,rfl,rv,rr⟩:=aY h
 obtain ⟨v2,rfl,rv2⟩:=iB rr
 exact ⟨v,v2,rfl,rv,rv2⟩
theorem uN:gI X (.builtin "abs") aKK:=gI.of aFf fun vs H M ds Q rs hm q=>by
 rcases ds with _ | ⟨d,_ | ⟨d2,r⟩⟩
 ·exact q.elim
 ·cases d with
  | int i =>
   obtain ⟨v,rfl,rv⟩:=iB rs
   obtain rfl:=aV rv
   exact ⟨i,rfl,_,M,bY,hm,.refl H,q⟩
  | _=>exact q.elim
 ·cases d<;>exact q.elim
noncomputable def aLw:DSp:=fun ds M Q=>match ds with
 | [.int i]=>Q (.int i) M
 | [.bl k]=>Q (.int (if k then 1 else 0)) M
 | _=>False
theorem kW:gI X (.type "int") aLw:=gI.of aDL fun vs H M ds Q rs hm q=>by
 rcases ds with _ | ⟨d,_ | ⟨d2,r⟩⟩
 ·exact q.elim
 ·cases d with
  | int i =>
   obtain ⟨v,rfl,rv⟩:=iB rs
   obtain rfl:=aV rv
   exact .inl ⟨i,rfl,_,M,bY,hm,.refl H,q⟩
  | bl i =>
   obtain ⟨v,rfl,rv⟩:=iB rs
   obtain rfl:=cL rv
   exact .inr ⟨i,rfl,_,M,bY,hm,.refl H,q⟩
  | _=>exact q.elim
 ·cases d<;>exact q.elim
noncomputable def sC:DSp:=fun ds M Q=>match ds with
 | [.tup xs]=>Q (.int xs.length) M
 | [.fz xs]=>Q (.int xs.length) M
 | [.ref a]=>∃ xs,M a = some xs/\Q (.int xs.length) M
 | _=>False
theorem aAA:gI X (.builtin "len") sC:=gI.of zZ fun vs H M ds Q rs hm q=>by
 rcases ds with _ | ⟨d,_ | ⟨d2,r⟩⟩
 ·exact q.elim
 ·cases d with
  | tup xs =>
   obtain ⟨v,rfl,rv⟩:=iB rs
   obtain ⟨a,us,rfl,sq,ru⟩:=bM rv
   exact ⟨a,us,rfl,.inr sq,_,M,by rw [<- ru.length];exact bY,hm,.refl H,q⟩
  | fz xs =>
   obtain ⟨v,rfl,rv⟩:=iB rs
   obtain ⟨a,us,rfl,sq,ru⟩:=jZ rv
   exact ⟨a,us,rfl,.inl sq.sq,_,M,by rw [<- ru.length];exact bY,hm,.refl H,q⟩
  | ref a =>
   obtain ⟨v,rfl,rv⟩:=iB rs
   obtain rfl:=aT rv
   obtain ⟨xs,ha,q⟩:=q
   obtain ⟨us,hu,ru⟩:=hm.l a xs ha
   exact ⟨a,us,rfl,.inl (.of hu),_,M,by rw [<- ru.length];exact bY,hm,.refl H,q⟩
  | _=>exact q.elim
 ·cases d<;>exact q.elim
noncomputable def aJe:DSp:=fun ds M Q=>match ds with
 | [.tup xs]=>Q (.tup xs) M
 | [.ref a]=>∃ xs,M a = some xs/\Q (.tup xs) M
 | _=>False
theorem rM:gI X (.type "tuple") aJe:=gI.of xW fun vs H M ds Q rs hm q=>by
 rcases ds with _ | ⟨d,_ | ⟨d2,r⟩⟩
 ·exact q.elim
 ·cases d with
  | tup xs =>
   obtain ⟨v,rfl,rv⟩:=iB rs
   obtain ⟨a,us,rfl,sq,ru⟩:=bM rv
   exact ⟨a,us,rfl,.inr ⟨sq,_,M,cE sq ru,hm,.refl H,q⟩⟩
  | ref a =>
   obtain ⟨v,rfl,rv⟩:=iB rs
   obtain rfl:=aT rv
   obtain ⟨xs,ha,q⟩:=q
   obtain ⟨us,hu,ru⟩:=hm.l a xs ha
   exact ⟨a,us,rfl,.inl ⟨.of hu,fun p hp=>⟨.tup xs,M,cE (.of dF) (ru.ext (Ext.new hp _)),hm.new hp _,Ext.new hp _,q⟩⟩⟩
  | _=>exact q.elim
 ·cases d<;>exact q.elim
noncomputable def aAz (to te:DE):DE:=fun ρ M Q=>to ρ M fun x M1=>match x with
 | .ref p=>(∃ ds,M1 p = some ds)/\aC2 te aBM ρ M1 fun ys M2=>∃ ds y,ys = [y]/\M2 p = some ds/\ds.length < 1000/\Q .non (bE M2 p (ds ++ [y]))
 | _=>False
theorem aDF {apos cpos:Pos} (ho:PDE X o to) (he:PDE X e te) (hse:starEach [e] X.env = (false,eval e X.env) :: starEach [] X.env:=by rfl)
  (hbase:attributeBase o "append" X.env (eval o X.env) = eval o X.env:=by rfl)
  (hfew:((backTo cpos (starEach [e] X.env)).all (fun x=>!x.1) && (backToKw cpos (keywordEach [] X.env)).all (fun x=>x.1.isSome)
   && decide ([e].length + ([]:List Keyword).length + (if ([]:List Keyword).isEmpty then 0 else 1) < 30)) = true:=by rfl)
  (hline:(apos.endLine == cpos.line) = true:=by rfl) (hplain:(backTo cpos (starEach [] X.env)).any (·.1) = false:=by rfl) :
  PDE X (.Call (.Attribute o "append" apos) [e] [] cpos) (aAz to te) :=
 cM (aK3 PySem.F.plainAttrs_list PySem.F.slot_list_append PySem.F.type_list_append aDA ho (aCq he aDU hse) hbase hfew hline hse hplain) fun σ H Q ⟨ρ,M,Q',re,hm,q,k⟩=>⟨ρ,M,_,re,hm,q,fun v H1 ⟨d,M1,rd,hm1,e1,q1⟩=>by
  cases d with
  | ref p =>
   obtain rfl:=aT rd
   obtain ⟨⟨ds0,h0⟩,q1⟩:=q1
   obtain ⟨us0,hu0,_⟩:=hm1.l p ds0 h0
   refine ⟨.inl ⟨rfl,us0,.of hu0⟩,ρ,M1,_,re.ext e1,hm1,q1,fun vs H2 ⟨dvs,M2,rs,hm2,e2,ds,y,ey,hp,hl,q2⟩=>?_⟩
   subst ey
   obtain ⟨w,rfl,rw'⟩:=iB rs
   obtain ⟨us,hu,ru⟩:=hm2.l p ds hp
   exact ⟨p,us,w,rfl,rfl,hu,by rw [<- ru.length];exact cY (Nat.le_of_lt hl),k _ _ ⟨.non,_,zM,hm2.put hu (ru.append (cC rw' cO)),(e1.trans e2).trans (Ext.put hu _),q2⟩⟩
  | _=>exact q1.elim⟩
noncomputable def tyD:D->Option String
 | .non=>some "NoneType"
 | .bl _=>some "bool"
 | .int _=>some "int"
 | .str _=>some "str"
 | .tup _=>some "tuple"
 | .fz _=>some "list"
 | .ref _=>none
theorem tyT {K:PySem.W.Frag} {H:Hp} {s:Shared} {pins:List (Addr × Obj)} {σ:L2.St} (I:Inv X pins σ H s) {a:Addr} {xs:List V} (sq:SqT X.K H a xs):∃ o,s.heap.get? a = some o/\o.cls = .type "tuple":=by
 obtain ⟨its,_,⟨o,h1,h2,_⟩,_⟩:=I.tuple sq
 exact ⟨o,h1,h2⟩
theorem aK4 {K:PySem.W.Frag} {H:Hp} {s:Shared} {pins:List (Addr × Obj)} {σ:L2.St} {A:Around} {E:Value->Shared->Prop} {Q:Value->Shared->Prop} {c:Value} {d:D} {v:V} {u:Value} {T:String} {k:Bool} (I:Inv X pins σ H s) (rd:Rep X.K H d v) (rv:bO v u) (ty:tyD d = some T)
  (e:PySem.W.kitOne X.K (.type T) c = some k) (h:∀ tk,Q (.bool k) { s with toks:=tk }):wpAny (model X.prog X.w) A (call (.builtin "isinstance") [u,c]) Q E s:=by
 cases d with
 | non=>cases ty;rw [dG rd] at rv;exact kO I rv (.non) e h
 | bl b=>cases ty;rw [cL rd] at rv;exact kO I rv (.bl b) e h
 | int b=>cases ty;rw [aV rd] at rv;exact kO I rv (.int b) e h
 | str b=>cases ty;rw [bU rd] at rv;exact kO I rv (.str b) e h
 | ref b=>cases ty
 | tup b =>
  cases ty
  obtain ⟨a,us,rfl,sq,ru⟩:=bM rd
  cases rv
  obtain ⟨o,h1,h2⟩:=tyT (K:=K) I sq
  exact PySem.W.kia_one PySem.W.kitx_tuple I.kIn ⟨o,h1,h2⟩ e (fun z=>nomatch z) h
 | fz b =>
  cases ty
  obtain ⟨a,us,rfl,sq,ru⟩:=jZ rd
  cases rv
  obtain ⟨z,its,n,r,e1⟩:=aFb I sq
  exact PySem.W.kia_one PySem.W.kitx_list I.kIn ⟨_,e1,rfl⟩ e (fun z=>nomatch z) h
noncomputable def dIs (K:PySem.W.Frag) (c:Value) (te:DE):DE:=fun ρ M Q=>te ρ M fun d M1=>(∃ T k,tyD d = some T/\PySem.W.kitOne K (.type T) c = some k/\Q (.bl k) M1) ∨ (∃ (p:Addr) (xs:List D) (k:Bool),d = .ref p/\M1 p = some xs/\PySem.W.kitOne K (.type "list") c = some k/\Q (.bl k) M1)
theorem aHl {T:String} {x:Str} {p p2:Pos} (he:PDE X e te) (hm:X.mg "isinstance" = none) (hmx:X.mg x = none) (hv:bootBuiltins x = some (.type T):=by rfl) (hg:Gl X "isinstance":=by rfl) (hgx:Gl X x:=by rfl) (hn:x ≠ "__name__":=by decide) (hdb:(x == ("__debug__":Str)) = false:=by decide)
  (hse:starEach [e,.Name x p2] X.env = (false,eval e X.env) :: starEach [.Name x p2] X.env:=by rfl) (hse2:starEach [.Name x p2] X.env = (false,eval (.Name x p2) X.env) :: starEach [] X.env:=by rfl) (hpl:(backTo pos (starEach [.Name x p2] X.env)).any (·.1) = false:=by rfl) :
  PDE X (.Call (.Name "isinstance" p) [e,.Name x p2] [] pos) (dIs X.K (.type T) te):=by
 have hc:kL X (.builtin "isinstance") fun vs H Q=>∃ d M Q' v,vs = [v,.ty T]/\Rep X.K H d v/\bK X.K M H/\((∃ T' k,tyD d = some T'/\PySem.W.kitOne X.K (.type T') (.type T) = some k/\Q' (.bl k) M) ∨ (∃ (p:Addr) (xs:List D) (k:Bool),d = .ref p/\M p = some xs/\PySem.W.kitOne X.K (.type "list") (.type T) = some k/\Q' (.bl k) M))/\∀ v H',LQ X.K H Q' v H'->Q v H':=by
  intro pins s σ H xs us Q I rs ⟨d,M,Q',v,e1,rd,hm,q,k⟩
  subst e1
  obtain ⟨u1,u2,rfl,rv,rt⟩:=rs.two
  cases rt
  rcases q with ⟨T',b,ty,e2,q⟩ | ⟨p,ys,b,rfl,hp,e2,q⟩
  ·exact aK4 (K:=X.K) I rd rv ty e2 fun tk=>⟨.bl b,H,I.tok tk,rfl,k _ H ⟨_,M,eA,hm,.refl H,q⟩⟩
  ·obtain rfl:=aT rd
   obtain ⟨us,hu,ru⟩:=hm.l p ys hp
   exact kO I rv (.lst hu) e2 fun tk=>⟨.bl b,H,I.tok tk,rfl,k _ H ⟨_,M,eA,hm,.refl H,q⟩⟩
 refine cM (rO hc hg hm rfl (lI he (lI (aCi hgx hmx hv (v:=.ty T) rfl hn hdb) aAi hse2) hse) (by decide) (by decide) hse hpl) fun σ H Q ⟨ρ,M,Q',re,hm,q,k⟩=>?_
 exact ⟨ρ,M,_,re,hm,q,fun v H1 ⟨d,M1,rd,hm1,ex,q1⟩=>⟨d,M1,Q',v,rfl,rd,hm1,q1,fun v H' z=>k v H' (z.back ex)⟩⟩
end
noncomputable def gA (N:List Str) (ds:List D):cF:=ds.map some ++ List.replicate (N.length - ds.length) none
noncomputable def Dn (Q:DQ):DQ:=fun d M=>∃ M',aX M' M/\Q d M'
section
variable {P:Program} {w:World} {K:PySem.W.Frag} {mg:Str->Option Value} {base:Heap}
theorem qE {H:Hp} {ds:List D} {vs:List V} (r:bN K H ds vs) (N:List Str):eZ K H (gA N ds) (L2.start N vs):=by
 have hl:=r.length
 refine ⟨by unfold gA L2.start;simp only [List.length_append,List.length_map,List.length_replicate,hl],fun i d q=>?_⟩
 unfold gA at q
 unfold L2.start
 by_cases hi:i < ds.length
 ·rw [List.getElem?_append_left (by simpa using hi),List.getElem?_map] at q
  rw [List.getElem?_append_left (by simpa [<- hl] using hi),List.getElem?_map]
  cases e:ds[i]? with
  | none=>rw [e] at q;cases q
  | some d' =>
   rw [e] at q
   cases q
   obtain ⟨v,e2,rv⟩:=r.get e
   exact ⟨v,by rw [e2];rfl,rv⟩
 ·rw [List.getElem?_append_right (by simpa using hi),List.getElem?_replicate] at q
  split at q<;>cases q
theorem Fun.okD {x qual:Str} {st:Stmt} {f:Addr} {fd:FuncData} {N ps:List Str} {k:Nat} {sp:DSp} (F:L2.Fun K x qual st f fd) (S:aS N ps (aK st)) (len:∀ ds M Q,sp ds M Q->ds.length = ps.length)
  (hbody:∀ (cdv:Value) (A:Around) (outer:List Env) (s:Shared) (H:Hp) (ds:List D) (M:DM) (Q:DQ) (E:XK),eB k (A.deeper (envOfC qual (aK st) s.heap.objs.size f cdv))->sp ds M Q ->
   ∃ t,iV (kA CX0 P w K mg base N qual (aK st) f cdv A outer s H E).nox (eK st) t/\t { nx:=fun _ M'=>Dn Q .non M',rt:=Dn Q } (gA N ds) M):jH P w K mg base CX0 (k + 1) f fd ps (qS K sp):=by
 refine F.ok S (fun vs H Q E ⟨ds,M,Q',rs,hm,q,_⟩=>by rw [<- rs.length];exact len ds M Q' q) fun cdv A outer s H vs Q E hr ⟨ds,M,Q',rs,hm,q,k'⟩=>?_
 obtain ⟨t,h1,h2⟩:=hbody cdv A outer s H ds M Q' E hr q
 have fin:∀ v H',LQ K H (Dn Q') v H'->Q v H':=fun v H' ⟨d,M1,rd,hm1,ex,M2,sub,q2⟩=>k' v H' ⟨d,M2,rd,hm1.sub sub,ex,q2⟩
 refine ⟨_,h1,gA N ds,M,_,qE rs N,hm,h2,⟨fun σ' H' ⟨ρ',M',_,hm',ex,q'⟩=>fin _ H' ⟨.non,M',zM,hm',ex,q'⟩,fin,fun σ' H' ⟨_,_,_,_,_,z⟩=>z.elim,fun σ' H' ⟨_,_,_,_,_,z⟩=>z.elim⟩⟩
end
theorem aDr {P:Program} {w:World} {K:PySem.W.Frag} {mg mb:Str->Option Value} {CX:CXT} {k:Nat} {fa a:Addr} {fd:FuncData} {x:Str} {sp:Sp} {s₁:Shared} {vs:List Value} {ns:List Int}
  (KX:K.In s₁.heap) (hns:s₁.heap.Ns mainGlobals mg) (hb:s₁.heap.Ns builtinsNs mb) (hbb:∀ x:Str,x ≠ "__name__"->mb x = bootBuiltins x) (hlim:s₁.heap.NoLimit) (hg:s₁.gens = #[])
  (ha:s₁.heap.get? a = some { cls:=.type "list",data:=.seq vs.toArray }) (hi:IntsAre vs ns) (hl:ns.length<=sizeLine) (hr:eB k callerA)
  (F:∀ base:Heap,K.In base->base.Ns mainGlobals mg->jH P w K mg base CX k fa fd [x] sp) (hbind:∀ (s:Shared) (u:Value),BindsTo s fd ⟨[u],[]⟩ [(x,u)])
  (hsp:∀ H:Hp,aIW H->SqX K H a (ns.map V.int)->sp [.ref a] H (fun v _=>v = .bl true) fun _ _ _=>False)
  (hCX:∀ H e s',CX [] H s₁ (fun _ _ _=>False) e s'->False) :
  codeAny (model P w) callerA (.call (.ref fa) ⟨[.ref a],[]⟩) (fun r s'=>r = .ok (.ret (.bool true))/\OldK s₁.heap s'.heap/\s'.os = s₁.os/\AllBare s'.gens) s₁:=by
 have rv:=rZ hi
 have lenV:=hi.length
 refine aEC (ns:=ns) (sp:=fun vs H Q E=>SqX K H a (ns.map V.int)/\sp vs H Q E) KX hns hb hbb hlim hg ha hi hl hr (fun base h1 h2=>(F base h1 h2).imp fun _ _ _ _ z=>z.2) hbind (fun H hO hS=>?_) hCX
 have sx:SqX K H a (ns.map V.int):=by
  rcases hS with (h | h) | ⟨o,its,n,hk,hc,hd,hs,hz,r⟩
  ·rcases hO a with z | ⟨o,xs,z⟩
   ·rw [h] at z;cases z
   ·rw [h] at z;cases z
  ·exact .inl h
  ·have e:=KX a o hk
   rw [ha] at e
   cases e
   cases hs
   exact .inr ⟨_,_,hk,hz,r⟩
 exact ⟨sx,hsp H hO sx⟩
theorem walk_ofD {l:PySem.W.OpenLaw} {n k:Nat} {q:Program} {loose:List Str} {XP:(Str->Option Value)->Heap->Prop} {YP:World->Heap->Prop} {d:DefRec} {K:Params->PySem.W.Frag} {sp:DSp} {x:Str}
  (hn:l.most = some n) (hn2:n<=sizeLine) (hdf:d.params.defaults = []) (hr:eB k callerA)
  (hY:∀ (w:World) (h:Heap),YP w h->(K w.params).In h)
  (F:∀ (w:World) (mg:Str->Option Value) (fa:Addr) (h:Heap),(K w.params).In h->h.Ns mainGlobals mg->mg d.name = some (.ref fa) ->
   ∃ fd:FuncData,(∀ (s:Shared) (u:Value),BindsTo s fd ⟨[u],[]⟩ [(x,u)]) /\
    ∀ base:Heap,(K w.params).In base->base.Ns mainGlobals mg->jH l.prog w (K w.params) mg base CX0 k fa fd [x] (qS (K w.params) sp))
  (hsp:∀ (ns:List Int),ns.length<=n->∀ M,sp [.fz (ns.map D.int)] M fun d _=>d = .bl true) :
  PySem.W.WalkO q loose XP YP l.row.toRowW d [] (fun f vs=>PySem.call f vs):=by
 refine Att.attach_call hn hdf fun w s₀ s₁ mg mb fa o pm cd doc a vs ns G Y ho hd hcd hmg hobj hints hlen hg=>?_
 have KX:=hY w _ Y
 obtain ⟨fd,hb,hF⟩:=F w mg fa _ KX G.T.g hmg
 refine aDr KX G.T.g G.T.b G.T.builtins G.T.nolimit hg hobj hints (Nat.le_trans hlen hn2) hr hF hb (fun H hO hS=>?_) fun H e s' h=>h
 refine ⟨[.fz (ns.map D.int)],fun _=>none,_,cC (by unfold Rep;exact ⟨a,_,rfl,hS,yH ns⟩) cO,⟨(fun _ _ z=>by cases z),(fun _ _ z=>by cases z)⟩,hsp ns hlen _,fun v H' z=>?_⟩
 obtain ⟨d,M',rd,_,_,e⟩:=z
 have e':d = .bl true:=e
 subst e'
 exact cL rd
end Dd
namespace Dd
open PySem PySem.Spec PyProof.Rows L2
noncomputable def cA (K:PySem.W.Frag) (mg:Str->Option Value) (x:Str) (st:Stmt) (ps:List Str):Prop:=∃ f fd,L2.Fun K x x st f fd/\mg x = some (.ref f)/\nA K fd ps []
noncomputable def Has (P:Program) (w:World) (K:PySem.W.Frag) (mg:Str->Option Value) (base:Heap) (k:Nat) (x:Str) (ps:List Str) (sp:DSp):Prop :=
 ∃ f fd,jH P w K mg base CX0 k f fd ps (qS K sp)/\mg x = some (.ref f)/\PySem.W.keepIn K (.ref f) = true/\nA K fd ps []
noncomputable def gH (K:PySem.W.Frag) (mg:Str->Option Value) (x:Str) (d:D):Prop:=∃ u v,mg x = some u/\bO v u/\∀ H,Rep K H d v
section
variable {P:Program} {w:World} {K:PySem.W.Frag} {mg:Str->Option Value} {base:Heap}
theorem Has.mk {x:Str} {st:Stmt} {N ps:List Str} {k:Nat} {sp:DSp} (h:cA K mg x st ps) (S:aS N ps (aK st)) (len:∀ ds M Q,sp ds M Q->ds.length = ps.length)
  (hbody:∀ (f:Addr) (cdv:Value) (A:Around) (outer:List Env) (s:Shared) (H:Hp) (ds:List D) (M:DM) (Q:DQ) (E:XK),eB k (A.deeper (envOfC x (aK st) s.heap.objs.size f cdv))->sp ds M Q ->
   ∃ t,iV (kA CX0 P w K mg base N x (aK st) f cdv A outer s H E).nox (eK st) t/\t { nx:=fun _ M'=>Dn Q .non M',rt:=Dn Q } (gA N ds) M):Has P w K mg base (k + 1) x ps sp:=by
 obtain ⟨f,fd,F,hm,hb⟩:=h
 exact ⟨f,fd,Fun.okD F S len fun cdv A outer s H ds M Q E hr q=>hbody f cdv A outer s H ds M Q E hr q,hm,F.kp,hb⟩
theorem Has.imp {x:Str} {ps:List Str} {k:Nat} {sp sp':DSp} (h:Has P w K mg base k x ps sp) (i:∀ ds M Q,sp' ds M Q->sp ds M Q):Has P w K mg base k x ps sp':=by
 obtain ⟨f,fd,F,hm,hk,hb⟩:=h
 exact ⟨f,fd,F.imp fun vs H Q E ⟨ds,M,Q',a,b,c,d⟩=>⟨ds,M,Q',a,b,i _ _ _ c,d⟩,hm,hk,hb⟩
end
section
variable {X:Cx} {a b c e:Expr} {es:List Expr} {ta tb te:DE} {t:DA} {pos p:Pos} {x:Str} {ps:List Str} {sp:DSp} {k j:Nat}
theorem aD5 (h:Has X.prog X.w X.K X.mg X.base k x ps sp) (hr:eB j X.A) (hkj:k<=j) (ha:PDA X (e :: es) t) (hg:Gl X x:=by rfl)
  (hdb:(x == ("__debug__":Str)) = false:=by decide) (he:starEach (e :: es) X.env = (false,eval e X.env) :: starEach es X.env:=by rfl) (hpl:(backTo pos (starEach es X.env)).any (·.1) = false:=by rfl) :
  PDE X (.Call (.Name x p) (e :: es) [] pos) (mE sp t):=by
 obtain ⟨f,fd,F,hm,hk,hb⟩:=h
 exact aF9 F (hr.mono hkj) hm hk hb aEh ha hg hdb he hpl
theorem aDu (h:Has X.prog X.w X.K X.mg X.base k x ps sp) (hr:eB j X.A) (hkj:k<=j) (hg:Gl X x:=by rfl) (hdb:(x == ("__debug__":Str)) = false:=by decide):PDE X (.Call (.Name x p) [] [] pos) (mE sp aBM):=by
 obtain ⟨f,fd,F,hm,hk,hb⟩:=h
 exact aFD F (hr.mono hkj) hm hk hb aEh hg hdb
theorem aFG {d:D} (h:gH X.K X.mg x d) (hg:Gl X x:=by rfl) (hd:(x == ("__debug__":Str)) = false:=by decide):PDE X (.Name x pos) (dC d):=by
 obtain ⟨u,v,hm,rv,hr⟩:=h
 exact aGQ hg hm rv hr hd
noncomputable def aHo (i:Nat) (te:DE) (g:Int->Int->Int):DS:=fun E ρ M=>match ρ[i]? with
 | some (some (.int z))=>te ρ M fun y M1=>match y with
  | .int j=>E.nx (ρ.set i (some (.int (g z j)))) M1
  | _=>False
 | _=>False
theorem aF5 {i:Nat} {op:Operator} {g:Int->Int->Int} {pos':Pos} (ho:PIp X op (ipI g)) (hN:X.N.Nodup) (he:PDE X e te) (hi:X.N[i]? = some x:=by rfl) (hx:Loc X.env.scope x:=by first | exact Or.inl rfl | exact Or.inr rfl) (hf:X.fn x = true ∨ X.env.scope.names.lookup x = some .local:=by first | exact .inl rfl | exact .inr rfl | assumption) :
  PDS X (.AugAssign (.Name x pos') op e pos) (aHo i te g) :=
 gM (aJk (i:=i) hN hi hx he ho hf) fun E σ H ⟨ρ,M,Dn,re,hm,q,k⟩=>by
  unfold aHo at q
  split at q
  ·rename_i z e1
   obtain ⟨v,e2,rv⟩:=re.get i _ e1
   obtain rfl:=aV rv
   refine ⟨_,e2,ρ,M,_,re,hm,q,fun w H1 ⟨d,M1,rd,hm1,ex,q1⟩=>?_⟩
   cases d with
   | int j=>exact ⟨z,j,rfl,aV rd,k.nx _ H1 ⟨_,M1,(re.ext ex).set bY i,hm1,ex,q1⟩⟩
   | _=>exact q1.elim
  ·exact q.elim
end
theorem dif {c A B:Prop} [Decidable c] (h1:c->A) (h2:¬ c->B):if decide c = true then A else B:=by
 by_cases h:c
 ·rw [decide_eq_true h];exact h1 h
 ·rw [decide_eq_false h];exact h2 h
theorem aHC {b:Bool} {A B:Prop} (h1:b = true->A) (h2:b = false->B):if b = true then A else B:=by
 cases b
 ·exact h2 rfl
 ·exact h1 rfl
end Dd
namespace Dd
open PySem PySem.Spec PyProof.Rows L2
section
variable {prog:Program} {w:World} {A:Around} {E:Value->Shared->Prop} {s:Shared}
theorem vF {h h':Heap} {it t:Addr} {items:Array Value} (ht:h.IsList t items) (hs:Heap.SameBut it h h') (hne:t ≠ it):h'.IsList t items:=by
 obtain ⟨o,e,r⟩:=ht
 exact ⟨o,(hs.2 t hne).trans e,r⟩
theorem tJ {h:Heap} {t:Addr} {items:Array Value} (ht:h.IsList t items) (o:Obj):(h.push o).IsList t items:=by
 obtain ⟨o',e,r⟩:=ht
 exact ⟨o',Heap.get?_push_of_some _ e,r⟩
theorem yR {it t:Addr} {items:Array Value} (hne:t ≠ it):∀ (n i:Nat) (s:Shared) (Q:List Value->Shared->Prop),s.heap.IsListIter it t i->s.heap.IsList t items->i + n<=items.size ->
  (∀ h',h'.IsListIter it t (i + n)->Heap.SameBut it s.heap h'->Q ((items.toList.drop i).take n) { s with heap:=h' })->wpAny (model prog w) A (draw (.ref it) n) Q E s
 | 0,i,s,Q,hit,_,_,hQ=>by
  show wpAny _ _ (pure []) Q E s
  exact wpAny_pure (by simpa using hQ s.heap hit (Heap.SameBut.refl ..))
 | n + 1,i,s,Q,hit,ht,hle,hQ=>by
  have hlt:i < items.size:=by omega
  show wpAny _ _ (pyNext (.ref it) >>= _) Q E s
  refine wpAny_bind (wpAny_pyNext_list_item hit ht (x:=items[i]) (by simp [hlt]) fun h₁ hit₁ hs₁=>?_)
  refine wpAny_bind (wpAny_holding (yR hne n (i + 1) _ _ hit₁ (vF ht hs₁ hne) (by omega) fun h₂ hit₂ hs₂=>wpAny_pure ?_))
  have hd:items.toList.drop i = items[i] :: items.toList.drop (i + 1):=by simp [List.drop_eq_getElem_cons,hlt]
  have:=hQ h₂ (by rw [show i + (n + 1) = i + 1 + n by omega];exact hit₂) (hs₁.trans hs₂)
  rw [hd,List.take_succ_cons] at this
  exact this
theorem rR {t:Addr} {items:Array Value} {Q:List Value->Shared->Prop} (hh:A.handled = none) (ht:s.heap.IsList t items)
  (hQ:∀ h',Heap.ExtBut s.heap.objs.size s.heap h'->Q items.toList { s with heap:=h' }):wpAny (model prog w) A (unpackItems (.ref t) items.size none) Q E s:=by
 have hlt:t ≠ s.heap.objs.size:=by obtain ⟨o,ho,_⟩:=ht;exact Nat.ne_of_lt (Heap.lt_size ho)
 unfold unpackItems
 refine wpAny_bind ?_
 ·unfold notIterableAtAll
  refine wpAny_bind (wpAny_specialOf ht.typeIs slot_list_iter.lookup ?_)
  refine wpAny_pure ?_
  simp only [Bool.false_eq_true,if_false]
  refine wpAny_bind (wpAny_holding (wpAny_pyIter_list ht ?_))
  refine wpAny_bind (wpAny_holding (yR hlt items.size 0 _ _ ⟨_,Heap.get?_push_size _ rfl,rfl,rfl⟩ (tJ ht _) (by omega) fun h₁ hit₁ hs₁=>?_))
  have hall:List.take items.size (List.drop 0 items.toList) = items.toList:=by
   rw [List.drop_zero];exact List.take_of_length_le (by simp)
  rw [hall]
  rw [if_neg (by simp)]
  have ht₁:h₁.IsList t items:=vF (tJ ht _) hs₁ hlt
  refine wpAny_bind (wpAny_holding (wpAny_pyNext_list_end hh hit₁ ht₁ (by simp) fun h₂ he₂=>?_))
  simp only [Option.isSome_none,Bool.false_eq_true,if_false]
  refine wpAny_pure (hQ h₂ fun b o hb e=>he₂ b o hb (hs₁.extBut b o hb (Heap.get?_push_of_some _ e)))
theorem qJ {env:Env} {elts:List Expr} {x1} {pos:Pos} {t:Addr} {items:Array Value} {Q:Unit->Shared->Prop} (hh:A.handled = none) (ht:s.heap.IsList t items)
  (hn:(assignEach elts env).length = items.size) (hstar:(assignEach elts env).findIdx? (·.1) = none)
  (h:∀ h',Heap.ExtBut s.heap.objs.size s.heap h'->wpAny (model prog w) A (assignInOrder ((assignEach elts env).map (·.2)) items.toList) Q E { s with heap:=h' }) :
  wpAny (model prog w) A (assign (.Tuple elts x1 pos) env (.ref t)) Q E s:=by
 rw [assign_Tuple]
 refine wpAny_bind (wpAny_standAt ?_)
 unfold unpack
 rw [hn,hstar]
 exact wpAny_bind (wpAny_holding (rR hh ht h))
end
section
variable {X:Cx} {pos:Pos} {e a b:Expr} {es:List Expr} {te ta tb:DE}
noncomputable def gU (n:Nat) (t:DGs):DG:=fun d ρ M Q=>match d with
 | .tup ds=>ds.length = n/\t ds ρ M Q
 | .ref a=>∃ ds,M a = some ds/\ds.length = n/\t ds ρ M Q
 | _=>False
theorem aI0 {k:Nat} {t:DGs} {n:Nat} (hc:X.calm = true) (h:aBb X es t) (hn:(assignEach es X.env).length = n:=by rfl) (hst:(assignEach es X.env).findIdx? (·.1) = none:=by rfl):PDG X (.Tuple es k pos) (gU n t):=by
 intro pins s σ H v u Q I r ⟨d,ρ,M,Q',rd,re,hm,q,k'⟩
 cases d with
 | tup ds=>exact aH6 hc h hn hst pins s σ H v u Q I r ⟨.tup ds,ρ,M,Q',rd,re,hm,q,k'⟩
 | ref p =>
  obtain ⟨ds,hp,hl,q⟩:=q
  obtain rfl:=aT rd
  cases r
  obtain ⟨us,hu,ru⟩:=hm.l p ds hp
  obtain ⟨z,its,nn,rv,hlen,e1⟩:=I.lstM hu
  have l1:=ru.length
  refine qJ (I.ok.hd hc) ⟨_,e1,rfl,_,rfl⟩ (by rw [hn,List.size_toArray];omega) hst fun h' hx=>?_
  have I1:Inv X pins σ H { s with heap:=h' }:=I.kept (t':=s.toks) fun b o e=>hx b o (Nat.ne_of_lt (Heap.lt_size e)) e
  exact h pins _ σ H us _ Q I1 (by simpa using rv) ⟨ds,ρ,M,Q',ru,re,hm,q,k'⟩
 | _=>exact q.elim
noncomputable def isV:D->D->Option Bool
 | .non,.non=>some true
 | .bl a,.bl b=>some (a == b)
 | .non,.bl _=>some false
 | .bl _,.non=>some false
 | .int _,.non=>some false
 | .str _,.non=>some false
 | .tup _,.non=>some false
 | .ref _,.non=>some false
 | .fz _,.non=>some false
 | .tup _,.bl _=>some false
 | _,_=>none
noncomputable def aE7 (g:Bool->Bool):D2:=fun x y M Q=>match isV x y with
 | some k=>Q (.bl (g k)) M
 | none=>False
theorem aEr {K:PySem.W.Frag} {H:Hp} {x y:V} {v u:Value} {dx dy:D} {k:Bool} (rx:bO x v) (ry:bO y u) (r1:Rep K H dx x) (r2:Rep K H dy y) (h:isV dx dy = some k):plainIs v u = true/\(v == u) = k:=by
 cases dx<;>cases dy<;>first
  | (cases (show (none:Option Bool) = some k from h))
  | (
    first
    | (rw [dG r1] at rx;cases rx)
    | (rw [cL r1] at rx;cases rx)
    | (rw [aV r1] at rx;obtain ⟨t,rfl⟩:=rx)
    | (rw [bU r1] at rx;obtain ⟨t,rfl⟩:=rx)
    | (rw [aT r1] at rx;cases rx)
    | (obtain ⟨a,us,rfl,_,_⟩:=bM r1;cases rx)
    | (obtain ⟨a,us,rfl,_,_⟩:=jZ r1;cases rx)
    first
    | (rw [dG r2] at ry;cases ry)
    | (rw [cL r2] at ry;cases ry)
    simp only [isV,Option.some.injEq] at h
    subst h
    constructor<;>first | rfl | (rename_i b1 b2;cases b1<;>cases b2<;>rfl))
theorem aHz:OpD X (compareOp .Is) (aE7 id):=fun pins s σ H x y v u Q I rx ry ⟨dx,dy,M,Q',r1,r2,hm,q,k⟩=>by
 unfold aE7 at q
 split at q
 ·rename_i b e
  obtain ⟨h1,h2⟩:=aEr rx ry r1 r2 e
  exact wpAny_is_plain h1 (by rw [h2];exact ⟨.bl b,H,I,rfl,k _ H ⟨_,M,eA,hm,.refl H,q⟩⟩)
 ·exact q.elim
theorem aEG:OpD X (compareOp .IsNot) (aE7 not):=fun pins s σ H x y v u Q I rx ry ⟨dx,dy,M,Q',r1,r2,hm,q,k⟩=>by
 unfold aE7 at q
 split at q
 ·rename_i b e
  obtain ⟨h1,h2⟩:=aEr rx ry r1 r2 e
  exact wpAny_isNot_plain h1 (by rw [h2];exact ⟨.bl (!b),H,I,rfl,k _ H ⟨_,M,eA,hm,.refl H,q⟩⟩)
 ·exact q.elim
end
end Dd
namespace Dd
open PySem PySem.Spec PyProof.Rows L2
section
variable {M:DM} {Q:DQ} {g:Bool->Bool} {ds:List D} {i:Int} {a:Addr} {α:Type} {x0 x1 x2 x3 x4 x5:α} {l:List α}
theorem ixT:jS (.tup ds) (.int i) M Q = (match atI ds i with | some d=>Q d M | none=>False):=rfl
theorem ixF:jS (.fz ds) (.int i) M Q = (match atI ds i with | some d=>Q d M | none=>False):=rfl
theorem aL4:jS (.ref a) (.int i) M Q = (∃ ds d,M a = some ds/\atI ds i = some d/\Q d M):=rfl
theorem aJQ:atI [x0] 0 = some x0:=rfl
theorem aJ0:atI [x0] (-1) = some x0:=rfl
theorem aJ7:atI [x0,x1] 0 = some x0:=rfl
theorem aIm:atI [x0,x1] 1 = some x1:=rfl
theorem aJF:atI [x0,x1] (-1) = some x1:=rfl
theorem aHQ:atI [x0,x1,x2] 0 = some x0:=rfl
theorem aIZ:atI [x0,x1,x2] 1 = some x1:=rfl
theorem aJC:atI [x0,x1,x2] 2 = some x2:=rfl
theorem aIg:atI [x0,x1,x2] (-1) = some x2:=rfl
theorem aIe:atI [x0,x1,x2,x3] 0 = some x0:=rfl
theorem aJh:atI [x0,x1,x2,x3] 1 = some x1:=rfl
theorem aKe:atI [x0,x1,x2,x3] 2 = some x2:=rfl
theorem aJ8:atI [x0,x1,x2,x3] 3 = some x3:=rfl
theorem aIK:atI [x0,x1,x2,x3] (-1) = some x3:=rfl
theorem aIY:atI [x0,x1,x2,x3,x4] 0 = some x0:=rfl
theorem aJE:atI [x0,x1,x2,x3,x4] 1 = some x1:=rfl
theorem aIU:atI [x0,x1,x2,x3,x4] 2 = some x2:=rfl
theorem aHZ:atI [x0,x1,x2,x3,x4] 3 = some x3:=rfl
theorem aI8:atI [x0,x1,x2,x3,x4] 4 = some x4:=rfl
theorem aIt:atI [x0,x1,x2,x3,x4] (-1) = some x4:=rfl
theorem aJt:atI [x0,x1,x2,x3,x4,x5] 0 = some x0:=rfl
theorem aJ5:atI [x0,x1,x2,x3,x4,x5] 1 = some x1:=rfl
theorem aIn:atI [x0,x1,x2,x3,x4,x5] 2 = some x2:=rfl
theorem aH5:atI [x0,x1,x2,x3,x4,x5] 3 = some x3:=rfl
theorem aIJ:atI [x0,x1,x2,x3,x4,x5] 4 = some x4:=rfl
theorem aIS:atI [x0,x1,x2,x3,x4,x5] 5 = some x5:=rfl
theorem aJK:atI [x0,x1,x2,x3,x4,x5] (-1) = some x5:=rfl
theorem aI6 {n:Nat} {t:DGs} {ρ:cF} {R:cF->DM->Prop}:gU n t (.tup ds) ρ M R = (ds.length = n/\t ds ρ M R):=rfl
theorem aJP {n:Nat} {t:DGs} {ρ:cF} {R:cF->DM->Prop}:gU n t (.ref a) ρ M R = (∃ ds,M a = some ds/\ds.length = n/\t ds ρ M R):=rfl
theorem iI {i j:Int}:dEq g (.int i) (.int j) M Q = Q (.bl (g (decide (i = j)))) M:=by
 show (bH 60 (.int i) = true/\bH 60 (.int j) = true/\Q (.bl (g (eqD (.int i) (.int j)))) M) = _
 have e:eqD (.int i) (.int j) = decide (i = j):=by show (i == j) = _;by_cases h:i = j<;>simp [h]
 rw [e]
 exact propext ⟨fun h=>h.2.2,fun h=>⟨rfl,rfl,h⟩⟩
theorem aO {x y:Str}:dEq g (.str x) (.str y) M Q = Q (.bl (g (decide (x = y)))) M:=by
 show (bH 60 (.str x) = true/\bH 60 (.str y) = true/\Q (.bl (g (eqD (.str x) (.str y)))) M) = _
 have e:eqD (.str x) (.str y) = decide (x = y):=by show (x == y) = _;by_cases h:x = y<;>simp [h]
 rw [e]
 exact propext ⟨fun h=>h.2.2,fun h=>⟨rfl,rfl,h⟩⟩
theorem le2 {α:Type} {x y:α}:([x,y]:List α).length<=1000:=by show (2:Nat)<=1000;decide
noncomputable def isK (K:PySem.W.Frag) (c:Value) (d:D) (M:DM) (Q:DQ):Prop:=(∃ T k,tyD d = some T/\PySem.W.kitOne K (.type T) c = some k/\Q (.bl k) M) ∨ (∃ (p:Addr) (xs:List D) (k:Bool),d = .ref p/\M p = some xs/\PySem.W.kitOne K (.type "list") c = some k/\Q (.bl k) M)
theorem aH1 {K:PySem.W.Frag} {c:Value} {te:DE} {ρ:cF}:dIs K c te ρ M Q = te ρ M fun d M1=>isK K c d M1 Q:=rfl
theorem aCU {K:PySem.W.Frag} {c:Value} {p:Addr} {xs:List D} {k:Bool} (h:M p = some xs) (e:PySem.W.kitOne K (.type "list") c = some k) (q:Q (.bl k) M):isK K c (.ref p) M Q:=.inr ⟨p,xs,k,rfl,h,e,q⟩
end
end Dd
namespace L2
open PySem PySem.Spec PyProof.Rows
noncomputable def clo (cells:List (Str × Addr)):List (Str × NameKind)->List (Str × Addr)->List (Str × Addr)
 | [],cs=>cs
 | (n,k) :: r,cs=>clo cells r (if k == .free then (n,(cells.lookup n).getD 0) :: cs else cs)
noncomputable def aBh (env:Env) (x:Str × NameKind) (r:List (Str × Addr)):Sem (ForInStep (List (Str × Addr))) :=
 if (x.2 == NameKind.free) = true then do let a <- cellOf env x.1;pure (ForInStep.yield ((x.1,a) :: r)) else pure (ForInStep.yield r)
theorem aA6 {env:Env}:∀ (names:List (Str × NameKind)) (cs:List (Str × Addr)),(∀ y ∈ names,y.2 = .free->∃ c,env.cells.lookup y.1 = some c)->(forIn names cs (aBh env):Sem (List (Str × Addr))) = pure (clo env.cells names cs)
 | [],cs,_=>rfl
 | (n,k) :: r,cs,hh=>by
  rw [List.forIn_cons]
  have ih:=fun cs=>aA6 (env:=env) r cs fun z hz=>hh z (List.mem_cons_of_mem _ hz)
  cases hk:k == NameKind.free with
  | true =>
   have hf:k = .free:=by simpa using hk
   obtain ⟨c,hc⟩:=hh (n,k) List.mem_cons_self hf
   have hc:env.cells.lookup n = some c:=hc
   have e:aBh env (n,k) cs = pure (ForInStep.yield ((n,c) :: cs)):=by
    unfold aBh
    rw [if_pos hk]
    show (cellOf env n >>= _) = _
    unfold cellOf
    rw [hc]
    rfl
   rw [e]
   refine Eq.trans (b:=(forIn r ((n,c) :: cs) (aBh env):Sem (List (Str × Addr)))) rfl ?_
   rw [ih]
   show _ = pure (clo env.cells r (if k == .free then (n,(env.cells.lookup n).getD 0) :: cs else cs))
   rw [hk,if_pos rfl,hc]
   rfl
  | false =>
   have e:aBh env (n,k) cs = pure (ForInStep.yield cs):=by
    unfold aBh
    rw [if_neg (by rw [hk];decide)]
   rw [e]
   refine Eq.trans (b:=(forIn r cs (aBh env):Sem (List (Str × Addr)))) rfl ?_
   rw [ih]
   show _ = pure (clo env.cells r (if k == .free then (n,(env.cells.lookup n).getD 0) :: cs else cs))
   rw [hk,if_neg (by decide)]
theorem sZ {scope:Scope} {env:Env} (h:∀ y ∈ scope.names,y.2 = .free->∃ c,env.cells.lookup y.1 = some c):closureFor scope env = pure (clo env.cells scope.names []):=by
 have e:closureFor scope env = ((forIn scope.names [] (aBh env):Sem (List (Str × Addr))) >>= fun cs=>pure cs):=rfl
 rw [e,aA6 _ _ h]
 rfl
theorem aCQ {cells:List (Str × Addr)} {x:Str} {c:Addr}:∀ {names:List (Str × NameKind)} {cs:List (Str × Addr)},(∀ y ∈ names,y.2 = .free->∃ c,cells.lookup y.1 = some c)->(cs.lookup x = some c->cells.lookup x = some c)->(clo cells names cs).lookup x = some c->cells.lookup x = some c
 | [],cs,_,h,e=>h e
 | (n,k) :: r,cs,hh,h,e=>by
  unfold clo at e
  refine aCQ (fun y hy=>hh y (List.mem_cons_of_mem _ hy)) (fun e2=>?_) e
  cases hk:k == NameKind.free with
  | false=>rw [hk,if_neg (by decide)] at e2;exact h e2
  | true =>
   rw [hk,if_pos rfl] at e2
   have hk':k = .free:=by simpa using hk
   obtain ⟨c',hc'⟩:=hh (n,k) List.mem_cons_self hk'
   have hc':cells.lookup n = some c':=hc'
   rw [List.lookup_cons] at e2
   cases hx:x == n with
   | true =>
    rw [hx] at e2
    have:x = n:=by simpa using hx
    subst this
    rw [hc'] at e2 ⊢
    exact e2
   | false=>rw [hx] at e2;exact h e2
theorem aAw {cells:List (Str × Addr)} {x:Str}:∀ {names:List (Str × NameKind)} {cs:List (Str × Addr)},((x,NameKind.free) ∈ names ∨ ∃ c,cs.lookup x = some c)->∃ c,(clo cells names cs).lookup x = some c
 | [],cs,h=>by
  rcases h with h | h
  ·exact nomatch h
  ·exact h
 | (n,k) :: r,cs,h=>by
  unfold clo
  refine aAw ?_
  have ins:∀ {v:Addr},(∃ c,cs.lookup x = some c)->∃ c,((n,v) :: cs).lookup x = some c:=fun {v} ⟨c,e⟩=>by
   rw [List.lookup_cons]
   cases x == n with
   | true=>exact ⟨_,rfl⟩
   | false=>exact ⟨c,e⟩
  rcases h with h | h
  ·rcases List.mem_cons.mp h with e | e
   ·cases e
    refine .inr ⟨_,by rw [if_pos (by rfl),List.lookup_cons,beq_self_eq_true]⟩
   ·exact .inl e
  ·cases hk:k == NameKind.free with
   | true=>rw [if_pos rfl];exact .inr (ins h)
   | false=>rw [if_neg (by decide)];exact .inr h
theorem sW {g:Str->NameKind->NameKind} {x:Str}:∀ {names:List (Str × NameKind)},(names.map fun p=>(p.1,g p.1 p.2)).lookup x = (names.lookup x).map (g x)
 | []=>rfl
 | (n,k) :: r=>by
  rw [List.map_cons,List.lookup_cons,List.lookup_cons]
  cases hx:x == n with
  | true =>
   have:x = n:=by simpa using hx
   subst this
   rfl
  | false=>exact sW
theorem nO {scope:Scope} {env:Env} {x:Str}:(relabel scope env).names.lookup x = (scope.names.lookup x).map fun k=>if (k == NameKind.free && env.scope.kind == .function && env.kindOf x == some .cell) = true then .cell else k:=by
 rw [<- sW (g:=fun x k=>if (k == NameKind.free && env.scope.kind == .function && env.kindOf x == some .cell) = true then .cell else k)]
 unfold relabel
 dsimp only
 congr 1
 refine List.map_congr_left fun p _=>?_
 obtain ⟨n,k⟩:=p
 dsimp only
 split<;>rfl
noncomputable abbrev Cx.blk (X:Cx) (N':List Str) (scope:Scope) (C:Addr) (s:Shared) (H:Hp) (fp:List Addr) (pins:List (Addr × Obj)):Cx :=
 { X with N:=N',s₀:=s,H₀:=H,env:=compEnvC scope (clo X.env.cells scope.names []) C X.env,outer:=X.stack,ex:=fp,fn:=fun _=>false,pn:=X.pn ++ pins,xe:=fun _ _=>False }
structure dZ (X:Cx) (N':List Str) (fr:List (Option Nat)) (scope:Scope):Prop where
 kind:scope.kind = .function
 nocell:∀ y ∈ scope.names,y.2 ≠ .cell
 names:∀ y ∈ scope.names,y.2 = .local->scope.names.lookup y.1 = some .local
 free:∀ y ∈ scope.names,y.2 = .free->X.env.scope.names.lookup y.1 = some .cell
 len:fr.length = N'.length
 at':∀ (i j:Nat) (x:Str),N'[i]? = some x->fr[i]? = some (some j)->X.N[j]? = some x/\scope.names.lookup x = some .free
structure mH (oN:List Str) (osc:Scope) (N':List Str) (fr:List (Option Nat)) (scope:Scope):Prop where
 kind:scope.kind = .function
 nocell:∀ y ∈ scope.names,y.2 ≠ .cell
 names:∀ y ∈ scope.names,y.2 = .local->scope.names.lookup y.1 = some .local
 free:∀ y ∈ scope.names,y.2 = .free->osc.names.lookup y.1 = some .cell
 len:fr.length = N'.length
 at':∀ p ∈ N'.zip fr,∀ j ∈ p.2,oN[j]? = some p.1/\scope.names.lookup p.1 = some .free
theorem mH.scope {X:Cx} {oN:List Str} {osc:Scope} {N':List Str} {fr:List (Option Nat)} {scope:Scope} (B:mH oN osc N' fr scope) (hN:X.N = oN) (ho:X.env.scope = osc):dZ X N' fr scope:=by
 subst hN ho
 refine ⟨B.kind,B.nocell,B.names,B.free,B.len,fun i j x h1 h2=>?_⟩
 have:(x,some j) ∈ N'.zip fr:=by
  refine List.mem_of_getElem? (i:=i) ?_
  rw [List.getElem?_zip_eq_some]
  exact ⟨h1,h2⟩
 exact B.at' _ this j rfl
noncomputable def nV (fr:List (Option Nat)) (σ:St):St:=fr.map fun o=>match o with
 | some j=>(σ[j]?).join
 | none=>none
section
variable {X:Cx} {pins:List (Addr × Obj)} {σ:St} {H:Hp} {s:Shared} {N':List Str} {fr:List (Option Nat)} {scope:Scope} {C:Addr} {fp:List Addr}
theorem dZ.hasC (S:dZ X N' fr scope) (ok:X.Ok):∀ y ∈ scope.names,y.2 = .free->∃ c,X.env.cells.lookup y.1 = some c:=fun y hy e=>ok.has y.1 (.inl (S.free y hy e))
theorem dZ.sub (S:dZ X N' fr scope) (ok:X.Ok) {x:Str} {c:Addr} (h:(clo X.env.cells scope.names []).lookup x = some c):X.env.cells.lookup x = some c:=aCQ (S.hasC ok) (fun z=>by cases z) h
theorem aDb (S:dZ X N' fr scope) (I:Inv X pins σ H s) {h':Heap} {m:Str->Option Value} (k:∀ x c v,(clo X.env.cells scope.names []).lookup x = some c->s.heap.IsCell c v->h'.IsCell c v) :
  ∀ (i:Nat) (x:Str) (v:V),N'[i]? = some x->(nV fr σ)[i]? = some (some v)->∃ u,bO v u/\aKJ (compEnvC scope (clo X.env.cells scope.names []) C X.env) h' m x u:=by
 intro i x v hx hv
 unfold nV at hv
 rw [List.getElem?_map] at hv
 cases hf:fr[i]? with
 | none=>rw [hf] at hv;cases hv
 | some o =>
  rw [hf] at hv
  cases o with
  | none=>cases hv
  | some j =>
   have hv:(σ[j]?).join = some v:=Option.some.inj hv
   obtain ⟨hN,hfree⟩:=S.at' i j x hx hf
   have hσ:σ[j]? = some (some v):=by
    cases e:σ[j]? with
    | none=>rw [e] at hv;cases hv
    | some o=>rw [e] at hv;rw [show o = some v from hv]
   have hmem:(x,NameKind.free) ∈ scope.names:=PySem.mem_of_lookup hfree
   have hcell:=S.free _ hmem rfl
   obtain ⟨mm,_,hl⟩:=I.loc
   obtain ⟨u,r,l⟩:=hl j x v hN hσ (.inr (.inl hcell))
   refine ⟨u,r,.inr ⟨.inl ?_,?_⟩⟩
   ·show (relabel scope X.env).names.lookup x = some .cell
    rw [nO,hfree]
    have h1:X.env.scope.kind = .function:=I.ok.kind
    have h2:X.env.kindOf x = some .cell:=hcell
    rw [h1,h2]
    rfl
   ·rcases l with ⟨k1,_⟩ | ⟨_,c,e,z⟩
    ·have:X.env.scope.names.lookup x = some .local:=k1
     rw [hcell] at this;cases this
    ·obtain ⟨c',e'⟩:=aAw (cells:=X.env.cells) (x:=x) (names:=scope.names) (cs:=[]) (.inl hmem)
     have e2:=S.sub I.ok e'
     rw [e] at e2
     cases e2
     exact ⟨c,e',k x c _ e' z⟩
theorem aCF (S:dZ X N' fr scope) (I:Inv X pins σ H s) (hf:∀ b ∈ fp,vP X pins H b) (ho:∀ b ∈ fp,∃ o,s.heap.get? b = some o) {s1:Shared} {m:Str->Option Value} (hos:s1.os = s.os) (hg:s1.gens = s.gens) (hC:s.heap.objs.size<=C) (k:∀ b o,s.heap.get? b = some o->s1.heap.get? b = some o) (hn:s1.heap.Ns C m) :
  Inv (X.blk N' scope C s H fp pins) [] (nV fr σ) H s1:=by
 have lt:∀ b o,s.heap.get? b = some o->b ≠ C:=fun b o e=>Nat.ne_of_lt (Nat.lt_of_lt_of_le (Heap.lt_size e) hC)
 have stk:∀ b,b ≠ X.env.locals->b ∉ X.fs->b ∉ frs X.stack:=fun b h1 h2 hb=>(List.mem_cons.mp (I.stkSub b hb)).elim h1 h2
 have cellK:∀ x c v,(clo X.env.cells scope.names []).lookup x = some c->s.heap.IsCell c v->s1.heap.IsCell c v:=fun x c v _ ⟨o,e,d⟩=>⟨o,k c o e,d⟩
 refine ⟨⟨I.ok.mod,S.kind,I.ok.glob,I.ok.blt,hC,fun x y c h1 h2=>I.ok.inj x y c (S.sub I.ok h1) (S.sub I.ok h2),fun x hx=>?_,(fun x c z=>by cases z),I.ok.hd,I.ok.frames,.inl rfl,fun b hb=>?_,I.bs,Nat.le_trans I.ok.bsz I.sz,fun b o e hb=>?_,fun b hb=>?_,I.stack,I.stkFree⟩,
  hos,by rw [hg];exact I.bare,Un.kept k,⟨m,hn,fun i x v h1 h2 _=>aDb S I cellK i x v h1 h2⟩,fun x c e=>?_,I.hok.fresh hC,fun x c e=>I.freeC x c (S.sub I.ok e),fun p hp=>?_,I.hok.kept k,?_⟩
 ·have hx:(relabel scope X.env).names.lookup x = some .cell ∨ (relabel scope X.env).names.lookup x = some .free:=hx
  rw [nO] at hx
  have hfree:(x,NameKind.free) ∈ scope.names:=by
   cases e:scope.names.lookup x with
   | none=>rw [e] at hx;rcases hx with z | z<;>cases z
   | some kk =>
    rw [e] at hx
    have hm:=PySem.mem_of_lookup e
    cases kk with
    | free=>exact hm
    | cell=>exact absurd rfl (S.nocell _ hm)
    | _=>rcases hx with z | z<;>cases z
  exact aAw (.inl hfree)
 ·obtain ⟨o,e⟩:=ho b hb
  obtain ⟨_,_,_,_,f4,_⟩:=hf b hb
  exact ⟨lt b o e,fun x c z=>f4 x c (S.sub I.ok z)⟩
 ·obtain ⟨_,_,_,f3,_⟩:=hf b hb
  rcases f3 with z | z
  ·exact I.ok.noex b o e z
  ·exact absurd (Nat.lt_of_lt_of_le (Heap.lt_size e) (Nat.le_trans I.ok.bsz z)) (Nat.lt_irrefl _)
 ·obtain ⟨_,f1,f2,_⟩:=hf b hb
  exact stk b f1 f2
 ·obtain ⟨v,z⟩:=I.cell x c (S.sub I.ok e)
  exact ⟨v,cellK x c v e z⟩
 ·rw [List.append_nil] at hp
  obtain ⟨e,n,ne,nf,d⟩:=I.pin p hp
  exact ⟨k p.1 p.2 e,n,lt p.1 p.2 e,stk p.1 ne nf,d⟩
 ·unfold nV
  rw [List.length_map]
  exact S.len
theorem sQ (S:dZ X N' fr scope) {s1:Shared} {H1:Hp} {σ1:St} {pl:List (Addr × Obj)} (I:Inv X pins σ H s) (J:Inv (X.blk N' scope C s H fp pins) pl σ1 H1 s1):Inv (X.blk N' scope C s H fp pins) pl (nV fr σ) H1 s1:=by
 obtain ⟨m,hn,_⟩:=id J.loc
 refine ⟨J.ok,J.os,J.bare,J.base,⟨m,hn,fun i x v h1 h2 _=>aDb S I (fun x c v e z=>?_) i x v h1 h2⟩,J.cell,J.free,J.freeC,J.pin,J.hok,?_⟩
 ·obtain ⟨o,eo,d⟩:=z
  have e':=S.sub I.ok e
  have hfree:=I.freeC x c e'
  have nex:c ∉ fp:=fun hb=>(J.ok.exf c hb).2 x c e rfl
  by_cases hfs:c ∈ frs X.stack
  ·obtain ⟨sl,q⟩:=J.base.slot c o eo hfree hfs nex
   exact ⟨_,q,d⟩
  ·exact ⟨o,J.base.keep c o eo hfree hfs nex,d⟩
 ·unfold nV
  rw [List.length_map]
  exact S.len
end
section
variable {prog:Program} {w:World} {A:Around} {R:Result->Shared->Prop} {s:Shared}
theorem mS {elt target iter:Expr} {scope:Scope} {pos:Pos} {it acc:Value} {env:Env} (I:Nat->Shared->Prop)
  (turn:∀ n s,I n s->wpAny (model prog w) A (pyNext it) (fun r s₁=>match r with
   | none=>R (.ok .next) s₁
   | some v=>wpAny (model prog w) A (letOwnedTupleGo target it v) (fun _ s₁'=>wpAny (model prog w) A (assign target env v) (fun _ s₂=>wpAny (model prog w) A (eval elt env) (fun x s₃ =>
     wpAny (model prog w) A (call (.builtin "list.append") [acc,x]) (fun _ s₄=>∃ m,m < n/\I m s₄) (fun _ _=>False) s₃)
     (fun _ _=>False) s₂) (fun _ _=>False) s₁') (fun _ _=>False) s₁) (fun _ _=>False) s)
  (n:Nat) (h:I n s):codeAny (model prog w) A (.compLoop (.ListComp elt [⟨target,iter,[],0⟩] scope pos) 0 it acc env) R s:=by
 refine codeAny_loop rfl I (fun n s hI=>?_) n h
 show wpAny _ _ ((compTurn (.ListComp elt [⟨target,iter,[],0⟩] scope pos) 0 it acc env).onRaise (fun x=>do noteFrame x env;theTreesLotGoes x)) _ _ s
 refine wpAny_noted ?_
 rw [compTurn_list1]
 refine wpAny_bind (wpAny_standAt (wpAny_bind (wpAny_mono (turn n s hI) (fun r s₁ h₁=>?_) fun _ _ h'=>h'.elim)))
 cases r with
 | none=>exact wpAny_pure h₁
 | some v =>
  exact wpAny_bind (wpAny_mono h₁ (fun _ s₁' h₁'=>wpAny_bind (wpAny_mono h₁' (fun _ s₂ h₂=>wpAny_bind (wpAny_bind (wpAny_mono h₂ (fun x s₃ h₃=>wpAny_bind (wpAny_mono h₃
   (fun _ s₄ h₄=>wpAny_pure (wpAny_pure ⟨rfl,h₄⟩)) fun _ _ h'=>h'.elim)) fun _ _ h'=>h'.elim))) fun _ _ h'=>h'.elim)) fun _ _ h'=>h'.elim)
end
theorem Inv.track {X:Cx} {pins:List (Addr × Obj)} {σ:St} {H:Hp} {s:Shared} {d:Addr} {ys:List V} (I:Inv X pins σ H s) (hn:H d = none) (hs:X.s₀.heap.objs.size<=d) (hL:d ≠ X.env.locals) (hc:∀ x c,X.env.cells.lookup x = some c->c ≠ d) (hp:∀ p ∈ X.pn ++ pins,p.1 ≠ d) (new:eN X.prog X.w (upd H d (.lst ys)) s.heap d (.lst ys)):Inv X pins σ (upd H d (.lst ys)) s:=by
 have ne0:∀ b o,X.s₀.heap.get? b = some o->b ≠ d:=fun b o e=>Nat.ne_of_lt (Nat.lt_of_lt_of_le (Heap.lt_size e) hs)
 refine ⟨I.ok,I.os,I.bare,⟨I.base.keep,I.base.slot,fun b o e n hx=>?_,I.base.there,fun b xs e=>?_,fun b o u e=>?_,fun b ps e=>?_⟩,I.loc,I.cell,?_,fun x c e=>?_,fun p hpp=>?_,fun b u e=>?_,I.len⟩
 ·rw [bG (ne0 b o e)];exact I.base.free b o e n hx
 ·have:=I.base.tups b xs e
  rw [bG (bL this hn)];exact this
 ·have:=I.base.frzs b o u e
  rw [bG (bL this hn)];exact this
 ·obtain ⟨more,q⟩:=I.base.tbls b ps e
  exact ⟨more,by rw [bG (bL q hn)];exact q⟩
 ·rw [bG (Ne.symm hL)];exact I.free
 ·rw [bG (hc x c e)];exact I.freeC x c e
 ·obtain ⟨e,n,r⟩:=I.pin p hpp
  exact ⟨e,by rw [bG (hp p hpp)];exact n,r⟩
 ·by_cases hb:b = d
  ·subst hb;rw [dF] at e;cases e;exact new
  ·rw [bG hb] at e
   exact (I.hok b u e).stay (fun c v _ q=>q) (fun c q=>by rw [bG (bL q hn)];exact q) fun c xs q=>by rw [bG (bL q hn)];exact q
noncomputable def tLc (wi:TI) (fr:List (Option Nat)) (g:TG) (te:TE):TE:=fun σ H Q=>wi σ H fun J H1=>∃ W:Nat->Nat->List V->Hp->Prop,(∃ m,W 0 m [] H1)/\∀ i m ys H,W i m ys H ->
 (J.stop i H/\ys.length<=sizeLine/\∀ p,H p = none->Q (.ref p) (upd H p (.lst ys))) ∨
 (J.go i H/\ys.length<=sizeLine/\∀ x H',J.yld i H x H'->g x (nV fr σ) H' fun σ2 H2=>te σ2 H2 fun y H3=>∃ m',m' < m/\W (i + 1) m' (ys ++ [y]) H3)
structure CF (X:Cx) (pins:List (Addr × Obj)) (H:Hp) (C:Addr):Prop where
 none:H C = none
 loc:C ≠ X.env.locals
 sz:X.s₀.heap.objs.size<=C
 cel:∀ x c,X.env.cells.lookup x = some c->c ≠ C
 pin:∀ p ∈ X.pn ++ pins,p.1 ≠ C
theorem aCS {X:Cx} {elt iter tg:Expr} {scope:Scope} {pos pos2:Pos} {N':List Str} {fr:List (Option Nat)} {wi:TI} {g:TG} {te:TE} (S:dZ X N' fr scope) (hc:X.calm = true) (hi:PI X tg iter wi)
  (hg:∀ C s H fp pins,PG (X.blk N' scope C s H fp pins) tg g) (he:∀ C s H fp pins,PE (X.blk N' scope C s H fp pins) elt te) (hs:∀ x,foldedSetIterable iter X.env x = pure x)
  {pins:List (Addr × Obj)} {s:Shared} {σ:St} {H:Hp} {Q:VK} (I:Inv X pins σ H s) (h:tLc wi fr g te σ H Q) (use:Option (Value->Sem Unit)) (Post:Value->Shared->Prop)
  (fin:∀ D C H' s4 m,Inv X pins σ H' s4->s4.heap.Ns C m->CF X pins H' C->Q (.ref D) H'->compPost (model X.prog X.w) X.A X.xe use Post (.ref D) C (.ok .next) s4) :
  wpAny (model X.prog X.w) X.A (comprehension (.ListComp elt [⟨tg,iter,[],0⟩] scope pos) scope X.env pos2 (newList []) false (eval iter X.env) use) Post X.xe s:=by
 refine wpAny_comprehension_free (use:=use) rfl hs (sZ (S.hasC I.ok)) S.kind S.names ?_
 show wpAny _ _ (eval iter X.env) _ _ s
 refine thn (hi pins s σ H _ I h) fun v s1 h1=>thn h1 fun itv s2 h2=>?_
 obtain ⟨it,fp,tn,J,H2,e,I2,T,st2,f2,W,⟨m0,w0⟩,turn⟩:=h2
 subst e
 refine wpAny_newObj_type (wpAny_newFunctionEnv S.nocell (by intro y hy;simp at hy) (fun h₁ hns₁ hsb₁=>?_) S.kind)
 dsimp only at hns₁ hsb₁ ⊢
 generalize hHp:s2.heap.push { cls:=.type "list",dict:=none,data:=.seq ([]:List Value).toArray } = HP at hns₁ hsb₁ ⊢
 have hC:HP.objs.size = s2.heap.objs.size + 1:=by rw [<- hHp,Heap.size_push]
 generalize hCe:HP.objs.size = C at hns₁ hsb₁ ⊢
 generalize hDe:s2.heap.objs.size = D at hC ⊢
 have hDC:D ≠ C:=by omega
 have hCle:s2.heap.objs.size<=C:=by omega
 have old:∀ b o,s2.heap.get? b = some o->h₁.get? b = some o:=fun b o e=>hsb₁.extBut b o (Nat.ne_of_lt (Nat.lt_of_lt_of_le (Heap.lt_size e) hCle)) (Heap.get?_push_of_some _ (hHp ▸ Heap.get?_push_of_some _ e))
 have hD1:h₁.PlainList D #[]:=⟨_,by
  refine hsb₁.extBut _ _ hDC (Heap.get?_push_of_some _ ?_)
  rw [<- hHp,<- hDe]
  exact Heap.get?_push_size _ rfl⟩
 have ltf:∀ b ∈ fp,b < D:=fun b hb=>by
  obtain ⟨o,e,_⟩:=T.obj _ _ st2 b hb
  exact Nat.lt_of_lt_of_eq (Heap.lt_size e) hDe
 have J0:=aCF (s1:={ s2 with heap:=h₁,toks:=s2.toks + ([]:List (Str × Value)).length }) S I2 f2 (fun b hb=>let ⟨o,e,_⟩:=T.obj _ _ st2 b hb;⟨o,e⟩) rfl rfl hCle old hns₁
 have ltC:∀ b,b < D->b ≠ C:=fun b hb=>Nat.ne_of_lt (Nat.lt_of_lt_of_le hb (by rw [<- hDe];exact hCle))
 have old2:∀ b o,s2.heap.get? b = some o->b < D:=fun b o e=>Nat.lt_of_lt_of_eq (Heap.lt_size e) hDe
 have neD:∀ b o,s2.heap.get? b = some o->b ≠ D:=fun b o e=>Nat.ne_of_lt (old2 b o e)
 have hDs:s2.heap.objs.size<=D:=Nat.le_of_eq hDe
 have hDfs:D ∉ frs X.stack:=fun hb=>by
  rcases List.mem_cons.mp (I2.stkSub D hb) with z | z
  ·have:=I2.lt
   rw [<- z] at this
   exact absurd (Nat.lt_of_lt_of_le this hDs) (Nat.lt_irrefl _)
  ·exact I2.nofs hDs z
 have cellD:∀ x c,X.env.cells.lookup x = some c->c ≠ D/\c ≠ C:=fun x c e=>by
  obtain ⟨v,o,ho,_⟩:=I2.cell x c e
  exact ⟨neD c o ho,ltC c (old2 c o ho)⟩
 have pinD:∀ p ∈ X.pn ++ pins,p.1 ≠ D/\p.1 ≠ C:=fun p hp=>by
  have e:=(I2.pin p hp).1
  exact ⟨neD _ _ e,ltC _ (old2 _ _ e)⟩
 have fpok:∀ (pl:List (Addr × Obj)) (H':Hp),(∀ b ∈ fp,H' b = none)->(∀ p ∈ pl,∀ b ∈ fp,p.1 ≠ b)->∀ b ∈ fp,vP (X.blk N' scope C s2 H2 fp pins) pl H' b:=fun pl H' hn hpl b hb=>by
  refine ⟨hn b hb,ltC b (ltf b hb),J0.ok.exfs b hb,.inl hb,(J0.ok.exf b hb).2,fun p hp=>?_⟩
  rcases List.mem_append.mp hp with z | z
  ·exact (f2 b hb).2.2.2.2.2 p z
  ·exact hpl p z b hb
 have loop:codeAny (model X.prog X.w) X.A (.compLoop (.ListComp elt [⟨tg,iter,[],0⟩] scope pos) 0 (.ref it) (.ref D) (compEnvC scope (clo X.env.cells scope.names []) C X.env))
   (compPost (model X.prog X.w) X.A X.xe use Post (.ref D) C) { s2 with heap:=h₁,toks:=s2.toks + ([]:List (Str × Value)).length }:=by
  refine mS (fun n s'=>∃ i H' ys its,Inv (X.blk N' scope C s2 H2 fp pins) [] (nV fr σ) H' s'/\tn i s'.heap/\(∀ b ∈ fp,H' b = none)/\s'.heap.PlainList D its/\H' D = none/\bT ys its.toList/\W i n ys H') ?_ m0
   ⟨0,H2,[],#[],J0,T.keep _ _ _ st2 fun b hb o e=>old b o e,fun b hb=>(f2 b hb).1,hD1,I2.hok.fresh hDs,.nil,w0⟩
  rintro n s3 ⟨i,H3,ys,its,I3,st3,fr3,⟨nn,pl3⟩,hD3,rv3,w3⟩
  have I3p:Inv (X.blk N' scope C s2 H2 fp pins) [(D,{ cls:=.type "list",data:=.seq its nn })] (nV fr σ) H3 s3:=I3.pins_of fun p hp=>by
   have e:=List.mem_singleton.mp hp
   subst e
   exact ⟨pl3,hD3,hDC,hDfs,fun v z=>by cases z⟩
  have pf:∀ p ∈ [((D,{ cls:=.type "list",data:=.seq its nn }):Addr × Obj)],∀ b ∈ fp,p.1 ≠ b:=fun p hp b hb=>by
   have e:=List.mem_singleton.mp hp
   subst e
   exact (Nat.ne_of_lt (ltf b hb)).symm
  rcases turn i n ys H3 w3 with ⟨stop,hz,q⟩ | ⟨go,hz,step⟩
  ·refine thn (T.done (X.blk N' scope C s2 H2 fp pins) rfl rfl rfl hc i _ s3 _ H3 (fun _ _=>False) I3p (fpok _ H3 fr3 pf) st3 stop) fun r s4 ⟨hr,I4⟩=>?_
   subst hr
   obtain ⟨mm,hn4,_⟩:=id I4.loc
   have pD:=(I4.pin _ (List.mem_append_right _ List.mem_cons_self)).1
   have IX:Inv X pins σ H3 s4:=I2.call' I4.os I4.base I4.hok I4.bare fun b hb=>⟨(f2 b hb).2.2.2.1,(f2 b hb).2.1,(f2 b hb).2.2.2.2.1,(f2 b hb).2.2.2.2.2⟩
   have CL:C ≠ X.env.locals:=(Nat.ne_of_lt (Nat.lt_of_lt_of_le I2.lt hCle)).symm
   have DL:D ≠ X.env.locals:=(Nat.ne_of_lt (Nat.lt_of_lt_of_le I2.lt hDs)).symm
   refine fin D C (upd H3 D (.lst ys)) s4 mm (IX.track hD3 (Nat.le_trans I2.sz hDs) DL (fun x c e=>(cellD x c e).1) (fun p hp=>(pinD p hp).1) ⟨hz,its.toList,nn,rv3,pD⟩) hn4 ⟨by rw [bG (Ne.symm hDC)];exact I4.free,CL,Nat.le_trans I2.sz hCle,fun x c e=>(cellD x c e).2,fun p hp=>(pinD p hp).2⟩ (q D hD3)
  ·refine thn (T.item (X.blk N' scope C s2 H2 fp pins) rfl rfl rfl hc i _ s3 _ H3 (fun _ _=>False) I3p (fpok _ H3 fr3 pf) st3 go) fun r s4 ⟨u,hr,h4⟩=>?_
   subst hr
   refine thn h4 fun _ s5 ⟨x,H5,I5,r5,y5,st5,fr5⟩=>?_
   have I5':=I5.pinned (fpok _ H5 fr5 pf) (T.obj _ _ st5)
   refine thn (hg C s2 H2 fp pins _ s5 _ H5 x u _ I5' r5 (step x H5 y5)) fun _ s6 ⟨σ6,H6,I6,q6⟩=>?_
   refine thn (he C s2 H2 fp pins _ s6 σ6 H6 _ I6 q6) fun yv s7 ⟨y,H7,I7,ry,m',hm,w7⟩=>?_
   obtain ⟨pD,nD,_⟩:=I7.pin _ (List.mem_append_right _ (List.mem_append_left _ List.mem_cons_self))
   have lz:its.size<=sizeLine:=by
    have e:ys.length = its.size:=by rw [rv3.length];simp
    rw [<- e];exact hz
   refine wpAny_list_append_plain (hsz:=lz) ⟨nn,pD⟩ fun h8 pl8 sb8=>?_
   have I7a:Inv (X.blk N' scope C s2 H2 fp pins) [] σ6 H7 s7:=I7.pins_of fun p hp=>nomatch hp
   have I8:Inv (X.blk N' scope C s2 H2 fp pins) [] σ6 H7 { s7 with heap:=h8,toks:=s7.toks }:=I7a.turned (it:=D) (fun b o hb e=>sb8.extBut b o hb e) nD hDC (.inr hDs) (fun x c e=>(cellD x c (S.sub I2.ok e)).1) fun p hp=>by
    rw [List.append_nil] at hp
    exact (pinD p hp).1
   refine ⟨m',hm,i + 1,H7,ys ++ [y],its.push yv,sQ S I2 I8,?_,fun b hb=>?_,pl8,nD,?_,w7⟩
   ·refine T.keep _ _ _ st5 fun b hb o e=>sb8.extBut b o (Nat.ne_of_lt (ltf b hb)) (I7.pin (b,o) (List.mem_append_right _ (List.mem_append_right _ (eU hb e)))).1
   ·obtain ⟨o,e,d⟩:=T.obj _ _ st5 b hb
    exact (I7.pin (b,o) (List.mem_append_right _ (List.mem_append_right _ (eU hb e)))).2.1
   ·rw [Array.toList_push]
    exact rv3.append (.cons ry .nil)
 exact codeAny_compStart_list loop (T.self _ _ _ _ _ (T.keep _ _ _ st2 fun b hb o e=>old b o e) loop)
theorem aHG {X:Cx} {elt iter tg:Expr} {scope:Scope} {pos:Pos} {N':List Str} {fr:List (Option Nat)} {wi:TI} {g:TG} {te:TE} (S:dZ X N' fr scope) (hc:X.calm = true) (hi:PI X tg iter wi)
  (hg:∀ C s H fp pins,PG (X.blk N' scope C s H fp pins) tg g) (he:∀ C s H fp pins,PE (X.blk N' scope C s H fp pins) elt te) (hs:∀ x,foldedSetIterable iter X.env x = pure x:=by intro _;rfl) :
  PE X (.ListComp elt [⟨tg,iter,[],0⟩] scope pos) (tLc wi fr g te):=by
 intro pins s σ H Q I h
 rw [eval_ListComp]
 refine aCS S hc hi hg he hs I h none (EP X pins σ Q) fun D C H' s4 m J hn F q=>⟨m,hn,fun h' sb=>?_⟩
 exact ⟨.ref D,H',J.turned (t':=s4.toks) (it:=C) (fun b o hb e=>sb.extBut b o hb e) F.none F.loc (.inr F.sz) F.cel F.pin,rfl,q⟩
theorem aEp {X:Cx} {elt iter tg:Expr} {scope:Scope} {pos spos py:Pos} {N':List Str} {fr:List (Option Nat)} {wi:TI} {g:TG} {te:TE} {i:Nat} {y:Str} (S:dZ X N' fr scope) (hc:X.calm = true) (hN:X.N.Nodup) (hi:PI X tg iter wi)
  (hg:∀ C s H fp pins,PG (X.blk N' scope C s H fp pins) tg g) (he:∀ C s H fp pins,PE (X.blk N' scope C s H fp pins) elt te) (hy:X.N[i]? = some y) (hx:Loc X.env.scope y)
  (hsw:swapsWith (.ListComp elt [⟨tg,iter,[],0⟩] scope pos) (some (.Name y py)) spos.line X.env = pure true) (hf:X.fn y = true ∨ X.env.scope.names.lookup y = some .local) (hs:∀ x,foldedSetIterable iter X.env x = pure x) :
  PS X (.Assign [.Name y py] (.ListComp elt [⟨tg,iter,[],0⟩] scope pos) spos) (fun D σ H=>tLc wi fr g te σ H fun v H'=>D.nx (σ.set i (some v)) H'):=by
 intro pins s σ H D I h
 rw [exec_Assign_Name_used _ _ _ _ hsw]
 refine wpAny_bind (wpAny_standAt (wpAny_bind ?_))
 show wpAny _ X.A (do let _ <- comprehension (.ListComp elt [⟨tg,iter,[],0⟩] scope pos) scope X.env _ (newList []) false (eval iter X.env) (some (assign (.Name y py) X.env))) _ _ s
 refine wpAny_bind (wpAny_mono (aCS S hc hi hg he hs I h (some (assign (.Name y py) X.env)) (fun _ s'=>SP X pins D .next s') fun D' C H' s4 m J hn F q=>?_) (fun _ s' hq=>wpAny_pure (wpAny_pure hq)) fun _ _ e=>e)
 show wpAny _ X.A (assign (.Name y py) X.env (.ref D')) _ _ s4
 refine wpAny_assign_Name (sH J hN hy hx (v:=.ref D') rfl (fun s5 I5 ⟨a,sb,ha⟩=>?_) hf)
 have hCa:C ≠ a:=by
  rcases ha with rfl | ha
  ·exact F.loc
  ·exact (F.cel y a ha).symm
 refine ⟨m,hn.sameBut sb hCa,fun h' sb'=>?_⟩
 exact ⟨_,H',I5.turned (t':=s5.toks) (it:=C) (fun b o hb e=>sb'.extBut b o hb e) F.none F.loc (.inr F.sz) F.cel F.pin,q⟩
end L2
namespace Dd
open PySem PySem.Spec PyProof.Rows L2
noncomputable def qZ (fr:List (Option Nat)) (ρ:cF):cF:=fr.map fun o=>match o with
 | some j=>(ρ[j]?).join
 | none=>none
section
variable {K:PySem.W.Frag} {H:Hp} {ρ:cF} {σ:L2.St}
theorem aBr (re:eZ K H ρ σ) (fr:List (Option Nat)):eZ K H (qZ fr ρ) (nV fr σ):=by
 refine ⟨by unfold qZ nV;rw [List.length_map,List.length_map],fun i d e=>?_⟩
 unfold qZ at e
 unfold nV
 rw [List.getElem?_map] at e ⊢
 cases hf:fr[i]? with
 | none=>rw [hf] at e;cases e
 | some o =>
  rw [hf] at e
  cases o with
  | none=>cases e
  | some j =>
   have e:(ρ[j]?).join = some d:=Option.some.inj e
   have e2:ρ[j]? = some (some d):=by
    cases h:ρ[j]? with
    | none=>rw [h] at e;cases e
    | some o=>rw [h] at e;rw [show o = some d from e]
   obtain ⟨v,hv,r⟩:=re.get j d e2
   refine ⟨v,?_,r⟩
   show some (σ[j]?).join = some (some v)
   rw [hv]
   rfl
end
noncomputable def aAL (at':Option Addr) (ds:List D) (ρ0:cF) (g:DG) (te:DE) (M:DM) (Q:DQ):Prop:=ds.length<=1000/\∃ Pv:Nat->List D->DM->Prop,Pv 0 [] M /\
 (∀ i ys M,i<=ds.length->Pv i ys M->∀ a,at' = some a->M a = some ds) /\
 (∀ i d ys M,ds[i]? = some d->Pv i ys M->g d ρ0 M fun ρ2 M2=>te ρ2 M2 fun y M3=>Pv (i + 1) (ys ++ [y]) M3) /\
 ∀ ys M,ys.length = ds.length->Pv ds.length ys M->∀ p:Addr,M p = none->Q (.ref p) (bE M p ys)
noncomputable def aEe (tl:DE) (fr:List (Option Nat)) (g:DG) (te:DE):DE:=fun ρ M Q=>tl ρ M fun d M1=>match d with
 | .fz ds=>aAL none ds (qZ fr ρ) g te M1 Q
 | .ref a=>∃ ds,M1 a = some ds/\aAL (some a) ds (qZ fr ρ) g te M1 Q
 | _=>False
noncomputable def aJA (tl:DE) (fr:List (Option Nat)) (g:DG) (te:DE):DE:=fun ρ M Q=>tl ρ M fun d M1=>match d with
 | .tup ds=>aAL none ds (qZ fr ρ) g te M1 Q
 | _=>False
section
variable {X:Cx} {g:DG} {te:DE}
theorem xF {K:PySem.W.Frag} {a':Option Addr} {ds:List D} {fr:List (Option Nat)} {σ:L2.St} {ρ:cF} {M:DM} {H0 H:Hp} {J:It} {Q:VK} {Q':DQ} (ex0:Ext H0 H) (re:eZ K H ρ σ) (hm:bK K M H) (h:aAL a' ds (qZ fr ρ) g te M Q') (kq:∀ v H',LQ K H0 Q' v H'->Q v H')
  (seq:∀ H',Ext H H'->(∀ M',bK K M' H'->(∀ a,a' = some a->M' a = some ds)->∃ xs,bN K H' ds xs/\(∀ i,xs.length<=i->J.stop i H')/\(∀ i,i < xs.length->J.go i H')/\∀ i x H2,J.yld i H' x H2->H2 = H'/\xs[i]? = some x)) :
  ∃ W:Nat->Nat->List V->Hp->Prop,(∃ m,W 0 m [] H)/\∀ i m ys H,W i m ys H ->
   (J.stop i H/\ys.length<=sizeLine/\∀ p,H p = none->Q (.ref p) (upd H p (.lst ys))) ∨
   (J.go i H/\ys.length<=sizeLine/\∀ x H',J.yld i H x H'->xG K g x (nV fr σ) H' fun σ2 H2=>low K te σ2 H2 fun y H3=>∃ m',m' < m/\W (i + 1) m' (ys ++ [y]) H3):=by
 obtain ⟨hl,Pv,p0,hat,step,done⟩:=h
 refine ⟨fun i m ysV H'=>∃ ys M',bN K H' ys ysV/\bK K M' H'/\Ext H H'/\m = ds.length - i/\i<=ds.length/\ys.length = i/\Pv i ys M',⟨ds.length,[],M,cO,hm,.refl H,rfl,Nat.zero_le _,rfl,p0⟩,?_⟩
 rintro i m ysV H1 ⟨ys,M1,ry,hm1,e1,rfl,hi,ly,w1⟩
 obtain ⟨xs,rs,hst,hgo,hy⟩:=seq H1 e1 M1 hm1 (hat i ys M1 hi w1)
 have hll:=rs.length
 have lz:ysV.length<=sizeLine:=by rw [<- ry.length];exact Nat.le_of_lt (cY (by omega))
 by_cases hlt:i < ds.length
 ·refine .inr ⟨hgo i (by omega),lz,fun x H' y=>?_⟩
  obtain ⟨rfl,hx⟩:=hy i x H' y
  obtain ⟨d,hd,rd⟩:=rs.getV hx
  refine ⟨d,qZ fr ρ,M1,_,rd,aBr (re.ext e1) fr,hm1,step i d ys M1 hd w1,fun σ2 H2 ⟨ρ2,M2,re2,hm2,e2,q2⟩=>?_⟩
  refine ⟨ρ2,M2,_,re2,hm2,q2,fun v H3 ⟨dy,M3,rdy,hm3,e3,q3⟩=>?_⟩
  exact ⟨ds.length - (i + 1),by omega,ys ++ [dy],M3,(ry.ext (e2.trans e3)).append (cC rdy cO),hm3,(e1.trans e2).trans e3,rfl,hlt,by rw [List.length_append,ly];rfl,q3⟩
 ·have e:i = ds.length:=by omega
  subst e
  exact .inl ⟨hst _ (by omega),lz,fun p hp=>kq _ _ ⟨.ref p,_,fY,hm1.lnew hp ry,(ex0.trans e1).trans (Ext.new hp _),done ys M1 ly w1 p (hm1.fresh hp)⟩⟩
variable {elt iter tg:Expr} {scope:Scope} {pos:Pos} {N':List Str} {fr:List (Option Nat)} {tl:DE} {ta:DA} {oN:List Str} {osc:Scope}
theorem aKo (B:mH oN osc N' fr scope) (hc:X.calm = true) (hi:PDE X iter tl) (hg:∀ C s H fp pins,PG (X.blk N' scope C s H fp pins) tg (xG X.K g)) (he:∀ C s H fp pins,PE (X.blk N' scope C s H fp pins) elt (low X.K te)) (hN:X.N = oN:=by rfl) (ho:X.env.scope = osc:=by rfl) (hs:∀ x,foldedSetIterable iter X.env x = pure x:=by intro _;rfl) :
  PDE X (.ListComp elt [⟨tg,iter,[],0⟩] scope pos) (aEe tl fr g te) :=
 cM (aHG (B.scope hN ho) hc (tU hi) hg he hs) fun σ H Q ⟨ρ,M,Q',re,hm,q,k⟩=>⟨ρ,M,_,re,hm,q,fun v H1 ⟨d,M1,rd,hm1,ex,q1⟩=>by
  cases d with
  | fz ds =>
   obtain ⟨a,xs,rfl,sq,rs⟩:=jZ rd
   exact ⟨a,rfl,⟨xs,sq.sq⟩,xF ex (re.ext ex) hm1 q1 k fun H' e' M' hm' _=>⟨xs,rs.ext e',fun i hi=>⟨xs,(fF e' sq).sq,hi⟩,fun i hi=>⟨xs,xs[i],(fF e' sq).sq,by simp [hi]⟩,fun i x H2 y=>⟨y.1,y.2 xs (fF e' sq).sq⟩⟩⟩
  | ref a =>
   obtain ⟨ds,ha,q1⟩:=q1
   obtain rfl:=aT rd
   obtain ⟨xs,hx,rs⟩:=hm1.l a ds ha
   refine ⟨a,rfl,⟨xs,.of hx⟩,xF ex (re.ext ex) hm1 q1 k fun H' e' M' hm' hat=>?_⟩
   obtain ⟨ys,hy,rs'⟩:=hm'.l a ds (hat a rfl)
   exact ⟨ys,rs',fun i hi=>⟨ys,.of hy,hi⟩,fun i hi=>⟨ys,ys[i],.of hy,by simp [hi]⟩,fun i x H2 y=>⟨y.1,y.2 ys (.of hy)⟩⟩
  | _=>exact q1.elim⟩
theorem aJx (B:mH oN osc N' fr scope) (hc:X.calm = true) (hi:PDE X iter tl) (hg:∀ C s H fp pins,PG (X.blk N' scope C s H fp pins) tg (xG X.K g)) (he:∀ C s H fp pins,PE (X.blk N' scope C s H fp pins) elt (low X.K te)) (hN:X.N = oN:=by rfl) (ho:X.env.scope = osc:=by rfl) (hs:∀ x,foldedSetIterable iter X.env x = pure x:=by intro _;rfl) :
  PDE X (.ListComp elt [⟨tg,iter,[],0⟩] scope pos) (aJA tl fr g te) :=
 cM (aHG (B.scope hN ho) hc (aEt hi) hg he hs) fun σ H Q ⟨ρ,M,Q',re,hm,q,k⟩=>⟨ρ,M,_,re,hm,q,fun v H1 ⟨d,M1,rd,hm1,ex,q1⟩=>by
  cases d with
  | tup ds =>
   obtain ⟨a,xs,rfl,sq,rs⟩:=bM rd
   exact ⟨a,rfl,⟨xs,sq⟩,xF ex (re.ext ex) hm1 q1 k fun H' e' M' hm' _=>⟨xs,rs.ext e',fun i hi=>⟨xs,mD e' sq,hi⟩,fun i hi=>⟨xs,xs[i],mD e' sq,by simp [hi]⟩,fun i x H2 y=>⟨y.1,y.2 xs (mD e' sq)⟩⟩⟩
  | _=>exact q1.elim⟩
noncomputable def aBQ (i:Nat) (t:DE):DS:=fun E ρ M=>t ρ M fun x M1=>E.nx (ρ.set i (some x)) M1
theorem aDl {i:Nat} {y:Str} {spos py:Pos} (B:mH oN osc N' fr scope) (hc:X.calm = true) (hNd:X.N.Nodup) (hi:PDE X iter tl) (hg:∀ C s H fp pins,PG (X.blk N' scope C s H fp pins) tg (xG X.K g)) (he:∀ C s H fp pins,PE (X.blk N' scope C s H fp pins) elt (low X.K te)) (hy:X.N[i]? = some y:=by rfl) (hx:Loc X.env.scope y:=by first | exact Or.inl rfl | exact Or.inr rfl)
  (hsw:swapsWith (.ListComp elt [⟨tg,iter,[],0⟩] scope pos) (some (.Name y py)) spos.line X.env = pure true:=by rfl) (hf:X.fn y = true ∨ X.env.scope.names.lookup y = some .local:=by first | exact .inl rfl | exact .inr rfl | assumption) (hN:X.N = oN:=by rfl) (ho:X.env.scope = osc:=by rfl) (hs:∀ x,foldedSetIterable iter X.env x = pure x:=by intro _;rfl) :
  PDS X (.Assign [.Name y py] (.ListComp elt [⟨tg,iter,[],0⟩] scope pos) spos) (aBQ i (aEe tl fr g te)) :=
 gM (aEp (i:=i) (B.scope hN ho) hc hNd (tU hi) hg he hy hx hsw hf hs) fun E σ H ⟨ρ,M,D,re,hm,q,kk⟩=>⟨ρ,M,_,re,hm,q,fun v H1 ⟨d,M1,rd,hm1,ex,q1⟩=>by
  have k:∀ v H',LQ X.K H (fun x M1=>D.nx (ρ.set i (some x)) M1) v H'->E.nx (σ.set i (some v)) H':=fun v H' ⟨d,M',rd',hm',e',q'⟩=>kk.nx _ H' ⟨_,M',(re.ext e').set rd' i,hm',e',q'⟩
  cases d with
  | fz ds =>
   obtain ⟨a,xs,rfl,sq,rs⟩:=jZ rd
   exact ⟨a,rfl,⟨xs,sq.sq⟩,xF ex (re.ext ex) hm1 q1 k fun H' e' M' hm' _=>⟨xs,rs.ext e',fun i hi=>⟨xs,(fF e' sq).sq,hi⟩,fun i hi=>⟨xs,xs[i],(fF e' sq).sq,by simp [hi]⟩,fun i x H2 y=>⟨y.1,y.2 xs (fF e' sq).sq⟩⟩⟩
  | ref a =>
   obtain ⟨ds,ha,q1⟩:=q1
   obtain rfl:=aT rd
   obtain ⟨xs,hx,rs⟩:=hm1.l a ds ha
   refine ⟨a,rfl,⟨xs,.of hx⟩,xF ex (re.ext ex) hm1 q1 k fun H' e' M' hm' hat=>?_⟩
   obtain ⟨ys,hy,rs'⟩:=hm'.l a ds (hat a rfl)
   exact ⟨ys,rs',fun i hi=>⟨ys,.of hy,hi⟩,fun i hi=>⟨ys,ys[i],.of hy,by simp [hi]⟩,fun i x H2 y=>⟨y.1,y.2 ys (.of hy)⟩⟩
  | _=>exact q1.elim⟩
end
end Dd
namespace L2
open PySem PySem.Spec PyProof.Rows
variable {X:Cx}
end L2
namespace Dd
open PySem PySem.Spec PyProof.Rows L2
variable {X:Cx}
section
variable {g:DG} {te:DE} {tb:DS} {Q:DQ} {ρ0:cF}
noncomputable def itT (d:D) (ρ0:cF) (g:DG) (te:DE) (M:DM) (Q:DQ):Prop:=match d with
 | .tup ds=>aAL none ds ρ0 g te M Q
 | _=>False
theorem aGF {tl:DE} {fr:List (Option Nat)} {ρ:cF} {M:DM}:aJA tl fr g te ρ M Q = tl ρ M fun d M1=>itT d (qZ fr ρ) g te M1 Q:=rfl
theorem aG0 {ds:List D} {M:DM}:itT (.tup ds) ρ0 g te M Q = aAL none ds ρ0 g te M Q:=rfl
noncomputable def foT (d:D) (g:DG) (tb:DS) (E:fO) (ρ:cF) (M:DM):Prop:=match d with
 | .tup ds=>dIt none ds g tb E ρ M
 | _=>False
theorem aFi {tl:DE} {E:fO} {ρ:cF} {M:DM}:aBx tl g tb E ρ M = tl ρ M fun d M1=>foT d g tb E ρ M1:=rfl
theorem aHj {ds:List D} {E:fO} {ρ:cF} {M:DM}:foT (.tup ds) g tb E ρ M = dIt none ds g tb E ρ M:=rfl
noncomputable def goC (g:DG) (te:DE) (ρ0:cF) (Q:DQ):List D->List D->DM->Prop
 | [],ys,M=>∀ p:Addr,M p = none->Q (.ref p) (bE M p ys)
 | d :: r,ys,M=>g d ρ0 M fun ρ2 M2=>te ρ2 M2 fun y M3=>goC g te ρ0 Q r (ys ++ [y]) M3
theorem aED {ds:List D} {M:DM} (hl:ds.length<=1000) (h:goC g te ρ0 Q ds [] M):aAL none ds ρ0 g te M Q:=by
 refine ⟨hl,fun i ys M=>goC g te ρ0 Q (ds.drop i) ys M,h,fun _ _ _ _ _ a e=>(by cases e),fun i d ys M hd hp=>?_,fun ys M _ hp p hn=>?_⟩
 ·obtain ⟨hi,e⟩:=List.getElem?_eq_some_iff.mp hd
  have hp:goC g te ρ0 Q (ds.drop i) ys M:=hp
  rw [List.drop_eq_getElem_cons hi,e] at hp
  exact hp
 ·have hp:goC g te ρ0 Q (ds.drop ds.length) ys M:=hp
  rw [List.drop_length] at hp
  exact hp p hn
end
section
variable {e:Expr} {te:DE} {pos:Pos}
end
end Dd
namespace Dd
open PySem PySem.Spec PyProof.Rows L2
section
variable {X:Cx} {e:Expr} {te:DE} {pos p2:Pos} {lo hi:Option Expr} {tl th:DO}
noncomputable def aKL (g:Bool->Bool):D2:=fun x y M Q=>match x,y with
 | .int k,.ref a=>∃ ns:List Int,M a = some (ns.map D.int)/\Q (.bl (g (ns.any (· == k)))) M
 | .str k,.ref a=>∃ ns:List Str,M a = some (ns.map D.str)/\Q (.bl (g (ns.any (· == k)))) M
 | _,_=>False
theorem wW {K:PySem.W.Frag} {H:Hp}:∀ {ns:List Int} {vs:List V} {its:List Value},bN K H (ns.map D.int) vs->bT vs its->IntsAre its ns
 | [],_,_,h,r=>by rw [bR h] at r;cases r;exact .nil
 | n :: ns,_,_,h,r=>by
  obtain ⟨v,rr,rfl,hv,hr⟩:=aY h
  rw [aV hv] at r
  cases r with
  | cons q w =>
   obtain ⟨t,rfl⟩:=q
   exact .cons _ _ (wW hr w)
theorem xB {K:PySem.W.Frag} {H:Hp}:∀ {ns:List Str} {vs:List V} {its:List Value},bN K H (ns.map D.str) vs->bT vs its->StrsAre its ns
 | [],_,_,h,r=>by rw [bR h] at r;cases r;exact .nil
 | n :: ns,_,_,h,r=>by
  obtain ⟨v,rr,rfl,hv,hr⟩:=aY h
  rw [bU hv] at r
  cases r with
  | cons q w =>
   obtain ⟨t,rfl⟩:=q
   exact .cons _ _ (xB hr w)
theorem wX:OpD X (compareOp .In) (aKL id):=fun pins s σ H x y v u Q I rx ry ⟨dx,dy,M,Q',r1,r2,hm,q,k⟩=>by
 cases dx with
 | int z =>
  cases dy with
  | ref a =>
   obtain ⟨ns,ha,q⟩:=q
   obtain rfl:=aV r1
   obtain rfl:=aT r2
   obtain ⟨t,rfl⟩:=rx
   cases ry
   obtain ⟨us,hu,ru⟩:=hm.l a _ ha
   obtain ⟨zz,its,nn,rv,hlen,e1⟩:=I.lstM hu
   exact in_list_ints ⟨_,e1,rfl,_,rfl⟩ (wW ru rv) ⟨.bl _,H,I,rfl,k _ H ⟨_,M,eA,hm,.refl H,q⟩⟩
  | _=>exact q.elim
 | str z =>
  cases dy with
  | ref a =>
   obtain ⟨ns,ha,q⟩:=q
   obtain rfl:=bU r1
   obtain rfl:=aT r2
   obtain ⟨t,rfl⟩:=rx
   cases ry
   obtain ⟨us,hu,ru⟩:=hm.l a _ ha
   obtain ⟨zz,its,nn,rv,hlen,e1⟩:=I.lstM hu
   exact in_list_strs ⟨_,e1,rfl,_,rfl⟩ (xB ru rv) ⟨.bl _,H,I,rfl,k _ H ⟨_,M,eA,hm,.refl H,q⟩⟩
  | _=>exact q.elim
 | _=>cases dy<;>exact q.elim
end
end Dd
namespace L2
open PySem PySem.Spec PyProof.Rows
open PySem.AutoSeq1 (wpAny_loadPart')
section
variable {X:Cx} {a n:Expr} {ta:TE} {tn:TA} {pos:Pos}
end
end L2
namespace Dd
open PySem PySem.Spec PyProof.Rows L2
section
variable {X:Cx} {a n:Expr} {ta:DE} {tn:DA} {pos p pos':Pos}
end
end Dd
namespace Dd
open PySem PySem.Spec PyProof.Rows L2
section
variable {X:Cx} {a b c e o:Expr} {es:List Expr} {ta tb tc te to:DE} {pos:Pos}
noncomputable def aD0 (g:Int->Int->Int):DSp:=fun ds M Q=>match ds with
 | [.int i,.int j]=>Q (.int (g i j)) M
 | _=>False
theorem aGc {g:Int->Int->Int} {fv:Value} (h:kL X fv (fun xs H Q=>∃ i j,xs = [.int i,.int j]/\Q (.int (g i j)) H)):gI X fv (aD0 g):=gI.of h fun vs H M ds Q rs hm q=>by
 rcases ds with _ | ⟨d,_ | ⟨d2,_ | ⟨d3,r⟩⟩⟩
 ·exact q.elim
 ·cases d<;>exact q.elim
 ·cases d with
  | int i =>
   cases d2 with
   | int j =>
    obtain ⟨v,v2,rfl,rv,rv2⟩:=aJ4 rs
    obtain rfl:=aV rv
    obtain rfl:=aV rv2
    exact ⟨i,j,rfl,_,M,bY,hm,.refl H,q⟩
   | _=>exact q.elim
  | _=>exact q.elim
 ·cases d<;>first | exact q.elim | (cases d2<;>exact q.elim)
noncomputable def aKw:DSp:=aD0 fun i j=>if j < i then j else i
theorem aJs (hc:X.calm = true):gI X (.builtin "min") aKw:=aGc (aDj hc)
end
theorem ifF {b:Bool} {A B:Prop} (h:b = false) (q:B):if b = true then A else B:=by subst h;exact q
theorem ifT {b:Bool} {A B:Prop} (h:b = true) (q:A):if b = true then A else B:=by subst h;exact q
end Dd
set_option maxHeartbeats 400000
namespace L2
open PySem PySem.Spec PyProof.Rows
end L2
namespace Dd
open PySem PySem.Spec PyProof.Rows L2
section
variable {X:Cx} {e k:Expr} {te tk:DE} {pos p2:Pos}
end
end Dd
namespace Zp
open PySem PySem.Spec PyProof.Rows
section
variable {prog:Program} {w:World} {A:Around} {E:Value->Shared->Prop} {s:Shared}
end
end Zp
namespace L2
open PySem PySem.Spec PyProof.Rows
theorem Inv.turnedT {X:Cx} {pins:List (Addr × Obj)} {σ:St} {H:Hp} {s:Shared} {h':Heap} {fp:List Addr} {p:Addr} {xs:List V} {its:List Value} (I:Inv X pins σ H s) (k:∀ b o,b ∉ fp->s.heap.get? b = some o->h'.get? b = some o) (hf:∀ b ∈ fp,vP X pins H b) (hp:s.heap.objs.size<=p) (hz:xs.length<=sizeLine) (hv:bT xs its) (ht:IsTup h' p its.toArray) (th:∀ b ∈ fp,∃ o,h'.get? b = some o) :
  Inv X pins σ (upd H p (.tup xs)) { s with heap:=h' }:=by
 have hn:H p = none:=I.hok.fresh hp
 have nf:∀ b u,H b = some u->b ∉ fp:=fun b u e hb=>by rw [(hf b hb).1] at e;cases e
 have np:∀ b o,s.heap.get? b = some o->b ≠ p:=fun b o e=>Nat.ne_of_lt (Nat.lt_of_lt_of_le (Heap.lt_size e) hp)
 refine I.step (g':=s.gens) (d':=s.drawn) (t':=s.toks) (ch:=fp) (fun b hb=>⟨(hf b hb).2.2.2.1,(hf b hb).2.1,(hf b hb).2.2.2.2.1,(hf b hb).2.2.2.2.2⟩) (fun b o _ _ hc e _=>k b o hc e) (fun b o _ _ hc e _=>⟨o.slots,k b o hc e⟩) (fun b o _ e n=>by rw [bG (np b o e)];exact n)
  (fun b o hc e=>⟨o,k b o hc e⟩) (fun b ys e=>by rw [bG (bL e hn)];exact e) (fun b o u e=>by rw [bG (bL e hn)];exact e) (fun b ps e=>⟨#[],by rw [bG (bL e hn),e];simp⟩) (fun m hm=>?_) (fun b u e=>?_) I.bare
 ·obtain ⟨o,es,ep,ho,r⟩:=hm
  exact ⟨o,es,ep,k _ o (fun hb=>(hf _ hb).2.1 rfl) ho,r⟩
 ·by_cases hb:b = p
  ·subst hb
   rw [dF] at e
   cases e
   exact ⟨hz,its,hv,ht⟩
  ·rw [bG hb] at e
   refine (I.hok b u e).stay (fun c v hc q=>k c v ?_ q) (fun c q=>by rw [bG (bL q hn)];exact q) fun c xs q=>by rw [bG (bL q hn)];exact q
   rcases hc with z | z
   ·rw [z];exact nf b u e
   ·exact nf c _ z
theorem Inv.turnedL {X:Cx} {pins:List (Addr × Obj)} {σ:St} {H:Hp} {s:Shared} {h':Heap} {fp:List Addr} (I:Inv X pins σ H s) (k:∀ b o,b ∉ fp->s.heap.get? b = some o->h'.get? b = some o) (hf:∀ b ∈ fp,vP X pins H b) :
  Inv X pins σ H { s with heap:=h' }:=by
 have nf:∀ b u,H b = some u->b ∉ fp:=fun b u e hb=>by rw [(hf b hb).1] at e;cases e
 refine I.step (g':=s.gens) (d':=s.drawn) (t':=s.toks) (ch:=fp) (fun b hb=>⟨(hf b hb).2.2.2.1,(hf b hb).2.1,(hf b hb).2.2.2.2.1,(hf b hb).2.2.2.2.2⟩) (fun b o _ _ hc e _=>k b o hc e) (fun b o _ _ hc e _=>⟨o.slots,k b o hc e⟩) (fun b o _ e n=>n)
  (fun b o hc e=>⟨o,k b o hc e⟩) (fun b ys e=>e) (fun b o u e=>e) (fun b ps e=>⟨#[],by rw [e];simp⟩) (fun m hm=>?_) (fun b u e=>?_) I.bare
 ·obtain ⟨o,es,ep,ho,r⟩:=hm
  exact ⟨o,es,ep,k _ o (fun hb=>(hf _ hb).2.1 rfl) ho,r⟩
 ·refine (I.hok b u e).stay (fun c v hc q=>k c v ?_ q) (fun c q=>q) fun c xs q=>q
  rcases hc with z | z
  ·rw [z];exact nf b u e
  ·exact nf c _ z
end L2
namespace Dd
open PySem PySem.Spec PyProof.Rows L2
section
variable {X:Cx} {pos:Pos} {iter tg:Expr} {body:List Stmt} {tl:DE} {g:DG} {tb:DS} {ta:DA}
end
end Dd
set_option maxHeartbeats 1000000
namespace Dd
open PySem PySem.Spec PyProof.Rows L2
theorem eN.there {P:Program} {w:World} {H:Hp} {h:Heap} {a:Addr} {o:HO} (x:eN P w H h a o):∃ u,h.get? a = some u:=by
 cases o with
 | lst xs=>obtain ⟨_,_,_,_,e⟩:=x;exact ⟨_,e⟩
 | tup xs=>obtain ⟨_,_,_,ob,e,_⟩:=x;exact ⟨_,e⟩
 | dK kvs=>obtain ⟨_,_,_,_,o,_,_,e,_⟩:=x;exact ⟨_,e⟩
 | dT kvs=>obtain ⟨_,_,_,_,o,_,_,e,_⟩:=x;exact ⟨_,e⟩
 | set S n=>obtain ⟨o,_,_,_,e,_⟩:=x;exact ⟨_,e⟩
 | ins C dx fs=>obtain ⟨_,_,_,e,_⟩:=x;exact ⟨_,e⟩
 | own y=>obtain ⟨_,e⟩:=x;exact ⟨_,e⟩
 | xd fs=>obtain ⟨_,⟨_,_,_,e,_⟩,_⟩:=x;exact ⟨_,e⟩
 | rng lo hi=>obtain ⟨_,_,_,e⟩:=x;exact ⟨_,e⟩
 | frz ob u=>obtain ⟨e,_⟩:=x;exact ⟨_,e⟩
 | tbl ps=>exact ⟨_,(show h.get? a = some _ from x)⟩
 | met f y=>exact ⟨_,(show h.get? a = some _ from x)⟩
 | ext φ=>obtain ⟨_,⟨_,e⟩,_⟩:=x;exact ⟨_,e⟩
noncomputable def FpN (X:Cx) (pins:List (Addr × Obj)) (H:Hp) (b:Addr):Prop :=
 H b = none/\b ≠ X.env.locals/\X.s₀.heap.get? b = none/\(∀ x c,X.env.cells.lookup x = some c->c ≠ b)/\∀ p ∈ X.pn ++ pins,p.1 ≠ b
section
variable {X:Cx} {pins:List (Addr × Obj)} {σ:L2.St} {H H':Hp} {s:Shared} {h':Heap}
theorem _root_.L2.Inv.fpN (I:Inv X pins σ H s) (hex:X.ex = []) {b:Addr} (h:s.heap.get? b = none) (hn:H' b = none):FpN X pins H' b:=by
 refine ⟨hn,fun z=>?_,?_,fun x c e z=>?_,fun p hp z=>?_⟩
 ·obtain ⟨m,⟨o,_,_,ho,_⟩,_⟩:=I.loc
  rw [<- z,h] at ho;cases ho
 ·cases q:X.s₀.heap.get? b with
  | none=>rfl
  | some o =>
   obtain ⟨o',e⟩:=I.base.there b o q (by rw [hex];simp)
   rw [h] at e;cases e
 ·obtain ⟨v,o,ho,_⟩:=I.cell x c e
  rw [z,h] at ho;cases ho
 ·obtain ⟨e,_⟩:=I.pin p hp
  rw [z,h] at e;cases e
theorem _root_.L2.Inv.untr (I:Inv X pins σ H s) {b:Addr} (h:s.heap.get? b = none):H b = none:=by
 cases q:H b with
 | none=>rfl
 | some o=>obtain ⟨u,e⟩:=eN.there (I.hok b o q);rw [h] at e;cases e
theorem _root_.L2.Inv.mark {ch:List Addr} (I:Inv X pins σ H s) (hch:∀ b ∈ ch,FpN X pins H b) (keep:∀ b o,b ∉ frs X.stack->b ∉ ch->s.heap.get? b = some o->h'.get? b = some o)
  (slot:∀ b o,b ∉ ch->s.heap.get? b = some o->∃ sl,h'.get? b = some { o with slots:=sl }):Inv X pins σ H { s with heap:=h' }:=by
 have neL:∀ b o,X.s₀.heap.get? b = some o->b ≠ X.env.locals:=fun b o e=>Nat.ne_of_lt (Nat.lt_of_lt_of_le (Heap.lt_size e) I.ok.above)
 have neC:∀ b o,X.s₀.heap.get? b = some o->b ∉ ch:=fun b o e hb=>by rw [(hch b hb).2.2.1] at e;cases e
 have stk:∀ b,b ≠ X.env.locals->b ∉ X.fs->b ∉ frs X.stack:=fun b h1 h2 hb=>(List.mem_cons.mp (I.stkSub b hb)).elim h1 h2
 have cellK:∀ x c,X.env.cells.lookup x = some c->∀ v,s.heap.IsCell c v->h'.IsCell c v:=fun x c e v ⟨o,ho,hd⟩=>by
  obtain ⟨sl,q⟩:=slot c o (fun z=>(hch c z).2.2.2.1 x c e rfl) ho
  exact ⟨_,q,hd⟩
 refine ⟨I.ok,I.os,I.bare,⟨fun b o e n hb hx=>?_,fun b o e n hb hx=>?_,I.base.free,fun b o e hx=>?_,I.base.tups,I.base.frzs,I.base.tbls⟩,?_,fun x c e=>?_,I.free,I.freeC,fun p hp=>?_,fun a o e=>?_,I.len⟩
 ·exact keep b o (stk b (neL b o e) hb) (neC b o e) (I.base.keep b o e n hb hx)
 ·obtain ⟨sl,e1⟩:=I.base.slot b o e n hb hx
  obtain ⟨sl',e2⟩:=slot b _ (neC b o e) e1
  exact ⟨sl',e2⟩
 ·obtain ⟨o',e1⟩:=I.base.there b o e hx
  obtain ⟨sl,e2⟩:=slot b o' (neC b o e) e1
  exact ⟨_,e2⟩
 ·obtain ⟨m,⟨o,es,ep,ho,r⟩,hl⟩:=I.loc
  obtain ⟨sl,e2⟩:=slot _ o (fun z=>(hch _ z).2.1 rfl) ho
  refine ⟨m,⟨_,es,ep,e2,r⟩,fun i x v e1 e2 e3=>?_⟩
  obtain ⟨u,r,l⟩:=hl i x v e1 e2 e3
  refine ⟨u,r,?_⟩
  rcases l with l | ⟨k,c,e,z⟩
  ·exact .inl l
  ·exact .inr ⟨k,c,e,cellK x c e _ z⟩
 ·obtain ⟨v,z⟩:=I.cell x c e
  exact ⟨v,cellK x c e v z⟩
 ·obtain ⟨e,n,ne,nf,d⟩:=I.pin p hp
  exact ⟨keep p.1 p.2 (stk _ ne nf) (fun z=>(hch _ z).2.2.2.2 p hp rfl) e,n,ne,nf,d⟩
 ·refine (I.hok a o e).stay (fun b u hb q=>keep b u (fun z=>?_) (fun z=>?_) q) (fun _ q=>q) fun _ _ q=>q
  ·have:=I.stkFree b z
   rcases hb with hb | hb
   ·rw [hb,e] at this;cases this
   ·rw [hb] at this;cases this
  ·have:=(hch b z).1
   rcases hb with hb | hb
   ·rw [hb,e] at this;cases this
   ·rw [hb] at this;cases this
end
theorem vI (f:Array Value->Array Value) (o:Obj):(o.mapFields f).dict = o.dict:=by unfold Obj.mapFields;split<;>rfl
noncomputable def Nw (h:Heap) (e:Addr) (cls:Value):Prop:=∃ oe vs,h.get? e = some oe/\(oe.cls = cls/\oe.dict = none)/\oe.data = .fields vs/\vs[1]? = some Value.none
noncomputable def Tr (h:Heap) (e:Addr) (cls:Value) (T:Addr) (fl:Value):Prop :=
 ∃ oe vs oT ts,h.get? e = some oe/\(oe.cls = cls/\oe.dict = none)/\oe.data = .fields vs/\vs[1]? = some (.ref T)/\T ≠ e/\h.get? T = some oT/\oT.data = .fields ts/\ts[3]? = some fl
section
variable {X:Cx} {pins:List (Addr × Obj)} {σ:L2.St} {H:Hp} {s:Shared} {M:Model} {A:Around} {E:Value->Shared->Prop} {e T:Addr} {cls:Value}
theorem zH {oe:Obj} {vs:Array Value} {head:Value} {hadNext:Bool} {Q:Unit->Shared->Prop} (I:Inv X pins σ H s) (hs:X.stack = X.env :: X.outer) (hf:X.env.frame = some X.env.locals) (hex:X.ex = [])
  (hA:A.frames = some X.stack) (he:s.heap.get? e = some oe) (hdi:oe.dict = none) (hd:oe.data = .fields vs) (hsz:1 < vs.size) (fe:FpN X pins H e)
  (h:∀ s' T,Inv X pins σ H s'->Tr s'.heap e oe.cls T (rawInt X.env.locals)->FpN X pins H T->s.heap.get? T = none->Q () s') :
  wpAny M A (do let a <- frameOf X.env;let pl <- entryPlaceOf X.env.locals hadNext;let b <- EntryCells.newEntry head a .none (rawInt X.env.locals) .none pl;setField (.ref e) 1 b) Q E s:=by
 have hfr:A.frames = some (X.env :: X.outer):=by rw [hA,hs]
 have hl:s.heap.FunFrames X.base (X.env :: X.outer):=hs ▸ I.stack
 have hene:e ∉ (X.env :: X.outer).filterMap (·.frame):=fun hm=>by
  obtain ⟨_,o,ho,hnf⟩:=hl.mem hm
  rw [he] at ho;cases ho;exact hnf vs hd
 have hfs:frs X.stack = (X.env :: X.outer).filterMap (·.frame):=by rw [hs];rfl
 refine wpAny_bind (wpAny_frameOf_fun hfr hl hf fun h₁ hs₁=>?_)
 refine wpAny_bind (wpAny_entryPlaceOf fun pl hpl=>?_)
 unfold EntryCells.newEntry newFields
 refine wpAny_bind (wpAny_newObj_type ?_ (hpl.sizeOk5 _ _ _ _ _))
 have he₁:h₁.get? e = some oe:=(hs₁.2.1 e hene).trans he
 have he₂:=Heap.get?_push_of_some (h:=h₁) { cls:=.type "traceback",dict:=none,data:=.fields ([head,.ref X.env.locals,.none,rawInt X.env.locals,.none] ++ (if pl.isEmpty then List.replicate 6 Value.none else pl)).toArray } he₁
 refine wpAny_setField he₂ hd hsz ?_
 have hTe:h₁.objs.size ≠ e:=Nat.ne_of_gt (Heap.lt_size he₁)
 have hd₃:=Obj.data_mapFields hd (·.setIfInBounds 1 (Value.ref h₁.objs.size))
 have he₃:=Heap.get?_update_self (Obj.mapFields (·.setIfInBounds 1 (Value.ref h₁.objs.size))) he₂ (Obj.isFreed_of_fields hd₃)
 have hT₃:=(Heap.get?_update_other (h₁.push { cls:=.type "traceback",dict:=none,data:=.fields ([head,.ref X.env.locals,.none,rawInt X.env.locals,.none] ++ (if pl.isEmpty then List.replicate 6 Value.none else pl)).toArray })
  (Obj.mapFields (·.setIfInBounds 1 (Value.ref h₁.objs.size))) (Ne.symm hTe)).trans (Heap.get?_push_size h₁ rfl)
 have hTn:s.heap.get? h₁.objs.size = none:=Heap.get?_none_of_le (by rw [hs₁.1];exact Nat.le_refl _)
 refine h _ h₁.objs.size (L2.Inv.mark (s:=s) (ch:=[e]) I (fun b hb=>by rw [List.mem_singleton.mp hb];exact fe) (fun b o hb hc q=>?_) fun b o hc q=>?_) ?_ (L2.Inv.fpN (s:=s) I hex hTn (L2.Inv.untr (s:=s) I hTn)) hTn
 ·have hbe:b ≠ e:=fun z=>hc (by simp [z])
  rw [Heap.get?_update_other _ _ (Ne.symm hbe)]
  exact Heap.get?_push_of_some _ ((hs₁.2.1 b (by rw [<- hfs];exact hb)).trans q)
 ·have hbe:b ≠ e:=fun z=>hc (by simp [z])
  obtain ⟨sl,z⟩:=hs₁.2.2 b o q
  exact ⟨sl,by rw [Heap.get?_update_other _ _ (Ne.symm hbe)];exact Heap.get?_push_of_some _ z⟩
 ·exact ⟨_,_,_,_,he₃,⟨Obj.cls_mapFields _ _,(vI _ _).trans hdi⟩,hd₃,by simp [hsz],hTe,hT₃,rfl,by first | (simp;done) | (rcases hpl with rfl | ⟨_,_,_,_,_,_,_,rfl⟩<;>simp)⟩
theorem aEL {Q:Unit->Shared->Prop} (I:Inv X pins σ H s) (hs:X.stack = X.env :: X.outer) (hf:X.env.frame = some X.env.locals) (hex:X.ex = []) (hA:A.frames = some X.stack) (n:Nw s.heap e cls) (fe:FpN X pins H e)
  (h:∀ s' T,Inv X pins σ H s'->Tr s'.heap e cls T (rawInt X.env.locals)->FpN X pins H T->s.heap.get? T = none->Q () s'):wpAny M A (noteFrame (.ref e) X.env) Q E s:=by
 obtain ⟨oe,vs,he,⟨rfl,hdi⟩,hd,h1⟩:=n
 unfold noteFrame
 simp only [hf]
 refine wpAny_bind (wpAny_field he hd h1 ?_)
 rw [if_neg (by decide)]
 exact zH I hs hf hex hA he hdi hd (Array.getElem?_eq_some_iff.mp h1).1 fe h
theorem aCJ {ts:Array Value} {oT:Obj} {f:Array Value->Array Value} (I:Inv X pins σ H s) (fT:FpN X pins H T) (hT:s.heap.get? T = some oT) :
  Inv X pins σ H { s with heap:=s.heap.update T (Obj.mapFields f) }:=by
 refine I.mark (ch:=[T]) (fun b hb=>by rw [List.mem_singleton.mp hb];exact fT) (fun b o _ hc q=>?_) fun b o hc q=>⟨o.slots,?_⟩ <;>
 ·rw [Heap.get?_update_other _ _ (Ne.symm (fun z=>hc (by simp [z])))];exact q
theorem mC {fl:Value} {Q:Unit->Shared->Prop} (I:Inv X pins σ H s) (t:Tr s.heap e cls T fl) (fT:FpN X pins H T) (h:∀ s',Inv X pins σ H s'->Tr s'.heap e cls T .none->Q () s'):wpAny M A (setFlight (.ref e) none) Q E s:=by
 obtain ⟨oe,vs,oT,ts,he,hcls,hd,h1,hTe,hT,hdT,h3⟩:=t
 have hsz3:3 < ts.size:=(Array.getElem?_eq_some_iff.mp h3).1
 unfold setFlight
 refine wpAny_bind (wpAny_field he hd h1 ?_)
 rw [if_pos (show (Value.ref T != Value.none) = true from by simp)]
 refine wpAny_setField hT hdT hsz3 (h _ (aCJ (ts:=ts) I fT hT) ?_)
 exact ⟨oe,vs,_,_,(Heap.get?_update_other _ _ hTe).trans he,hcls,hd,h1,hTe,Heap.get?_update_self _ hT (Obj.isFreed_of_fields (Obj.data_mapFields hdT _)),Obj.data_mapFields hdT _,by simp [hsz3]⟩
theorem yJ {Q:Unit->Shared->Prop} (I:Inv X pins σ H s) (hs:X.stack = X.env :: X.outer) (hf:X.env.frame = some X.env.locals) (hex:X.ex = []) (hA:A.frames = some X.stack) (t:Tr s.heap e cls T .none) (fe:FpN X pins H e) (fT:FpN X pins H T)
  (h:∀ s' T',Inv X pins σ H s'->Tr s'.heap e cls T' (rawInt X.env.locals)->FpN X pins H T'->Q () s'):wpAny M A (noteFrame (.ref e) X.env) Q E s:=by
 obtain ⟨oe,vs,oT,ts,he,⟨rfl,hdi⟩,hd,h1,hTe,hT,hdT,h3⟩:=t
 unfold noteFrame
 simp only [hf]
 refine wpAny_bind (wpAny_field he hd h1 ?_)
 rw [if_pos (show (Value.ref T != Value.none) = true from by simp)]
 refine wpAny_bind (wpAny_field hT hdT h3 ?_)
 rw [if_neg (show ¬ ((Value.none == rawInt X.env.locals) = true) from by simp [rawInt])]
 refine wpAny_bind (wpAny_setField hT hdT (Array.getElem?_eq_some_iff.mp h3).1 ?_)
 exact zH (aCJ (ts:=ts) I fT hT) hs hf hex hA ((Heap.get?_update_other _ _ hTe).trans he) hdi hd (Array.getElem?_eq_some_iff.mp h1).1 fe fun s' T' I' t' f' _=>h s' T' I' t' f'
theorem aDJ {Q:Unit->Shared->Prop} (I:Inv X pins σ H s) (hs:X.stack = X.env :: X.outer) (hf:X.env.frame = some X.env.locals) (hex:X.ex = []) (hA:A.frames = some X.stack) (n:Nw s.heap e cls) (fe:FpN X pins H e)
  (h:∀ s' T,Inv X pins σ H s'->Tr s'.heap e cls T .none->FpN X pins H T->s.heap.get? T = none->Q () s'):wpAny M A (leaving X.env (.ref e)) Q E s:=by
 unfold leaving
 exact wpAny_bind (aEL I hs hf hex hA n fe fun s1 T I1 t1 f1 n1=>mC I1 t1 f1 fun s2 I2 t2=>h s2 T I2 t2 f1 n1)
end
end Dd
namespace Dd
open PySem PySem.Spec PyProof.Rows L2
noncomputable def CXr (P:Program) (w:World):CXT:=fun outer H s E e s'=>∃ (a:Addr) (cls:Value) (T:Addr) (H':Hp),e = Value.ref a/\s'.os = s.os/\AllBare s'.gens/\Un (frs outer) [] H H' s.heap s'.heap/\HOk P w H' s'.heap /\
 Tr s'.heap a cls T .none/\s.heap.get? a = none/\s.heap.get? T = none/\H' a = none/\H' T = none/\E cls none H'
theorem aGh {K:PySem.W.Frag} {h:Heap} {C:Addr} {bmB:List Value} {newId:String} (X:K.In h) (q:PySem.W.excIn K C bmB newId = true) :
  ∃ bm N nm qn bs hdct sn sub ab col dd k0 k1 k2 k3 k5,∃ mN:Str->Option Value,h.get? C = some (excClassObj nm qn C N bs bm hdct sn sub ab col dd k0 k1 k2 k3 k5 newId)/\h.Ns N mN/\mN "__init__" = none/\OwnTail h bmB bm:=by
 unfold PySem.W.excIn at q
 split at q
 ·rename_i dd cd sl ho
  split at q
  ·rename_i C' bm k0 k1 k2 k3 n k5 hm hs
   simp only [Bool.and_eq_true,beq_iff_eq,Bool.not_eq_true'] at q
   obtain ⟨⟨⟨⟨⟨rfl,rfl⟩,hdel⟩,ht⟩,hok⟩,hni⟩:=q
   cases cd
   dsimp only at hm hdel hok hni
   subst hm hdel
   cases sl
   simp only at hs
   subst hs
   exact ⟨_,_,_,_,_,_,_,_,_,_,_,_,_,_,_,_,_,X _ _ ho,.of_isNs (PySem.W.isNs_of_in X hok),PySem.W.nsMap_none_of_in X hok hni,PySem.W.tail_of_in X ht⟩
  ·cases q
 ·cases q
noncomputable def rH (X:Cx) (x:Str) (V:DM->Prop):Prop:=X.calm = true/\X.ex = []/\∃ C bmB newId B initId,X.mg x = some (.ref C)/\PySem.W.excIn X.K C bmB newId = true/\ExcBaseFacts B newId initId bmB /\
 ∀ pins σ H s a M',Inv X pins σ H s->Nw s.heap a (.ref C)->FpN X pins H a->bK X.K M' H->V M'->X.xe (.ref a) s
noncomputable def aBT (V:DM->Prop) (t:DA):DS:=fun _ ρ M=>t ρ M fun ds M1=>ds.length<=1000/\V M1
section
variable {X:Cx} {x:Str} {V:DM->Prop} {e:Expr} {es:List Expr} {t:DA} {np cpos pos:Pos}
theorem aDX (R:rH X x V) (ha:PDA X (e :: es) t) (hg:Gl X x:=by rfl) (hd:(x == ("__debug__":Str)) = false:=by decide)
  (he:starEach (e :: es) X.env = (false,eval e X.env) :: starEach es X.env:=by rfl) (hpl:(backTo cpos (starEach es X.env)).any (·.1) = false:=by rfl) :
  PDS X (.Raise (some (.Call (.Name x np) (e :: es) [] cpos)) none pos) (aBT V t):=by
 intro pins s σ H D I ⟨ρ,M,D',re,hm,q,k⟩
 obtain ⟨calm,hex,C,bmB,newId,B,initId,hmg,hq,FB,fly⟩:=R
 obtain ⟨tl,N,nm,qn,bs,hdct,sn,sub,ab,col,dd,k0,k1,k2,k3,k5,mN,hC,hN,hni,T⟩:=aGh I.ok.mod.kin hq
 refine wpAny_Raise_call_subT (C:=C) (nm:=nm) (q:=qn) (N:=N) (bs:=bs) (bm:=tl) (hdct:=hdct) (sn:=sn) (sub:=sub) (ab:=ab) (col:=col) (dd:=dd) (k0:=k0) (k1:=k1) (k2:=k2) (k3:=k3) (k5:=k5)
  FB (mN:=mN) (T.hasType FB.hasBase) (I.ok.hd calm) (by rw [he];show (false || (backTo cpos (starEach es X.env)).any (·.1)) = false;rw [hpl];rfl) hni (jL I hg hmg ⟨rfl,?_⟩ hd)
 have h:=ha cpos pins s σ H (LA X.K H fun ds M1=>ds.length<=1000/\V M1) I ⟨ρ,M,_,re,hm,q,fun vs H' z=>z⟩
 rw [he] at h ⊢
 refine Calls.evalArgs_plain (wpAny_mono h (fun us s₂ ⟨vs,H2,I2,rv,ds,M2,rs,hm2,ex,hl,hV⟩=>⟨rfl,?_,I2.bk _ _ hC,hN.keeps I2.bk,T.keeps I2.bk,fun h' a mk=>?_⟩) fun _ _ y=>y)
 ·show us.length<=sizeLine
  rw [<- rv.length,<- rs.length];exact Nat.le_of_lt (cY hl)
 ·obtain ⟨tt,ht,_⟩:=mk.there
  have I3:Inv X pins σ H2 { s₂ with heap:=h' }:=I2.kept (t':=s₂.toks) mk.keeps
  have hn:=I2.untr mk.new
  exact fly pins σ H2 _ a M2 I3 ⟨_,_,ht,⟨rfl,rfl⟩,rfl,rfl⟩ (I2.fpN hex mk.new hn) hm2 hV
end
noncomputable def spX (K:PySem.W.Frag) (C:Addr) (cond:List D->DM->Prop):Sp:=fun vs H _ E=>∃ ds M,bN K H ds vs/\bK K M H/\cond ds M/\∀ M' H',bK K M' H'->aX M M'->E (.ref C) none H'
noncomputable def bmV:List Value:=[.type "ValueError",.type "Exception",.type "BaseException",.type "object"]
noncomputable def wS (K:PySem.W.Frag) (mg:Str->Option Value) (x:Str) (C:Addr):Prop:=mg x = some (.ref C)/\PySem.W.excIn K C bmV "ValueError.__new__" = true
noncomputable def iF (P:Program) (w:World) (K:PySem.W.Frag) (mg:Str->Option Value) (base:Heap) (k:Nat) (x:Str) (ps:List Str) (C:Addr) (cond:List D->DM->Prop):Prop :=
 ∃ f fd,jH P w K mg base (CXr P w) k f fd ps (spX K C cond)/\mg x = some (.ref f)/\PySem.W.keepIn K (.ref f) = true/\nA K fd ps []
section
variable {P:Program} {w:World} {K:PySem.W.Frag} {mg:Str->Option Value} {base:Heap}
theorem iF.mk {x c:Str} {C:Addr} {st:Stmt} {N ps:List Str} {k:Nat} {cond:List D->DM->Prop} (h:cA K mg x st ps) (hc:wS K mg c C) (S:aS N ps (aK st)) (len:∀ ds M,cond ds M->ds.length = ps.length)
  (hbody:∀ (f:Addr) (cdv:Value) (A:Around) (outer:List Env) (s:Shared) (H:Hp) (ds:List D) (M:DM) (E:XK),eB k (A.deeper (envOfC x (aK st) s.heap.objs.size f cdv))->cond ds M ->
   rH (kA (CXr P w) P w K mg base N x (aK st) f cdv A outer s H E) c (aX M) ->
   ∃ t,iV (kA (CXr P w) P w K mg base N x (aK st) f cdv A outer s H E) (eK st) t/\t { nx:=fun _ _=>False,rt:=fun _ _=>False } (gA N ds) M)  :iF P w K mg base (k + 1) x ps C cond:=by
 obtain ⟨f,fd,F,hm,hb⟩:=h
 refine ⟨f,fd,?_,hm,F.kp,hb⟩
 obtain ⟨oc,od,kV,doc,pm,an,cdv,ct,osl,rfl,lk,hcd⟩:=F.ex
 refine aE1 lk hcd S (fun vs H Q E ⟨ds,M,rs,hm,q,_⟩=>by rw [<- rs.length];exact len ds M q) fun A outer s H vs Q E hr ⟨ds,M,rs,hm,q,k'⟩=>?_
 have RO:rH (kA (CXr P w) P w K mg base N x (aK st) f cdv A outer s H E) c (aX M) :=
  ⟨rfl,rfl,C,bmV,_,_,_,hc.1,hc.2,PySem.F.excBase_ValueError,fun pins σ H' s1 a M' I n fe hm' sub =>
   aDJ (X:=kA (CXr P w) P w K mg base N x (aK st) f cdv A outer s H E) I rfl rfl rfl I.ok.frames n fe fun s' T I' t' fT _ =>
    ⟨a,.ref C,T,H',rfl,I'.os,I'.bare,I'.base,I'.hok,t',fe.2.2.1,fT.2.2.1,fe.1,fT.1,k' M' H' hm' sub⟩⟩
 obtain ⟨t,h1,h2⟩:=hbody f cdv A outer s H ds M E hr q RO
 exact ⟨_,h1,gA N ds,M,_,qE rs N,hm,h2,⟨fun σ' H' ⟨_,_,_,_,_,z⟩=>z.elim,fun v H' ⟨_,_,_,_,_,z⟩=>z.elim,fun σ' H' ⟨_,_,_,_,_,z⟩=>z.elim,fun σ' H' ⟨_,_,_,_,_,z⟩=>z.elim⟩⟩
noncomputable abbrev aDS (P:Program) (w:World) (K:PySem.W.Frag) (mg:Str->Option Value) (base:Heap) (k:Nat) (x:Str) (ps:List Str) (C:Addr) (cond:List D->Prop):Prop:=iF P w K mg base k x ps C fun ds _=>cond ds
end
end Dd
namespace Dd
open PySem PySem.Spec PyProof.Rows L2
noncomputable def ExO (o:Obj) (C:Addr):Prop:=o.cls = .ref C/\o.dict = none/\∃ vs,o.data = .fields vs
noncomputable abbrev Exc (X:Cx) (a:Addr) (o:Obj):Cx:={ X with A:=X.A.mark (some (.ref a)),calm:=false,pn:=(a,o) :: X.pn }
section
variable {X:Cx} {pins:List (Addr × Obj)} {σ:L2.St} {H:Hp} {s:Shared} {a:Addr} {o:Obj}
theorem aJi (I:X.Ok):(Exc X a o).Ok :=
 ⟨I.mod,I.kind,I.glob,I.blt,I.above,I.inj,I.has,I.cab,(fun z=>nomatch z),I.frames,I.stk,I.exf,I.bs,I.bsz,I.noex,I.exfs,I.funs,I.frf⟩
theorem aFw (I:Inv X pins σ H s) (h:s.heap.get? a = some o) (n:H a = none) (nl:a ≠ X.env.locals) (nf:a ∉ X.fs) (nc:∀ v,o.data ≠ .cell v):Inv (Exc X a o) pins σ H s :=
 ⟨aJi I.ok,I.os,I.bare,I.base,I.loc,I.cell,I.free,I.freeC,fun p hp=>by
  rcases List.mem_cons.mp hp with z | z
  ·subst z;exact ⟨h,n,nl,nf,nc⟩
  ·exact I.pin p z,I.hok,I.len⟩
theorem tY (ok:X.Ok) (I:Inv (Exc X a o) pins σ H s):Inv X pins σ H s :=
 ⟨ok,I.os,I.bare,I.base,I.loc,I.cell,I.free,I.freeC,fun p hp=>I.pin p (List.mem_cons_of_mem _ hp),I.hok,I.len⟩
theorem oJ {M:Model} {A:Around} {E:Value->Shared->Prop} {n:Str} {j:Nat} {pos:Pos} {Q:Unit->Shared->Prop} (I:Inv X pins σ H s) (hN:X.N.Nodup) (hj:X.N[j]? = some n) (hl:X.env.scope.names.lookup n = some .local)
  (h:∀ s',Inv X pins (σ.set j none) H s'->Q () s'):wpAny M A (do bindName X.env n .none;unbindBehindTheSuite X.env n pos) Q E s:=by
 obtain ⟨m,hn,hlo⟩:=id I.loc
 have hcls:(X.env.scope.kind == .class || (X.env.scope.kind == .module && X.env.locals != X.env.globals)) = false:=by rw [I.ok.kind];rfl
 have cne:=I.cne
 refine wpAny_nameGoes_keeps hl hn hcls fun h' v hn' hs=>h _ ?_
 obtain ⟨oL,_,_,hoL,_⟩:=id hn
 refine ⟨I.ok,I.os,I.bare,⟨fun b o e n hb hx=>?_,fun b o e n hb hx=>?_,I.base.free,fun b o e hx=>?_,I.base.tups,I.base.frzs,I.base.tbls⟩,⟨_,hn',fun i y v' e1 e2 e3=>?_⟩,fun y c e=>?_,I.free,I.freeC,fun p hp=>?_,fun b ob e=>?_,by simpa using I.len⟩
 ·exact (hs.2 b (Nat.ne_of_lt (Nat.lt_of_lt_of_le (Heap.lt_size e) I.ok.above))).trans (I.base.keep b o e n hb hx)
 ·obtain ⟨sl,e1⟩:=I.base.slot b o e n hb hx
  exact ⟨sl,(hs.2 b (Nat.ne_of_lt (Nat.lt_of_lt_of_le (Heap.lt_size e) I.ok.above))).trans e1⟩
 ·obtain ⟨o',e1⟩:=I.base.there b o e hx
  exact ⟨o',(hs.2 b (Nat.ne_of_lt (Nat.lt_of_lt_of_le (Heap.lt_size e) I.ok.above))).trans e1⟩
 ·have hij:i ≠ j:=fun z=>by
   subst z
   rw [List.getElem?_set] at e2
   rw [if_pos rfl] at e2
   split at e2<;>cases e2
  rw [List.getElem?_set_ne (Ne.symm hij)] at e2
  obtain ⟨u,r,q⟩:=hlo i y v' e1 e2 e3
  refine ⟨u,r,?_⟩
  rcases q with ⟨k,e⟩ | ⟨k,c,e,z⟩
  ·refine .inl ⟨k,?_⟩
   have:y ≠ n:=fun e=>hij (xD hN e1 (e ▸ hj))
   simp [this,e]
  ·exact .inr ⟨k,c,e,z.sameBut hs (cne y c e)⟩
 ·obtain ⟨w',z⟩:=I.cell y c e
  exact ⟨w',z.sameBut hs (cne y c e)⟩
 ·obtain ⟨e,n,ne,nf,d⟩:=I.pin p hp
  exact ⟨(hs.2 p.1 ne).trans e,n,ne,nf,d⟩
 ·refine (I.hok b ob e).stay (fun c w' hc q=>(hs.2 c ?_).trans q) (fun _ q=>q) fun _ _ q=>q
  rintro rfl
  rcases hc with rfl | hc
  ·rw [I.free] at e;cases e
  ·rw [I.free] at hc;cases hc
end
theorem eZ.setN {K:PySem.W.Frag} {H:Hp} {ρ:cF} {σ:L2.St} (h:eZ K H ρ σ) (i:Nat):eZ K H (ρ.set i none) (σ.set i none):=by
 refine ⟨by rw [List.length_set,List.length_set,h.len],fun j d' q=>?_⟩
 rw [List.getElem?_set] at q
 by_cases hij:i = j
 ·subst hij
  rw [if_pos rfl] at q
  split at q<;>cases q
 ·rw [if_neg hij] at q
  obtain ⟨u,a,b⟩:=h.get j d' q
  exact ⟨u,by rw [List.getElem?_set,if_neg hij];exact a,b⟩
noncomputable def fO.un (D:fO) (j:Nat):fO:={ nx:=fun ρ M=>D.nx (ρ.set j none) M,rt:=D.rt,bk:=fun ρ M=>D.bk (ρ.set j none) M,ct:=fun ρ M=>D.ct (ρ.set j none) M }
noncomputable def aFq (D:pT) (j:Nat):pT:={ nx:=fun ρ M=>D.nx (ρ.set j none) M,rt:=D.rt,bk:=fun ρ M=>D.bk (ρ.set j none) M,ct:=fun ρ M=>D.ct (ρ.set j none) M }
theorem iW.un {K:PySem.W.Frag} {H:Hp} {D:fO} {E:pT} (k:iW K H D E) (j:Nat):iW K H (D.un j) (aFq E j) :=
 ⟨fun σ' H' ⟨ρ',M',re,hm,ex,q⟩=>k.nx _ H' ⟨_,M',re.setN j,hm,ex,q⟩,k.rt,fun σ' H' ⟨ρ',M',re,hm,ex,q⟩=>k.bk _ H' ⟨_,M',re.setN j,hm,ex,q⟩,fun σ' H' ⟨ρ',M',re,hm,ex,q⟩=>k.ct _ H' ⟨_,M',re.setN j,hm,ex,q⟩⟩
noncomputable def aIv (sp:DSp) (cond:List D->DM->Prop) (j:Nat) (t:DA) (nx:fO->D->cF->DM->Prop) (ts:Addr->DS):DS:=fun D ρ M=>t ρ M fun ds M1 =>
 (cond ds M1/\∀ a,ts a (D.un j) (ρ.set j (some (.ref a))) M1) ∨ sp ds M1 fun d M2=>nx D d ρ M2
section
variable {X:Cx} {a:Expr} {e:Expr} {es:List Expr} {t:DA} {x f n cm:Str} {ps:List Str} {sp:DSp} {cond:List D->DM->Prop} {C Cm:Addr} {k1 k2 k i j:Nat} {ts:Addr->DS} {b0:Stmt} {suite:List Stmt} {px pf pc pa pcm ph pos:Pos}
theorem aIV {pins:List (Addr × Obj)} {σ:L2.St} {H1:Hp} {s1 s':Shared} {M1:DM} {ρ:cF} {De:fO} {En:pT} {ev:Value} (ok:X.Ok) (hs:X.stack = X.env :: X.outer) (hf:X.env.frame = some X.env.locals) (hex:X.ex = [])
  (hX:∀ e s,X.xe e s->False) (hN:X.N.Nodup) (hj:X.N[j]? = some n) (hnl:X.env.scope.names.lookup n = some .local)
  (hcm:X.mg cm = some (.ref Cm)) (hgc:Gl X cm) (hdc:(cm == ("__debug__":Str)) = false) (hmt:PySem.W.exmOne X.K (.ref C) (.ref Cm) = some true)
  (hsu:∀ a o,ExO o C->iV (Exc X a o) (b0 :: suite) (ts a))
  (I1:Inv X pins σ H1 s1) (re:eZ X.K H1 ρ σ) (k:iW X.K H1 De En) (q:∀ a,ts a (De.un j) (ρ.set j (some (.ref a))) M1)
  (h:CXr X.prog X.w X.stack H1 s1 (fun c _ H'=>c = .ref C/\∃ M',bK X.K M' H'/\aX M1 M') ev s') :
  wpAny (model X.prog X.w) X.A (noteFrame ev X.env) (fun _ s₂=>wpAny (model X.prog X.w) X.A (setFlight ev none)
   (fun _ s₃=>wpAny (model X.prog X.w) X.A (handleBy ev X.env [.ExceptHandler (some (.Name cm pcm)) (some n) (b0 :: suite) ph]) (SP X pins En) X.xe s₃) X.xe s₂) X.xe s':=by
 obtain ⟨a,cls,T,H',rfl,os,bare,un,hok,tr,na,nT,ha,hT,rfl,M',hm',sub⟩:=h
 have I2:Inv X pins σ H' s':=I1.call' (ch:=[]) os un hok bare (fun b z=>absurd z (by simp))
 have fa:FpN X pins H' a:=I1.fpN hex na ha
 have fT:FpN X pins H' T:=I1.fpN hex nT hT
 have ex:Ext H1 H':=⟨un.tups,un.frzs⟩
 refine yJ I2 hs hf hex I2.ok.frames tr fa fT fun s3 T3 I3 t3 f3=>?_
 refine mC I3 t3 f3 fun s4 I4 t4=>?_
 have noF:∀ {s:Shared} {oe:Obj} {vs:Array Value},Inv X pins σ H' s->s.heap.get? a = some oe->oe.data = .fields vs->a ∉ X.fs:=fun {s oe vs} I he hd hb=>by
  obtain ⟨_,o,ho,hnf⟩:=I.funs.mem hb
  rw [he] at ho;cases ho;exact hnf vs hd
 have inn:∀ {s:Shared} {T fl},Inv X pins σ H' s->Tr s.heap a (.ref C) T fl->∃ oe,oe.cls = .ref C/\s.heap.get? a = some oe/\Inv (Exc X a oe) pins σ H' s:=fun {s T fl} I t=>by
  obtain ⟨oe,vs,oT,ts,he,hc,hd,_⟩:=t
  exact ⟨oe,hc.1,he,aFw I he ha fa.2.1 (noF I he hd) fun v z=>by rw [hd] at z;cases z⟩
 obtain ⟨o4,hc4,he4,J4⟩:=inn I4 t4
 refine wpAny_handleBy_cons (codeAny_handlers_test ?_) (by intro z;cases z)
 refine jL (X:=Exc X a o4) J4 hgc hcm ?_ hdc
 have LT:∀ M:Model,PySem.W.Looks M s4.heap (typeOf (.ref a)) (.ref C):=fun M=>hc4 ▸ (PySem.W.Looks.ld he4).andThen .now
 refine (PySem.W.exm_one J4.kIn (LT _) hmt).here ?_
 simp only [if_true]
 refine codeAny_handlers_suite_as ?_
 refine mC I4 t4 f3 fun s5 I5 t5=>?_
 obtain ⟨oe,vs,oT,tts,he5,hc5,hd5,_⟩:=t5
 refine sH (v:=.ref a) I5 hN hj (.inl hnl) rfl (fun s6 I6 ⟨b,hsb,hb⟩=>?_) (.inr hnl)
 have hne:a ≠ b:=by
  rcases hb with hb | hb
  ·rw [hb];exact fa.2.1
  ·exact fun z=>fa.2.2.2.1 n b hb z.symm
 have he6:s6.heap.get? a = some oe:=(hsb.2 a hne).trans he5
 have J6:Inv (Exc X a oe) pins (σ.set j (some (.ref a))) H' s6:=aFw I6 he6 ha fa.2.1 (noF I5 he5 hd5) fun v z=>by rw [hd5] at z;cases z
 have run:=hsu a oe ⟨hc5.1,hc5.2,_,hd5⟩ pins s6 (σ.set j (some (.ref a))) H' (aFq En j) J6 ⟨_,M1,De.un j,(re.ext ex).set fY j,hm'.sub sub,q a,(k.at ex).un j⟩
 refine wpAny_mono run (fun fl s7 h7=>?_) fun x s7 h7=>(hX x s7 h7).elim
 cases fl with
 | next =>
  obtain ⟨σ',H7,I7,q7⟩:=h7
  exact oJ (tY ok I7) hN hj hnl fun s8 I8=>⟨_,H7,I8,q7⟩
 | brk =>
  obtain ⟨σ',H7,I7,q7⟩:=h7
  exact oJ (tY ok I7) hN hj hnl fun s8 I8=>⟨_,H7,I8,q7⟩
 | cont =>
  obtain ⟨σ',H7,I7,q7⟩:=h7
  exact oJ (tY ok I7) hN hj hnl fun s8 I8=>⟨_,H7,I8,q7⟩
 | ret u =>
  obtain ⟨v,σ',H7,I7,r7,q7⟩:=h7
  exact oJ (tY ok I7) hN hj hnl fun s8 I8=>⟨v,_,H7,I8,r7,q7⟩
theorem aHk {pins:List (Addr × Obj)} {σ:L2.St} {H1:Hp} {s1:Shared} {M1:DM} {ds:List D} {us:List Value} {vs:List V} {Q:Value->Shared->Prop} {E:Value->Shared->Prop} {f':Addr} {Q':DQ}
  (hH:iF X.prog X.w X.K X.mg X.base k1 f ps C cond) (hh:Has X.prog X.w X.K X.mg X.base k2 f ps sp) (hr:eB k X.A) (hk1:k1<=k) (hk2:k2<=k) (hmf:X.mg f = some (.ref f'))
  (I1:Inv X pins σ H1 s1) (rv:bT vs us) (rs:bN X.K H1 ds vs) (hm1:bK X.K M1 H1)
  (q:(cond ds M1/\∀ ev s',CXr X.prog X.w X.stack H1 s1 (fun c _ H'=>c = .ref C/\∃ M',bK X.K M' H'/\aX M1 M') ev s'->E ev s') ∨ sp ds M1 Q')
  (hQ:∀ u s',EP X pins σ (LQ X.K H1 Q') u s'->Q u s'):wpAny (model X.prog X.w) X.A (call (.ref f') us) Q E s1:=by
 rcases q with ⟨q,hE⟩ | q
 ·obtain ⟨f1,fd,F,hm,_,hb⟩:=hH
  have hf:f1 = f':=by have:=hm.symm.trans hmf;cases this;rfl
  subst hf
  have hsp:spX X.K C cond vs H1 (fun _ _=>False) (fun c _ H'=>c = .ref C/\∃ M',bK X.K M' H'/\aX M1 M'):=⟨ds,M1,rs,hm1,q,fun M' H' a b=>⟨rfl,M',a,b⟩⟩
  have hl:(us ++ []).length = ps.length:=by rw [List.append_nil,<- rv.length];exact F.len _ _ _ _ hsp
  have hbb:=hb s1 us I1.kIn hl
  rw [List.append_nil] at hbb
  refine wpAny_call (codeAny_mono (F.run X.A X.stack s1 H1 ⟨us,[]⟩ us vs _ _ (hr.mono hk1) I1.env0 hbb rv hsp) fun r s' hq=>?_)
  cases r with
  | error ev=>exact hE ev s' hq
  | ok fl =>
   cases fl with
   | ret u=>obtain ⟨_,_,_,_,_,_,_,z⟩:=(show CE _ _ _ _ _ _ _ _ from hq);exact z.elim
   | next=>exact False.elim hq
   | brk=>exact False.elim hq
   | cont=>exact False.elim hq
 ·obtain ⟨f1,fd,F,hm,_,hb⟩:=hh
  have hf:f1 = f':=by have:=hm.symm.trans hmf;cases this;rfl
  subst hf
  have hsp:qS X.K sp vs H1 (LQ X.K H1 Q') (fun _ _ _=>False):=⟨ds,M1,Q',rs,hm1,q,fun v H' z=>z⟩
  have hl:(us ++ []).length = ps.length:=by rw [List.append_nil,<- rv.length];exact F.len _ _ _ _ hsp
  have hbb:=hb s1 us I1.kIn hl
  rw [List.append_nil] at hbb
  refine wpAny_call (codeAny_mono (F.run X.A X.stack s1 H1 ⟨us,[]⟩ us vs _ _ (hr.mono hk2) I1.env0 hbb rv hsp) fun r s' hq=>?_)
  cases r with
  | error ev=>exact False.elim hq
  | ok fl =>
   cases fl with
   | ret u=>exact hQ u s' (I1.after hq)
   | next=>exact False.elim hq
   | brk=>exact False.elim hq
   | cont=>exact False.elim hq
theorem aG2 (hH:iF X.prog X.w X.K X.mg X.base k1 f ps C cond) (hh:Has X.prog X.w X.K X.mg X.base k2 f ps sp) (hr:eB k X.A) (hk1:k1<=k) (hk2:k2<=k) (hN:X.N.Nodup)
  (hcm:wS X.K X.mg cm Cm) (hmt:PySem.W.exmOne X.K (.ref C) (.ref Cm) = some true) (ha:PDA X (e :: es) t) (hsu:∀ a o,ExO o C->iV (Exc X a o) (b0 :: suite) (ts a))
  (hj:X.N[j]? = some n:=by rfl) (hnl:X.env.scope.names.lookup n = some .local:=by rfl)
  (hs:X.stack = X.env :: X.outer:=by rfl) (hf:X.env.frame = some X.env.locals:=by rfl) (hex:X.ex = []:=by rfl) (hX:∀ e s,X.xe e s->False:=by exact fun _ _ z=>z)
  (hgc:Gl X cm:=by rfl) (hdc:(cm == ("__debug__":Str)) = false:=by decide) (hg:Gl X f:=by rfl) (hdb:(f == ("__debug__":Str)) = false:=by decide)
  (he:starEach (e :: es) X.env = (false,eval e X.env) :: starEach es X.env:=by rfl) (hpl:(backTo pc (starEach es X.env)).any (·.1) = false:=by rfl)
  (hsw:swapsWith (.Call (.Name f pf) (e :: es) [] pc) none pa.line X.env = pure false:=by rfl) :
  PDS X (.Try [.Expr (.Call (.Name f pf) (e :: es) [] pc) pa] [.ExceptHandler (some (.Name cm pcm)) (some n) (b0 :: suite) ph] [] [] pos) (aIv sp cond j t (fun D _ ρ M=>D.nx ρ M) ts):=by
 intro pins s σ H En I ⟨ρ,M,De,re,hm,q,k'⟩
 obtain ⟨f',fd,F,hmf,hk,hb⟩:=id hh
 refine wpAny_Try_except ?_
 refine wpAny_execs_cons (wpAny_Expr_any (wpAny_Call_Name_kw (jL I hg hmf ?_ hdb)) I.quiet hsw)
 refine PySem.W.callWith_K (h₀:=X.base) I.ok.mod.kin hk (wpAny_mono (ha pc pins s σ H (LA X.K H _) I ⟨ρ,M,_,re,hm,q,fun vs H' z=>z⟩) (fun us s1 ⟨vs,H1,I1,rv,ds,M1,rs,hm1,ex,q1⟩=>⟨I1.kIn,?_⟩) fun ev s' z=>(hX ev s' z).elim) he hpl
 refine aHk hH hh hr hk1 hk2 hmf I1 rv rs hm1 (q1.imp (fun z=>⟨z.1,fun ev s' y=>?_⟩) id) fun u s' ⟨v,H2,I2,rr,d,M2,rd,hm2,ex2,q2⟩=>?_
 ·exact aIV I.ok hs hf hex hX hN hj hnl hcm.1 hgc hdc hmt hsu I1 (re.ext ex) (k'.at ex) z.2 y
 ·exact wpAny_execs_nil (wpAny_execs_nil ⟨_,H2,I2,k'.nx _ H2 ⟨_,M2,re.ext (ex.trans ex2),hm2,ex.trans ex2,q2⟩⟩)
end
section
open PySem.W PySem.Calls
theorem aFP {K:PySem.W.Frag} {x t c:Value} {H:Heap->Prop} (ty:∀ (M:Model) (h:Heap),H h->Looks M h (typeOf x) t) (e:kitOne K t c = some true):Answers (fun s=>K.In s.heap/\H s.heap) x c true:=by
 intro dep tk prog w A R s hs
 obtain ⟨h0,g,d,tt,os⟩:=s
 obtain ⟨⟨X,p⟩,hq⟩:=hs
 have LT:=ty (model prog w) h0 p
 unfold kitOne at e
 unfold Builtin.«isinstance.nested»
 refine wpAny_bind (LT.at ?_)
 by_cases q:(t == c) = true
 ·rw [if_pos q]
  first
   | ((repeat lk);exact hq tt)
   | exact wpAny_bind (wpAny_rule (hq tt))
   | exact wpAny_bind (wpAny_rule (wpAny_pure (hq tt)))
 ·rw [if_neg q] at e
  rw [if_neg q]
  obtain ⟨hty,his,hsub⟩:=kit_cls (M:=model prog w) X e
  have LI:Looks (model prog w) h0 (isInstance x c) true:=LT.andThen hsub
  refine wpAny_bind (hty.at ?_)
  rw [if_pos (by decide)]
  k_delta "plainIsInstance"
  refine wpAny_bind (wpAny_bind (his.at ?_))
  simp only [Bool.not_true,Bool.false_eq_true,if_false]
  refine wpAny_bind (LI.at ?_)
  first
   | exact wpAny_pure (wpAny_pure (hq tt))
   | (simp only [if_true];first | exact wpAny_pure (wpAny_pure (hq tt)) | exact wpAny_pure (hq tt) | exact wpAny_bind (wpAny_pure (wpAny_pure (hq tt))))
theorem aBt {K:PySem.W.Frag} {x t c:Value} {H:Heap->Prop} {prog:Program} {w:World} {A:Around} {E:Value->Shared->Prop} {s:Shared} {Q:Value->Shared->Prop} (ty:∀ (M:Model) (h:Heap),H h->Looks M h (typeOf x) t) (X:K.In s.heap) (p:H s.heap)
  (e:kitOne K t c = some true) (hx:x ≠ .builtin "__main__.__loader__#opaque") (h:∀ tk,Q (.bool true) { s with toks:=tk }):wpAny (model prog w) A (call (.builtin "isinstance") [x,c]) Q E s :=
 call_isinstance (S:=fun _ R s=>(K.In s.heap/\H s.heap)/\∀ tk,R (.ok (.ret (.bool true))) { s with toks:=tk })
  (fun prog w A R s hs=>isinstance_outer (aFP ty e 0 _ prog w A R s hs) hx) ⟨⟨X,p⟩,h⟩
end
theorem aEc {K:PySem.W.Frag} {t:Value}:PySem.W.kitOne K t t = some true:=by unfold PySem.W.kitOne;rw [if_pos (beq_self_eq_true t)]
noncomputable def aE4 (j:Nat) (a:Addr):DE:=fun ρ M Q=>ρ[j]? = some (some (.ref a))/\Q (.bl true) M
section
variable {X:Cx} {n c:Str} {C Cc a:Addr} {o:Obj} {p p1 p2 pos:Pos} {j:Nat}
theorem aKj (ho:ExO o C) (hcc:wS X.K X.mg c Cc) (hki:PySem.W.kitOne X.K (.ref C) (.ref Cc) = some true) (hmi:X.mg "isinstance" = none) (hj:X.N[j]? = some n:=by rfl) (hnl:Vis X.env.scope n:=by first | exact Or.inl rfl | exact Or.inr (Or.inl rfl) | exact Or.inr (Or.inr rfl))
  (hgi:Gl X "isinstance":=by rfl) (hgc:Gl X c:=by rfl) (hd1:(n == ("__debug__":Str)) = false:=by decide) (hd2:(n == ("__classdict__":Str)) = false:=by decide) (hd3:(c == ("__debug__":Str)) = false:=by decide)
  (hs:∀ env:Env,starEach [.Name n p1,.Name c p2] env = (false,eval (.Name n p1) env) :: starEach [.Name c p2] env:=by intro _;rfl) (hs2:∀ env:Env,starEach [.Name c p2] env = (false,eval (.Name c p2) env) :: starEach [] env:=by intro _;rfl)
  (hpl:(backTo pos (starEach [.Name c p2] X.env)).any (·.1) = false:=by rfl) :
  PDE (Exc X a o) (.Call (.Name "isinstance" p) [.Name n p1,.Name c p2] [] pos) (aE4 j a):=by
 have hc:kL (Exc X a o) (.builtin "isinstance") fun vs H Q=>vs = [.ref a,.ref Cc]/\Q (.bl true) H:=by
  intro pins s σ H xs us Q I rs ⟨e,q⟩
  subst e
  obtain ⟨u1,us1,rfl,r1,rs1⟩:∃ u1 us1,us = u1 :: us1/\bO (.ref a) u1/\bT [.ref Cc] us1:=by cases rs with | cons r t=>exact ⟨_,_,rfl,r,t⟩
  obtain ⟨u2,us2,rfl,r2,rs2⟩:∃ u2 us2,us1 = u2 :: us2/\bO (.ref Cc) u2/\bT [] us2:=by cases rs1 with | cons r t=>exact ⟨_,_,rfl,r,t⟩
  obtain rfl:us2 = []:=by cases rs2;rfl
  obtain rfl:u1 = Value.ref a:=r1
  obtain rfl:u2 = Value.ref Cc:=r2
  have pn:=I.pin (a,o) (List.mem_append_left _ (List.mem_cons_self))
  exact aBt (K:=X.K) (H:=fun h=>h.get? a = some o) (fun M h e=>ho.1 ▸ (PySem.W.Looks.ld e).andThen .now) I.kIn pn.1 hki (fun z=>nomatch z) fun tk=>⟨.bl true,H,I.tok tk,rfl,q⟩
 refine cM (rO (X:=Exc X a o) hc hgi hmi rfl (lI (aBH (X:=Exc X a o) (i:=j) hj hnl hd1 hd2) (lI (aCX (X:=Exc X a o) (v:=.ref Cc) hgc hcc.1 rfl hd3) aAi (hs2 _)) (hs _)) (by decide) (by decide) (hs _) hpl) fun σ H Q ⟨ρ,M,Q',re,hm,⟨e,q⟩,k⟩=>?_
 obtain ⟨v,e1,rv⟩:=re.get j _ e
 obtain rfl:=aT rv
 exact ⟨_,e1,rfl,k _ H ⟨_,M,eA,hm,.refl H,q⟩⟩
theorem aGU {T:String} (ho:ExO o C) (hki:PySem.W.kitOne X.K (.ref C) (.type T) = some true) (hmi:X.mg "isinstance" = none) (hmc:X.mg c = none) (hv:bootBuiltins c = some (.type T):=by rfl) (hj:X.N[j]? = some n:=by rfl) (hnl:Vis X.env.scope n:=by first | exact Or.inl rfl | exact Or.inr (Or.inl rfl) | exact Or.inr (Or.inr rfl))
  (hgi:Gl X "isinstance":=by rfl) (hgc:Gl X c:=by rfl) (hnn:c ≠ "__name__":=by decide) (hd1:(n == ("__debug__":Str)) = false:=by decide) (hd2:(n == ("__classdict__":Str)) = false:=by decide) (hd3:(c == ("__debug__":Str)) = false:=by decide)
  (hs:∀ env:Env,starEach [.Name n p1,.Name c p2] env = (false,eval (.Name n p1) env) :: starEach [.Name c p2] env:=by intro _;rfl) (hs2:∀ env:Env,starEach [.Name c p2] env = (false,eval (.Name c p2) env) :: starEach [] env:=by intro _;rfl)
  (hpl:(backTo pos (starEach [.Name c p2] X.env)).any (·.1) = false:=by rfl) :
  PDE (Exc X a o) (.Call (.Name "isinstance" p) [.Name n p1,.Name c p2] [] pos) (aE4 j a):=by
 have hc:kL (Exc X a o) (.builtin "isinstance") fun vs H Q=>vs = [.ref a,.ty T]/\Q (.bl true) H:=by
  intro pins s σ H xs us Q I rs ⟨e,q⟩
  subst e
  obtain ⟨u1,us1,rfl,r1,rs1⟩:∃ u1 us1,us = u1 :: us1/\bO (.ref a) u1/\bT [.ty T] us1:=by cases rs with | cons r t=>exact ⟨_,_,rfl,r,t⟩
  obtain ⟨u2,us2,rfl,r2,rs2⟩:∃ u2 us2,us1 = u2 :: us2/\bO (.ty T) u2/\bT [] us2:=by cases rs1 with | cons r t=>exact ⟨_,_,rfl,r,t⟩
  obtain rfl:us2 = []:=by cases rs2;rfl
  obtain rfl:u1 = Value.ref a:=r1
  obtain rfl:u2 = Value.type T:=r2
  have pn:=I.pin (a,o) (List.mem_append_left _ (List.mem_cons_self))
  exact aBt (K:=X.K) (H:=fun h=>h.get? a = some o) (fun M h e=>ho.1 ▸ (PySem.W.Looks.ld e).andThen .now) I.kIn pn.1 hki (fun z=>nomatch z) fun tk=>⟨.bl true,H,I.tok tk,rfl,q⟩
 refine cM (rO (X:=Exc X a o) hc hgi hmi rfl (lI (aBH (X:=Exc X a o) (i:=j) hj hnl hd1 hd2) (lI (aCi (X:=Exc X a o) (v:=.ty T) hgc hmc hv rfl hnn hd3) aAi (hs2 _)) (hs _)) (by decide) (by decide) (hs _) hpl) fun σ H Q ⟨ρ,M,Q',re,hm,⟨e,q⟩,k⟩=>?_
 obtain ⟨v,e1,rv⟩:=re.get j _ e
 obtain rfl:=aT rv
 exact ⟨_,e1,rfl,k _ H ⟨_,M,eA,hm,.refl H,q⟩⟩
end
section
open PySem.W PySem.Calls
variable {prog:Program} {w:World} {A:Around} {E:Value->Shared->Prop} {s:Shared} {K:Frag} {x C D:Addr} {ox:Obj}
structure aLd (K:Frag) (D:Addr):Prop where
 ga:findIn K (.ref D) "__getattribute__" = some (some (.builtin "BaseException.__getattribute__"))
 gn:findIn K (.ref D) "__getattr__" = some none
 cl:findIn K (.ref D) "__class__" = some (some (.builtin "object.__class__"))
 nn:specialIn K (.builtin "object.__class__") "__get__" = some (some (.builtin "getset_descriptor.__get__"))
 tk:takesIn K (.builtin "object.__class__") = some true
 mo:mroIn K D (.type "object") = some true
 mb:mroIn K D (.type "BaseException") = some true
end
section
variable {X:Cx} {a C:Addr} {o:Obj}
end
end Dd
namespace Dd
open PySem PySem.Spec PyProof.Rows L2
section
open PySem.SeqAt
open PySem.AutoSeq1 (wpAny_loadPart')
open PySem.MeetsSeq PySem.MeetsSeq2 PySem.MeetsSeq3
end
section
variable {X:Cx} {j:Nat}
theorem aHB {K:PySem.W.Frag} {H:Hp} {a b:Int} {xs:List V} {its:List Value} (r:bN K H [.int a,.int b] xs) (v:bT xs its):∃ t u,its = [.int a t,.int b u]:=by
 obtain ⟨v1,r1,rfl,h1,r1'⟩:=aY r
 obtain rfl:=aV h1
 obtain ⟨v2,r2,rfl,h2,r2'⟩:=aY r1'
 obtain rfl:=aV h2
 obtain rfl:=bR r2'
 cases v with
 | cons q1 w1 =>
  cases w1 with
  | cons q2 w2 =>
   cases w2
   obtain ⟨t,rfl⟩:=q1
   obtain ⟨u,rfl⟩:=q2
   exact ⟨t,u,rfl⟩
end
end Dd
namespace Dd
open PySem PySem.Spec PyProof.Rows L2
noncomputable def aJb (t u:DS):DS:=fun D ρ M=>∃ R:cF->DM->Prop,t { D with nx:=R } ρ M/\∀ ρ' M',R ρ' M'->u D ρ' M'
section
variable {X:Cx} {st:Stmt} {cJ:List Stmt} {t u:DS}
theorem aGx (h1:PDS X st t) (h2:iV X cJ u):iV X (st :: cJ) (aJb t u) :=
 aAI (aBj h1 h2) fun E σ H ⟨ρ,M,D,re,hm,⟨R,q,k2⟩,k⟩ =>
  ⟨ρ,M,{ D with nx:=R },re,hm,q,⟨fun σ' H' ⟨ρ',M',re',hm',ex,r⟩=>⟨ρ',M',D,re',hm',k2 ρ' M' r,k.at ex⟩,k.rt,k.bk,k.ct⟩⟩
end
end Dd
namespace Dd
open PySem PySem.Spec PyProof.Rows L2
section
variable {X:Cx} {e:Expr} {es:List Expr} {t:DA} {x f cm:Str} {ps:List Str} {sp:DSp} {cond:List D->DM->Prop} {C Cm:Addr} {k1 k2 k i:Nat} {ts:DS} {b0:Stmt} {suite:List Stmt} {px pf pc pa pcm ph pos:Pos}
end
end Dd
namespace Dd
open PySem PySem.Spec PyProof.Rows L2
@[irreducible] noncomputable def ZE (X:Cx) (e:Expr) (t:DE):Prop:=PDE X e t
theorem ZE.o {X:Cx} {e:Expr} {t:DE} (h:ZE X e t):PDE X e t:=by unfold ZE at h;exact h
theorem ZE.i {X:Cx} {e:Expr} {t:DE} (h:PDE X e t):ZE X e t:=by unfold ZE;exact h
@[irreducible] noncomputable def ZT (X:Cx) (e:Expr) (t:DT):Prop:=PDT X e t
theorem ZT.o {X:Cx} {e:Expr} {t:DT} (h:ZT X e t):PDT X e t:=by unfold ZT at h;exact h
theorem ZT.i {X:Cx} {e:Expr} {t:DT} (h:PDT X e t):ZT X e t:=by unfold ZT;exact h
@[irreducible] noncomputable def ZW (X:Cx) (e:Expr) (t:DT):Prop:=PDW X e t
theorem ZW.o {X:Cx} {e:Expr} {t:DT} (h:ZW X e t):PDW X e t:=by unfold ZW at h;exact h
theorem ZW.i {X:Cx} {e:Expr} {t:DT} (h:PDW X e t):ZW X e t:=by unfold ZW;exact h
@[irreducible] noncomputable def ZA (X:Cx) (e:List Expr) (t:DA):Prop:=PDA X e t
theorem ZA.o {X:Cx} {e:List Expr} {t:DA} (h:ZA X e t):PDA X e t:=by unfold ZA at h;exact h
theorem ZA.i {X:Cx} {e:List Expr} {t:DA} (h:PDA X e t):ZA X e t:=by unfold ZA;exact h
@[irreducible] noncomputable def ZS (X:Cx) (e:Stmt) (t:DS):Prop:=PDS X e t
theorem ZS.o {X:Cx} {e:Stmt} {t:DS} (h:ZS X e t):PDS X e t:=by unfold ZS at h;exact h
theorem ZS.i {X:Cx} {e:Stmt} {t:DS} (h:PDS X e t):ZS X e t:=by unfold ZS;exact h
@[irreducible] noncomputable def ZSs (X:Cx) (e:List Stmt) (t:DS):Prop:=iV X e t
theorem ZSs.o {X:Cx} {e:List Stmt} {t:DS} (h:ZSs X e t):iV X e t:=by unfold ZSs at h;exact h
theorem ZSs.i {X:Cx} {e:List Stmt} {t:DS} (h:iV X e t):ZSs X e t:=by unfold ZSs;exact h
@[irreducible] noncomputable def ZG (X:Cx) (e:Expr) (t:DG):Prop:=PDG X e t
theorem ZG.o {X:Cx} {e:Expr} {t:DG} (h:ZG X e t):PDG X e t:=by unfold ZG at h;exact h
theorem ZG.i {X:Cx} {e:Expr} {t:DG} (h:PDG X e t):ZG X e t:=by unfold ZG;exact h
@[irreducible] noncomputable def ZGs (X:Cx) (e:List Expr) (t:DGs):Prop:=aBb X e t
theorem ZGs.o {X:Cx} {e:List Expr} {t:DGs} (h:ZGs X e t):aBb X e t:=by unfold ZGs at h;exact h
theorem ZGs.i {X:Cx} {e:List Expr} {t:DGs} (h:aBb X e t):ZGs X e t:=by unfold ZGs;exact h
@[irreducible] noncomputable def ZO (X:Cx) (e:Option Expr) (t:DO):Prop:=PO X e (aAd X.K t)
theorem ZO.o {X:Cx} {e:Option Expr} {t:DO} (h:ZO X e t):PO X e (aAd X.K t):=by unfold ZO at h;exact h
theorem ZO.i {X:Cx} {e:Option Expr} {t:DO} (h:PO X e (aAd X.K t)):ZO X e t:=by unfold ZO;exact h
section
variable {K:PySem.W.Frag} {H H':Hp}
end
section
variable {K:PySem.W.Frag} {H H':Hp} {M M':DM}
end
section
variable {K:PySem.W.Frag} {H H':Hp} {ρ:cF} {σ:L2.St}
end
section
variable {K:PySem.W.Frag} {H H1:Hp}
end
section
variable {X:Cx} {e:Expr} {st:Stmt} {sts:List Stmt}
end
section
variable {X:Cx} {a b c e:Expr} {es:List Expr} {ta tb tc te:DE} {tA tB:DT} {t:DA} {pos:Pos}
theorem aB (i:Nat) {x:Str} {pos:Pos} (hN:X.N[i]? = some x:=by rfl) (hv:Vis X.env.scope x:=by first | exact Or.inl rfl | exact Or.inr (Or.inl rfl) | exact Or.inr (Or.inr rfl)) (hd:(x == ("__debug__":Str)) = false:=by decide) (hcd:(x == ("__classdict__":Str)) = false:=by decide):ZE X (.Name x pos) (aAE i):=.i (aID i hN hv hd hcd)
theorem aC {i j pos}:ZE X (.Constant (.int i) j pos) (dC (.int i)):=.i (aH9 (i:=i) (j:=j) (pos:=pos))
theorem uT {i j pos}:ZE X (.Constant (.bool i) j pos) (dC (.bl i)):=.i (aKD (i:=i) (j:=j) (pos:=pos))
theorem gY {j pos}:ZE X (.Constant .none j pos) (dC .non):=.i (aJp (j:=j) (pos:=pos))
theorem aL {x j pos}:ZE X (.Constant (.str x) j pos) (dC (.str x)):=.i (aJR)
theorem aN {op:Operator} {r:D2} (ho:OpD X (binaryOp op) r) (ha:ZE X a ta) (hb:ZE X b tb):ZE X (.BinOp a op b pos) (dOp r ta tb):=.i (aLz (op:=op) ho ha.o hb.o)
theorem gF {op:CmpOp} {r:D2} (ho:OpD X (compareOp op) r) (ha:ZE X a ta) (hb:ZE X b tb) (hm:behindInMarks op b = false:=by exact zV _):ZE X (.Compare a [op] [b] pos) (dOp r ta tb):=.i (aIx (op:=op) ho ha.o hb.o hm)
theorem aQ {op:CmpOp} {r:D2} (ho:OpD X (compareOp op) r) (ha:ZE X a ta) (hb:ZE X b tb) (hm:behindInMarks op b = false:=by exact zV _):ZT X (.Compare a [op] [b] pos) (yS (dOp r ta tb)):=.i (aHT (op:=op) ho ha.o hb.o hm)
theorem zR (h:ZE X e te) (he:∀ whole,isTrue e X.env whole = (do let v <- whole;standAt e.pos;holding [v] (truthy v)):=by intro _;rfl):ZT X e (yS te):=.i (aIA h.o he)
variable {cJ:List Expr}
theorem kK (ha:ZT X a tA):ZW X (.BoolOp .And [a] pos) tA:=.i (aFS ha.o)
theorem qW (ha:ZT X a tA):ZW X (.BoolOp .Or [a] pos) tA:=.i (aHO ha.o)
theorem lQ (ha:ZT X a tA) (hb:ZW X (.BoolOp .And (b :: cJ) pos) tB):ZW X (.BoolOp .And (a :: b :: cJ) pos) (aJN tA tB):=.i (aJ2 ha.o hb.o)
theorem uJ (ha:ZT X a tA) (hb:ZW X (.BoolOp .Or (b :: cJ) pos) tB):ZW X (.BoolOp .Or (a :: b :: cJ) pos) (dOr tA tB):=.i (aKA ha.o hb.o)
theorem mJ (h:ZW X e tA):ZT X e tA:=.i (aMk h.o)
theorem aCG (ha:ZT X a tA):ZT X (.UnaryOp .Not a pos) (aJT tA):=.i (aH0 ha.o)
theorem uG {op} (h:ZE X a ta):ZE X (.BoolOp op [a] pos) ta:=.i (aH4 (op:=op) h.o)
theorem aAD (ha:ZE X a ta) (hb:ZE X (.BoolOp .And (b :: cJ) pos) tb):ZE X (.BoolOp .And (a :: b :: cJ) pos) (aEY ta tb):=.i (aJV ha.o hb.o)
theorem aI1 (ha:ZE X a ta) (hb:ZE X (.BoolOp .Or (b :: cJ) pos) tb):ZE X (.BoolOp .Or (a :: b :: cJ) pos) (aIf ta tb):=.i (aKO ha.o hb.o)
theorem aCR (ha:ZE X a ta):ZE X (.UnaryOp .Not a pos) (aEq ta):=.i (aI7 ha.o)
theorem iR (hc:ZT X c tA) (ha:ZE X a ta) (hb:ZE X b tb):ZE X (.IfExp c a b pos) (aIN tA ta tb):=.i (aEd hc.o ha.o hb.o)
theorem aD :ZA X [] aBM:=.i (aDU)
theorem aA (ha:ZE X e te) (hr:ZA X es t) (hs:starEach (e :: es) X.env = (false,eval e X.env) :: starEach es X.env:=by rfl):ZA X (e :: es) (aC2 te t):=.i (aCq ha.o hr.o hs)
theorem aI {x1} (h:ZA X es t):ZE X (.Tuple es x1 pos) (aJ6 t):=.i (aIX h.o)
theorem bA (h:ZA X es t):ZE X (.List es pos) (aJG t):=.i (aHR h.o)
end
section
variable {X:Cx} {st:Stmt} {cJ:List Stmt} {t u:DS} {e:Expr} {te:DE} {pos:Pos}
theorem aW :ZSs X [] aFN:=.i (aFV)
theorem aE (h1:ZS X st t) (h2:ZSs X cJ u):ZSs X (st :: cJ) (aJa t u):=.i (aFH h1.o h2.o)
theorem aG (h1:ZS X st t):ZSs X [st] t:=.i (aHh h1.o)
theorem bZ (he:ZE X e te) (hs:swapsWith e none pos.line X.env = pure false:=by rfl):ZS X (.Expr e pos) (aEj te):=.i (aGy he.o hs)
theorem aP (he:ZE X e te):ZS X (.Return (some e) pos) (aJf te):=.i (aIO he.o)
theorem bC {c:Expr} {a b:List Stmt} {tc:DT} (hc:ZT X c tc) (ha:ZSs X a t) (hb:ZSs X b u):ZS X (.If c a b pos) (aHU tc t u):=.i (aKu hc.o ha.o hb.o)
theorem yX :ZS X st uR:=.i (aEv)
theorem wI {sts:List Stmt}:ZSs X sts uR:=.i (aDm)
end
section
variable {X:Cx} {pos:Pos} {e tg:Expr} {es:List Expr} {te:DE}
theorem aR {i:Nat} {x:Str} (hN:X.N.Nodup) (hi:X.N[i]? = some x:=by rfl) (hx:Loc X.env.scope x:=by first | exact Or.inl rfl | exact Or.inr rfl) (hf:X.fn x = true ∨ X.env.scope.names.lookup x = some .local:=by first | exact .inl rfl | exact .inr rfl | assumption):ZG X (.Name x pos) (gN i):=.i (aGE (i:=i) hN hi hx hf)
theorem dO :ZGs X [] gNl:=.i (aHg)
theorem aU {t:DG} {u:DGs} (h1:ZG X e t) (h2:ZGs X es u) (hs:(assignEach (e :: es) X.env).map (·.2) = assign e X.env :: (assignEach es X.env).map (·.2):=by rfl):ZGs X (e :: es) (gCn t u):=.i (aFh h1.o h2.o hs)
theorem eS {g:DG} (he:ZE X e te) (hg:ZG X tg g) (hs:swapsWithSole [tg] e pos.line X.env = pure false:=by rfl) (hw:swappedStores [tg] e X.env = pure none:=by rfl) (h1:(assignEach [tg] X.env).map (·.2) = [assign tg X.env]:=by rfl):ZS X (.Assign [tg] e pos) (aDw te g):=.i (aJg he.o hg.o hs hw h1)
theorem aM {i:Nat} {x:Str} {pos':Pos} (hN:X.N.Nodup) (he:ZE X e te) (hi:X.N[i]? = some x:=by rfl) (hx:Loc X.env.scope x:=by first | exact Or.inl rfl | exact Or.inr rfl) (hs:swapsWith e (some (.Name x pos')) pos.line X.env = pure false:=by rfl) (hf:X.fn x = true ∨ X.env.scope.names.lookup x = some .local:=by first | exact .inl rfl | exact .inr rfl | assumption):ZS X (.Assign [.Name x pos'] e pos) (aDw te (gN i)):=.i (aIG (i:=i) hN he.o hi hx hs hf)
theorem oO {i j:Nat} {x y:Str} {a b:Expr} {ta:DA} {px py pt:Pos} {kt k2 pt2} (hc:X.calm = true) (hN:X.N.Nodup) (ha:ZA X [a,b] ta) (hi:X.N[i]? = some x:=by rfl) (hj:X.N[j]? = some y:=by rfl) (hij:i ≠ j:=by decide) (hx:X.env.scope.names.lookup x = some .local:=by rfl) (hy:X.env.scope.names.lookup y = some .local:=by rfl) (hw:swappedStores [.Tuple [.Name x px,.Name y py] kt pt] (.Tuple [a,b] k2 pt2) X.env = pure (some [x,y]):=by rfl) (hs:swapsWithSole [.Tuple [.Name x px,.Name y py] kt pt] (.Tuple [a,b] k2 pt2) pos.line X.env = pure false:=by rfl):ZS X (.Assign [.Tuple [.Name x px,.Name y py] kt pt] (.Tuple [a,b] k2 pt2) pos) (aIh i j ta):=.i (aIa (i:=i) (j:=j) hc hN ha.o hi hj hij hx hy hw hs)
end
section
variable {X:Cx} {pos:Pos}
theorem kQ {c:Expr} {body:List Stmt} {tc:DT} {tb:DS} (hp:PassesOwn (model X.prog X.w) X.A X.env X.xe) (hc:ZT X c tc) (hb:ZSs X body tb):ZS X (.While c body [] pos) (aB9 tc tb):=.i (aDV hp hc.o hb.o)
variable {iter tg:Expr} {body:List Stmt} {tl:DE} {g:DG} {tb:DS}
end
section
variable {X:Cx} {pos:Pos} {iter tg:Expr} {body:List Stmt} {tl:DE} {g:DG} {tb:DS} {ta:DA}
theorem vC (hp:PassesOwn (model X.prog X.w) X.A X.env X.xe) (hc:X.calm = true) (hi:ZE X iter tl) (hg:ZG X tg g) (hb:ZSs X body tb) (hs:∀ x,foldedSetIterable iter X.env x = pure x:=by intro _;rfl):ZS X (.For tg iter body [] pos) (aBx tl g tb):=.i (aCn hp hc hi.o hg.o hb.o hs)
theorem qL (hp:PassesOwn (model X.prog X.w) X.A X.env X.xe) (hc:X.calm = true) (hi:ZE X iter tl) (hg:ZG X tg g) (hb:ZSs X body tb) (hs:∀ x,foldedSetIterable iter X.env x = pure x:=by intro _;rfl):ZS X (.For tg iter body [] pos) (aBk tl g tb):=.i (aCM hp hc hi.o hg.o hb.o hs)
theorem qO {a:Expr} {p pos':Pos} (hp:PassesOwn (model X.prog X.w) X.A X.env X.xe) (hc:X.calm = true) (hmg:X.mg "range" = none) (ha:ZA X [a] ta) (hg:ZG X tg g) (hb:ZSs X body tb) (hgl:Gl X "range":=by rfl) (hse:starEach [a] X.env = [(false,eval a X.env)]:=by rfl) (hs:∀ x,foldedSetIterable (.Call (.Name "range" p) [a] [] pos') X.env x = pure x:=by intro _;rfl):ZS X (.For tg (.Call (.Name "range" p) [a] [] pos') body [] pos) (aD6 ta g tb):=.i (aGX hp hc hmg ha.o hg.o hb.o hgl hse hs)
end
section
variable {X:Cx} {pins:List (Addr × Obj)} {σ:L2.St} {H:Hp} {s:Shared}
end
section
variable {X:Cx} {a b e o:Expr} {es:List Expr} {ta tb te to:DE} {t:DA} {pos:Pos}
theorem cQ (ha:ZE X a ta):ZE X (.UnaryOp .USub a pos) (aJZ ta):=.i (aJY ha.o)
theorem aH (ha:ZE X a ta) (hb:ZE X b tb) (hs:lZ b:=by exact fun _ _=>rfl):ZE X (.Subscript a b pos) (dOp jS ta tb):=.i (aKW ha.o hb.o hs)
theorem nZ :ZO X none aI5:=.i (aGf)
theorem dH (h:ZE X e te):ZO X (some e) (dPt te):=.i (aHe h.o)
variable {lo hi:Option Expr} {tl th:DO} {p2:Pos}
theorem zD (he:ZE X e te) (hl:ZO X lo tl) (hu:ZO X hi th):ZE X (.Subscript e (.Slice lo hi none p2) pos) (dSl te tl th):=.i (aFO he.o hl.o hu.o)
variable {CX:CXT} {k:Nat} {f:Addr} {fd:FuncData} {ps:List Str} {sp:DSp} {E:XK} {x:Str} {p:Pos}
theorem eC {id:String} {r:DSp} (hc:gI X (.builtin id) r) (hm:X.mg x = none) (ha:ZA X (e :: es) t) (hv:bootBuiltins x = some (.builtin id):=by rfl) (hg:Gl X x:=by rfl) (hn:x ≠ "__name__":=by decide) (hdb:(x == ("__debug__":Str)) = false:=by decide) (he:starEach (e :: es) X.env = (false,eval e X.env) :: starEach es X.env:=by rfl) (hpl:(backTo pos (starEach es X.env)).any (·.1) = false:=by rfl):ZE X (.Call (.Name x p) (e :: es) [] pos) (mE r t):=.i (aFu (id:=id) hc hm ha.o hv hg hn hdb he hpl)
theorem cU {T:String} {r:DSp} (hc:gI X (.type T) r) (hm:X.mg x = none) (ha:ZA X (e :: es) t) (hv:bootBuiltins x = some (.type T):=by rfl) (hg:Gl X x:=by rfl) (hn:x ≠ "__name__":=by decide) (hdb:(x == ("__debug__":Str)) = false:=by decide) (he:starEach (e :: es) X.env = (false,eval e X.env) :: starEach es X.env:=by rfl) (hpl:(backTo pos (starEach es X.env)).any (·.1) = false:=by rfl):ZE X (.Call (.Name x p) (e :: es) [] pos) (mE r t):=.i (aDh (T:=T) hc hm ha.o hv hg hn hdb he hpl)
end
section
variable {X:Cx} {a b e o:Expr} {es:List Expr} {ta tb te to:DE} {t:DA} {pos:Pos}
theorem cG {apos cpos:Pos} (ho:ZE X o to) (he:ZE X e te) (hse:starEach [e] X.env = (false,eval e X.env) :: starEach [] X.env:=by rfl) (hbase:attributeBase o "append" X.env (eval o X.env) = eval o X.env:=by rfl) (hfew:((backTo cpos (starEach [e] X.env)).all (fun x=>!x.1) && (backToKw cpos (keywordEach [] X.env)).all (fun x=>x.1.isSome)
   && decide ([e].length + ([]:List Keyword).length + (if ([]:List Keyword).isEmpty then 0 else 1) < 30)) = true:=by rfl) (hline:(apos.endLine == cpos.line) = true:=by rfl) (hplain:(backTo cpos (starEach [] X.env)).any (·.1) = false:=by rfl):ZE X (.Call (.Attribute o "append" apos) [e] [] cpos) (aAz to te):=.i (aDF ho.o he.o hse hbase hfew hline hplain)
theorem aAX {T:String} {x:Str} {p p2:Pos} (he:ZE X e te) (hm:X.mg "isinstance" = none) (hmx:X.mg x = none) (hv:bootBuiltins x = some (.type T):=by rfl) (hg:Gl X "isinstance":=by rfl) (hgx:Gl X x:=by rfl) (hn:x ≠ "__name__":=by decide) (hdb:(x == ("__debug__":Str)) = false:=by decide) (hse:starEach [e,.Name x p2] X.env = (false,eval e X.env) :: starEach [.Name x p2] X.env:=by rfl) (hse2:starEach [.Name x p2] X.env = (false,eval (.Name x p2) X.env) :: starEach [] X.env:=by rfl) (hpl:(backTo pos (starEach [.Name x p2] X.env)).any (·.1) = false:=by rfl):ZE X (.Call (.Name "isinstance" p) [e,.Name x p2] [] pos) (dIs X.K (.type T) te):=.i (aHl (T:=T) he.o hm hmx hv hg hgx hn hdb hse hse2 hpl)
end
section
variable {P:Program} {w:World} {K:PySem.W.Frag} {mg:Str->Option Value} {base:Heap}
end
section
variable {P:Program} {w:World} {K:PySem.W.Frag} {mg:Str->Option Value} {base:Heap}
end
section
variable {X:Cx} {a b c e:Expr} {es:List Expr} {ta tb te:DE} {t:DA} {pos p:Pos} {x:Str} {ps:List Str} {sp:DSp} {k j:Nat}
theorem aF (h:Has X.prog X.w X.K X.mg X.base k x ps sp) (hr:eB j X.A) (hkj:k<=j) (ha:ZA X (e :: es) t) (hg:Gl X x:=by rfl) (hdb:(x == ("__debug__":Str)) = false:=by decide) (he:starEach (e :: es) X.env = (false,eval e X.env) :: starEach es X.env:=by rfl) (hpl:(backTo pos (starEach es X.env)).any (·.1) = false:=by rfl):ZE X (.Call (.Name x p) (e :: es) [] pos) (mE sp t):=.i (aD5 h hr hkj ha.o hg hdb he hpl)
theorem lS (h:Has X.prog X.w X.K X.mg X.base k x ps sp) (hr:eB j X.A) (hkj:k<=j) (hg:Gl X x:=by rfl) (hdb:(x == ("__debug__":Str)) = false:=by decide):ZE X (.Call (.Name x p) [] [] pos) (mE sp aBM):=.i (aDu h hr hkj hg hdb)
theorem bJ {d:D} (h:gH X.K X.mg x d) (hg:Gl X x:=by rfl) (hd:(x == ("__debug__":Str)) = false:=by decide):ZE X (.Name x pos) (dC d):=.i (aFG h hg hd)
theorem rD {i:Nat} {op:Operator} {g:Int->Int->Int} {pos':Pos} (ho:PIp X op (ipI g)) (hN:X.N.Nodup) (he:ZE X e te) (hi:X.N[i]? = some x:=by rfl) (hx:Loc X.env.scope x:=by first | exact Or.inl rfl | exact Or.inr rfl) (hf:X.fn x = true ∨ X.env.scope.names.lookup x = some .local:=by first | exact .inl rfl | exact .inr rfl | assumption):ZS X (.AugAssign (.Name x pos') op e pos) (aHo i te g):=.i (aF5 (i:=i) (op:=op) ho hN he.o hi hx hf)
end
section
variable {prog:Program} {w:World} {A:Around} {E:Value->Shared->Prop} {s:Shared}
end
section
variable {X:Cx} {pos:Pos} {e a b:Expr} {es:List Expr} {te ta tb:DE}
theorem eQ {k:Nat} {t:DGs} {n:Nat} (hc:X.calm = true) (h:ZGs X es t) (hn:(assignEach es X.env).length = n:=by rfl) (hst:(assignEach es X.env).findIdx? (·.1) = none:=by rfl):ZG X (.Tuple es k pos) (gU n t):=.i (aI0 (n:=n) hc h.o hn hst)
end
section
variable {M:DM} {Q:DQ} {g:Bool->Bool} {ds:List D} {i:Int} {a:Addr} {α:Type} {x0 x1 x2 x3 x4 x5:α} {l:List α}
end
section
variable {K:PySem.W.Frag} {H:Hp} {ρ:cF} {σ:L2.St}
end
section
variable {X:Cx} {g:DG} {te:DE}
variable {elt iter tg:Expr} {scope:Scope} {pos:Pos} {N':List Str} {fr:List (Option Nat)} {tl:DE} {ta:DA} {oN:List Str} {osc:Scope}
theorem aCO (B:mH oN osc N' fr scope) (hc:X.calm = true) (hi:ZE X iter tl) (hg:∀ C s H fp pins,ZG (X.blk N' scope C s H fp pins) tg g) (he:∀ C s H fp pins,ZE (X.blk N' scope C s H fp pins) elt te) (hN:X.N = oN:=by rfl) (ho:X.env.scope = osc:=by rfl) (hs:∀ x,foldedSetIterable iter X.env x = pure x:=by intro _;rfl):ZE X (.ListComp elt [⟨tg,iter,[],0⟩] scope pos) (aEe tl fr g te):=.i (aKo B hc hi.o (fun C s H fp pins=>(hg C s H fp pins).o) (fun C s H fp pins=>(he C s H fp pins).o) hN ho hs)
theorem zO (B:mH oN osc N' fr scope) (hc:X.calm = true) (hi:ZE X iter tl) (hg:∀ C s H fp pins,ZG (X.blk N' scope C s H fp pins) tg g) (he:∀ C s H fp pins,ZE (X.blk N' scope C s H fp pins) elt te) (hN:X.N = oN:=by rfl) (ho:X.env.scope = osc:=by rfl) (hs:∀ x,foldedSetIterable iter X.env x = pure x:=by intro _;rfl):ZE X (.ListComp elt [⟨tg,iter,[],0⟩] scope pos) (aJA tl fr g te):=.i (aJx B hc hi.o (fun C s H fp pins=>(hg C s H fp pins).o) (fun C s H fp pins=>(he C s H fp pins).o) hN ho hs)
theorem uM {i:Nat} {y:Str} {spos py:Pos} (B:mH oN osc N' fr scope) (hc:X.calm = true) (hNd:X.N.Nodup) (hi:ZE X iter tl) (hg:∀ C s H fp pins,ZG (X.blk N' scope C s H fp pins) tg g) (he:∀ C s H fp pins,ZE (X.blk N' scope C s H fp pins) elt te) (hy:X.N[i]? = some y:=by rfl) (hx:Loc X.env.scope y:=by first | exact Or.inl rfl | exact Or.inr rfl) (hsw:swapsWith (.ListComp elt [⟨tg,iter,[],0⟩] scope pos) (some (.Name y py)) spos.line X.env = pure true:=by rfl) (hf:X.fn y = true ∨ X.env.scope.names.lookup y = some .local:=by first | exact .inl rfl | exact .inr rfl | assumption) (hN:X.N = oN:=by rfl) (ho:X.env.scope = osc:=by rfl) (hs:∀ x,foldedSetIterable iter X.env x = pure x:=by intro _;rfl):ZS X (.Assign [.Name y py] (.ListComp elt [⟨tg,iter,[],0⟩] scope pos) spos) (aBQ i (aEe tl fr g te)):=.i (aDl (i:=i) B hc hNd hi.o (fun C s H fp pins=>(hg C s H fp pins).o) (fun C s H fp pins=>(he C s H fp pins).o) hy hx hsw hf hN ho hs)
end
variable {X:Cx}
section
variable {g:DG} {te:DE} {tb:DS} {Q:DQ} {ρ0:cF}
end
section
variable {e:Expr} {te:DE} {pos:Pos}
end
section
variable {X:Cx} {e:Expr} {te:DE} {pos p2:Pos} {lo hi:Option Expr} {tl th:DO}
end
section
variable {X:Cx} {a n:Expr} {ta:DE} {tn:DA} {pos p pos':Pos}
end
section
variable {X:Cx} {a b c e o:Expr} {es:List Expr} {ta tb tc te to:DE} {pos:Pos}
end
section
variable {X:Cx} {e k:Expr} {te tk:DE} {pos p2:Pos}
end
section
variable {X:Cx} {pos:Pos} {iter tg:Expr} {body:List Stmt} {tl:DE} {g:DG} {tb:DS} {ta:DA}
end
section
variable {X:Cx} {x:Str} {V:DM->Prop} {e:Expr} {es:List Expr} {t:DA} {np cpos pos:Pos}
theorem aDn (R:rH X x V) (ha:ZA X (e :: es) t) (hg:Gl X x:=by rfl) (hd:(x == ("__debug__":Str)) = false:=by decide) (he:starEach (e :: es) X.env = (false,eval e X.env) :: starEach es X.env:=by rfl) (hpl:(backTo cpos (starEach es X.env)).any (·.1) = false:=by rfl):ZS X (.Raise (some (.Call (.Name x np) (e :: es) [] cpos)) none pos) (aBT V t):=.i (aDX R ha.o hg hd he hpl)
end
section
variable {P:Program} {w:World} {K:PySem.W.Frag} {mg:Str->Option Value} {base:Heap}
end
section
variable {X:Cx} {pins:List (Addr × Obj)} {σ:L2.St} {H:Hp} {s:Shared} {a:Addr} {o:Obj}
end
section
variable {X:Cx} {a:Expr} {e:Expr} {es:List Expr} {t:DA} {x f n cm:Str} {ps:List Str} {sp:DSp} {cond:List D->DM->Prop} {C Cm:Addr} {k1 k2 k i j:Nat} {ts:Addr->DS} {b0:Stmt} {suite:List Stmt} {px pf pc pa pcm ph pos:Pos}
theorem aFs (hH:iF X.prog X.w X.K X.mg X.base k1 f ps C cond) (hh:Has X.prog X.w X.K X.mg X.base k2 f ps sp) (hr:eB k X.A) (hk1:k1<=k) (hk2:k2<=k) (hN:X.N.Nodup) (hcm:wS X.K X.mg cm Cm) (hmt:PySem.W.exmOne X.K (.ref C) (.ref Cm) = some true) (ha:ZA X (e :: es) t) (hsu:∀ a o,ExO o C->ZSs (Exc X a o) (b0 :: suite) (ts a)) (hj:X.N[j]? = some n:=by rfl) (hnl:X.env.scope.names.lookup n = some .local:=by rfl) (hs:X.stack = X.env :: X.outer:=by rfl) (hf:X.env.frame = some X.env.locals:=by rfl) (hex:X.ex = []:=by rfl) (hX:∀ e s,X.xe e s->False:=by exact fun _ _ z=>z) (hgc:Gl X cm:=by rfl) (hdc:(cm == ("__debug__":Str)) = false:=by decide) (hg:Gl X f:=by rfl) (hdb:(f == ("__debug__":Str)) = false:=by decide) (he:starEach (e :: es) X.env = (false,eval e X.env) :: starEach es X.env:=by rfl) (hpl:(backTo pc (starEach es X.env)).any (·.1) = false:=by rfl) (hsw:swapsWith (.Call (.Name f pf) (e :: es) [] pc) none pa.line X.env = pure false:=by rfl):ZS X (.Try [.Expr (.Call (.Name f pf) (e :: es) [] pc) pa] [.ExceptHandler (some (.Name cm pcm)) (some n) (b0 :: suite) ph] [] [] pos) (aIv sp cond j t (fun D _ ρ M=>D.nx ρ M) ts):=.i (aG2 hH hh hr hk1 hk2 hN hcm hmt ha.o (fun a o h=>(hsu a o h).o) hj hnl hs hf hex hX hgc hdc hg hdb he hpl hsw)
end
section
end
section
variable {X:Cx} {n c:Str} {C Cc a:Addr} {o:Obj} {p p1 p2 pos:Pos} {j:Nat}
theorem aG9 (ho:ExO o C) (hcc:wS X.K X.mg c Cc) (hki:PySem.W.kitOne X.K (.ref C) (.ref Cc) = some true) (hmi:X.mg "isinstance" = none) (hj:X.N[j]? = some n:=by rfl) (hnl:Vis X.env.scope n:=by first | exact Or.inl rfl | exact Or.inr (Or.inl rfl) | exact Or.inr (Or.inr rfl)) (hgi:Gl X "isinstance":=by rfl) (hgc:Gl X c:=by rfl) (hd1:(n == ("__debug__":Str)) = false:=by decide) (hd2:(n == ("__classdict__":Str)) = false:=by decide) (hd3:(c == ("__debug__":Str)) = false:=by decide) (hs:∀ env:Env,starEach [.Name n p1,.Name c p2] env = (false,eval (.Name n p1) env) :: starEach [.Name c p2] env:=by intro _;rfl) (hs2:∀ env:Env,starEach [.Name c p2] env = (false,eval (.Name c p2) env) :: starEach [] env:=by intro _;rfl) (hpl:(backTo pos (starEach [.Name c p2] X.env)).any (·.1) = false:=by rfl):ZE (Exc X a o) (.Call (.Name "isinstance" p) [.Name n p1,.Name c p2] [] pos) (aE4 j a):=.i (aKj ho hcc hki hmi hj hnl hgi hgc hd1 hd2 hd3 hs hs2 hpl)
theorem aER {T:String} (ho:ExO o C) (hki:PySem.W.kitOne X.K (.ref C) (.type T) = some true) (hmi:X.mg "isinstance" = none) (hmc:X.mg c = none) (hv:bootBuiltins c = some (.type T):=by rfl) (hj:X.N[j]? = some n:=by rfl) (hnl:Vis X.env.scope n:=by first | exact Or.inl rfl | exact Or.inr (Or.inl rfl) | exact Or.inr (Or.inr rfl)) (hgi:Gl X "isinstance":=by rfl) (hgc:Gl X c:=by rfl) (hnn:c ≠ "__name__":=by decide) (hd1:(n == ("__debug__":Str)) = false:=by decide) (hd2:(n == ("__classdict__":Str)) = false:=by decide) (hd3:(c == ("__debug__":Str)) = false:=by decide) (hs:∀ env:Env,starEach [.Name n p1,.Name c p2] env = (false,eval (.Name n p1) env) :: starEach [.Name c p2] env:=by intro _;rfl) (hs2:∀ env:Env,starEach [.Name c p2] env = (false,eval (.Name c p2) env) :: starEach [] env:=by intro _;rfl) (hpl:(backTo pos (starEach [.Name c p2] X.env)).any (·.1) = false:=by rfl):ZE (Exc X a o) (.Call (.Name "isinstance" p) [.Name n p1,.Name c p2] [] pos) (aE4 j a):=.i (aGU (T:=T) ho hki hmi hmc hv hj hnl hgi hgc hnn hd1 hd2 hd3 hs hs2 hpl)
end
section
variable {prog:Program} {w:World} {A:Around} {E:Value->Shared->Prop} {s:Shared} {K:Frag} {x C D:Addr} {ox:Obj}
end
section
variable {X:Cx} {a C:Addr} {o:Obj}
end
section
end
section
variable {X:Cx} {j:Nat}
end
section
variable {X:Cx} {st:Stmt} {cJ:List Stmt} {t u:DS}
theorem kM (h1:ZS X st t) (h2:ZSs X cJ u):ZSs X (st :: cJ) (aJb t u):=.i (aGx h1.o h2.o)
end
section
variable {X:Cx} {e:Expr} {es:List Expr} {t:DA} {x f cm:Str} {ps:List Str} {sp:DSp} {cond:List D->DM->Prop} {C Cm:Addr} {k1 k2 k i:Nat} {ts:DS} {b0:Stmt} {suite:List Stmt} {px pf pc pa pcm ph pos:Pos}
end
section
variable {P:Program} {w:World} {K:PySem.W.Frag} {mg:Str->Option Value} {base:Heap}
theorem Fun.okZ {x qual:Str} {st:Stmt} {f:Addr} {fd:FuncData} {N ps:List Str} {k:Nat} {sp:DSp} (F:L2.Fun K x qual st f fd) (S:aS N ps (aK st)) (len:∀ ds M Q,sp ds M Q->ds.length = ps.length)
  (hbody:∀ (cdv:Value) (A:Around) (outer:List Env) (s:Shared) (H:Hp) (ds:List D) (M:DM) (Q:DQ) (E:XK),eB k (A.deeper (envOfC qual (aK st) s.heap.objs.size f cdv))->sp ds M Q ->
   ∃ t,ZSs (kA CX0 P w K mg base N qual (aK st) f cdv A outer s H E).nox (eK st) t/\t { nx:=fun _ M'=>Dn Q .non M',rt:=Dn Q } (gA N ds) M):jH P w K mg base CX0 (k + 1) f fd ps (qS K sp) :=
 Fun.okD F S len fun cdv A outer s H ds M Q E hr h=>let ⟨t,h1,h2⟩:=hbody cdv A outer s H ds M Q E hr h;⟨t,h1.o,h2⟩
theorem Has.mkZ {x:Str} {st:Stmt} {N ps:List Str} {k:Nat} {sp:DSp} (h:cA K mg x st ps) (S:aS N ps (aK st)) (len:∀ ds M Q,sp ds M Q->ds.length = ps.length)
  (hbody:∀ (f:Addr) (cdv:Value) (A:Around) (outer:List Env) (s:Shared) (H:Hp) (ds:List D) (M:DM) (Q:DQ) (E:XK),eB k (A.deeper (envOfC x (aK st) s.heap.objs.size f cdv))->sp ds M Q ->
   ∃ t,ZSs (kA CX0 P w K mg base N x (aK st) f cdv A outer s H E).nox (eK st) t/\t { nx:=fun _ M'=>Dn Q .non M',rt:=Dn Q } (gA N ds) M):Has P w K mg base (k + 1) x ps sp :=
 Has.mk h S len fun f cdv A outer s H ds M Q E hr h=>let ⟨t,h1,h2⟩:=hbody f cdv A outer s H ds M Q E hr h;⟨t,h1.o,h2⟩
end
section
variable {P:Program} {w:World} {K:PySem.W.Frag} {mg:Str->Option Value} {base:Heap}
end
end Dd
namespace Mz
open PySem
noncomputable def Bd (n:Nat) (x:Int):Prop:=x.natAbs < 2 ^ n
theorem Bd.mono {m n:Nat} {x:Int} (h:Bd m x) (l:m<=n):Bd n x:=Nat.lt_of_lt_of_le h (Nat.pow_le_pow_right (by decide) l)
theorem Bd.neg {n:Nat} {x:Int} (h:Bd n x):Bd n (-x):=by unfold Bd at *;rw [Int.natAbs_neg];exact h
theorem Bd.add {m:Nat} {x y:Int} (h:Bd m x) (h2:Bd m y):Bd (m + 1) (x + y):=by
 unfold Bd at *
 have:=Int.natAbs_add_le x y
 rw [Nat.pow_succ]
 omega
theorem Bd.sub {m:Nat} {x y:Int} (h:Bd m x) (h2:Bd m y):Bd (m + 1) (x - y):=by
 rw [Int.sub_eq_add_neg];exact h.add h2.neg
theorem Bd.mul {m n:Nat} {x y:Int} (h:Bd m x) (h2:Bd n y):Bd (m + n) (x * y):=by
 unfold Bd at *
 rw [Int.natAbs_mul,Nat.pow_add]
 exact Nat.mul_lt_mul'' h h2
theorem Bd.of {n:Nat} {x:Int} (h1:-(2 ^ n:Nat) < x) (h2:x < (2 ^ n:Nat)):Bd n x:=by unfold Bd;omega
theorem Bd.log {n:Nat} {x:Int} (h:Bd n x) (h0:0 < n):x.natAbs.log2 < n:=by
 rcases Nat.eq_zero_or_pos x.natAbs with e | e
 ·rw [e];simpa using h0
 ·exact (Nat.log2_lt (Nat.ne_of_gt e)).mpr h
theorem Bd.bits {n:Nat} {x:Int} (h:Bd n x):Builtin.Int.intBits x<=n + 1:=by
 unfold Builtin.Int.intBits
 split
 ·exact Nat.zero_le _
 ·rcases Nat.eq_zero_or_pos n with e | e
  ·subst e
   have:x.natAbs < 1:=h
   have:x.natAbs = 0:=by omega
   rw [this];decide
  ·have:=h.log e
   omega
theorem hJ {m n:Nat} {x y:Int} (h:Bd m x) (h2:Bd n y) (l:m + n<=100000000:=by decide):IntMulOk x y:=IntMulOk.of_le h.bits h2.bits (by omega)
theorem eX {x y:Int} (h:Bd 63 x):IntMulOk x y:=IntMulOk.of_left (by have:=h.bits;omega)
theorem pQ {x y:Int} (h:Bd 63 y):IntMulOk x y:=IntMulOk.of_right (by have:=h.bits;omega)
theorem aCZ {a b:Int} (h:b ≠ 0):(a.fmod b).natAbs < b.natAbs:=by
 rcases Int.lt_or_lt_of_ne h with hb | hb
 ·have e:=Int.fmod_eq_emod (a:=a) (b:=b)
  have h1:=Int.emod_nonneg a h
  have h2:=Int.emod_lt_of_neg a hb
  by_cases hd:b ∣ a
  ·rw [if_pos (.inr hd)] at e
   have:=Int.emod_eq_zero_of_dvd hd
   omega
  ·rw [if_neg (by omega)] at e
   have h3:a % b ≠ 0:=fun z=>hd (Int.dvd_of_emod_eq_zero z)
   omega
 ·have h1:=Int.fmod_nonneg_of_pos a hb
  have h2:=Int.fmod_lt_of_pos a hb
  omega
theorem aBE (a b:Int):Int.gcd b (a.fmod b) = Int.gcd a b:=by
 rw [Int.fmod_def,Int.mul_comm b,Int.gcd_sub_mul_right_right,Int.gcd_comm]
noncomputable def sg (t b:Int):Int:=if b < 0 then -(Int.gcd t b:Int) else (Int.gcd t b:Int)
noncomputable def fT (t b:Int):Int:=t.fdiv (sg t b)
noncomputable def fB (t b:Int):Int:=b.fdiv (sg t b)
theorem jI {t b:Int} (h:b ≠ 0):0 < Int.gcd t b:=Nat.pos_of_ne_zero fun z=>h (Int.gcd_eq_zero_iff.mp z).2
theorem aLM {t b:Int} (h:b ≠ 0):sg t b ≠ 0:=by
 have:=jI (t:=t) h
 unfold sg;split<;>omega
theorem mV (t b:Int):sg t b ∣ t:=by
 have h:=Int.gcd_dvd_left t b
 unfold sg
 split
 ·exact Int.neg_dvd.mpr h
 ·exact h
theorem nH (t b:Int):sg t b ∣ b:=by
 have h:=Int.gcd_dvd_right t b
 unfold sg
 split
 ·exact Int.neg_dvd.mpr h
 ·exact h
theorem aJU {t b:Int} (h:b ≠ 0):fT t b * sg t b = t:=by
 unfold fT;rw [Int.fdiv_eq_ediv_of_dvd (mV t b)];exact Int.ediv_mul_cancel (mV t b)
theorem aEk {t b:Int} (h:b ≠ 0):fB t b * sg t b = b:=by
 unfold fB;rw [Int.fdiv_eq_ediv_of_dvd (nH t b)];exact Int.ediv_mul_cancel (nH t b)
theorem aKn {t b:Int} (h:b ≠ 0):0 < fB t b:=by
 have e:=aEk (t:=t) h
 have hg:=jI (t:=t) h
 rcases Int.lt_trichotomy (fB t b) 0 with z | z | z
 ·exfalso
  unfold sg at e
  split at e
  ·rename_i hb
   have:=Int.mul_pos_of_neg_of_neg z (show -(Int.gcd t b:Int) < 0 by omega)
   omega
  ·rename_i hb
   have:=Int.mul_neg_of_neg_of_pos z (show 0 < (Int.gcd t b:Int) by omega)
   omega
 ·rw [z] at e;omega
 ·exact z
theorem aJM {t b:Int} (h:b ≠ 0):fT t b * b = fB t b * t:=by
 have e1:=aJU (t:=t) h
 have e2:=aEk (t:=t) h
 have:fT t b * (fB t b * sg t b) = fB t b * (fT t b * sg t b):=by grind
 rw [e1,e2] at this
 exact this
theorem zG (t b:Int):(sg t b).natAbs = Int.gcd t b:=by unfold sg;split<;>simp
theorem aMe {t b:Int} (h:b ≠ 0):Int.gcd (fT t b) (fB t b) = 1:=by
 unfold fT fB
 rw [Int.fdiv_eq_ediv_of_dvd (mV t b),Int.fdiv_eq_ediv_of_dvd (nH t b),Int.gcd_ediv (mV t b) (nH t b),zG]
 exact Nat.div_self (jI h)
theorem Bd.fT {n:Nat} {t b:Int} (h:Bd n t):Bd n (fT t b):=by
 unfold Bd at *;unfold Mz.fT;rw [Int.fdiv_eq_ediv_of_dvd (mV t b)]
 exact Nat.lt_of_le_of_lt (Int.natAbs_ediv_le_natAbs _ _) h
theorem Bd.fB {n:Nat} {t b:Int} (h:Bd n b):Bd n (fB t b):=by
 unfold Bd at *;unfold Mz.fB;rw [Int.fdiv_eq_ediv_of_dvd (nH t b)]
 exact Nat.lt_of_le_of_lt (Int.natAbs_ediv_le_natAbs _ _) h
theorem Bd.sg {n:Nat} {t b:Int} (h:Bd n b) (h0:b ≠ 0):Bd n (sg t b):=by
 unfold Bd at *
 rw [zG]
 have:=Nat.le_of_dvd (by omega) (Int.natAbs_dvd_natAbs.mpr (Int.gcd_dvd_right t b))
 simp at this
 omega
theorem pL {a b c:Int} (h:b ∣ a * c) (g:Int.gcd b a = 1):b ∣ c:=by
 have h':b.natAbs ∣ a.natAbs * c.natAbs:=by rw [<- Int.natAbs_mul];exact Int.natAbs_dvd_natAbs.mpr h
 exact Int.natAbs_dvd_natAbs.mp (Nat.Coprime.dvd_of_dvd_mul_left g h')
theorem oV {t b t' b':Int} (h:0 < b) (h':0 < b') (g:Int.gcd t b = 1) (g':Int.gcd t' b' = 1) (e:t * b' = t' * b):t = t'/\b = b':=by
 have d1:b ∣ b':=by
  have:b ∣ t * b':=⟨t',by rw [e];exact Int.mul_comm _ _⟩
  exact pL this (by rw [Int.gcd_comm];exact g)
 have d2:b' ∣ b:=by
  have:b' ∣ t' * b:=⟨t,by rw [<- e];exact Int.mul_comm _ _⟩
  exact pL this (by rw [Int.gcd_comm];exact g')
 have e1:b = b':=Int.le_antisymm (Int.le_of_dvd h' d1) (Int.le_of_dvd h d2)
 subst e1
 exact ⟨Int.eq_of_mul_eq_mul_right (by omega) e,rfl⟩
end Mz
namespace Mz
open PySem
theorem den_pos (q:Rat):(0:Int) < (q.den:Int):=by have:=q.den_pos;omega
theorem eP (q:Rat):(q.den:Int) ≠ 0:=by have:=q.den_pos;omega
theorem vE (q:Rat):((q.den:Int):Rat) ≠ 0:=by
 intro h
 have:(q.den:Int) = 0:=by exact_mod_cast h
 exact eP q this
theorem aFW (q:Rat):(q.num:Rat) / ((q.den:Int):Rat) = q:=by
 have h:=Rat.num_divInt_den q
 rw [Rat.divInt_eq_div] at h
 exact h
theorem fM (q:Rat):(q.num:Rat) = q * ((q.den:Int):Rat):=by
 have h:=aFW q
 have h2:=vE q
 grind
theorem aDf {t b:Int} (h:b ≠ 0):fT t b = ((t:Rat) / (b:Rat)).num/\fB t b = ((((t:Rat) / (b:Rat)).den:Nat):Int):=by
 have hb:(b:Rat) ≠ 0:=by exact_mod_cast h
 refine oV (aKn h) (den_pos _) (aMe h) ?_ ?_
 ·have:=((t:Rat) / (b:Rat)).reduced
  unfold Nat.Coprime at this
  rw [<- this]
  rfl
 ·have e1:=aJM (t:=t) h
  have e2:=fM ((t:Rat) / (b:Rat))
  have e3:((fT t b:Int):Rat) * b = (fB t b:Int) * (t:Rat):=by rw [<- Rat.intCast_mul,<- Rat.intCast_mul,e1]
  have e4:((fT t b:Int):Rat) * ((((t:Rat) / (b:Rat)).den:Int):Rat) = ((((t:Rat) / (b:Rat)).num:Int):Rat) * (fB t b:Int):=by
   rw [e2]
   grind
  rw [<- Rat.intCast_mul,<- Rat.intCast_mul] at e4
  exact Rat.intCast_inj.mp e4
noncomputable def BQ (n:Nat) (q:Rat):Prop:=Bd n q.num/\Bd n (q.den:Int)
theorem BQ.mono {m n:Nat} {q:Rat} (h:BQ m q) (l:m<=n):BQ n q:=⟨h.1.mono l,h.2.mono l⟩
theorem BQ.make {n:Nat} {t b:Int} (h:b ≠ 0) (h1:Bd n t) (h2:Bd n b):BQ n ((t:Rat) / (b:Rat)):=by
 obtain ⟨e1,e2⟩:=aDf (t:=t) h
 exact ⟨e1 ▸ h1.fT,e2 ▸ h2.fB⟩
theorem aKq (p q:Rat):(((p.num * q.den + q.num * p.den:Int)):Rat) / ((p.den * q.den:Int):Rat) = p + q:=by
 have h1:=vE p
 have h2:=vE q
 have e1:=fM p
 have e2:=fM q
 rw [Rat.intCast_add,Rat.intCast_mul,Rat.intCast_mul,Rat.intCast_mul,e1,e2]
 grind
theorem aLp (p q:Rat):(((p.num * q.num:Int)):Rat) / ((p.den * q.den:Int):Rat) = p * q:=by
 have h1:=vE p
 have h2:=vE q
 have e1:=fM p
 have e2:=fM q
 rw [Rat.intCast_mul,Rat.intCast_mul,e1,e2]
 grind
theorem BQ.add {m n:Nat} {p q:Rat} (h:BQ m p) (h2:BQ n q):BQ (m + n + 1) (p + q):=by
 rw [<- aKq]
 exact .make (Int.mul_ne_zero (eP p) (eP q)) ((h.1.mul h2.2).add ((h2.1.mul h.2).mono (by omega))) ((h.2.mul h2.2).mono (by omega))
theorem BQ.mul {m n:Nat} {p q:Rat} (h:BQ m p) (h2:BQ n q):BQ (m + n) (p * q):=by
 rw [<- aLp]
 exact .make (Int.mul_ne_zero (eP p) (eP q)) (h.1.mul h2.1) (h.2.mul h2.2)
theorem aEi {q:Rat}:q.num = 0 ↔ q = 0:=Rat.num_eq_zero
theorem BQ.neg {m:Nat} {p:Rat} (h:BQ m p):BQ m (-p):=⟨by rw [Rat.neg_num];exact h.1.neg,by rw [Rat.neg_den];exact h.2⟩
theorem BQ.int {m:Nat} {z:Int} (h:Bd m z) (h0:0 < m):BQ m (z:Rat):=⟨by rw [Rat.num_intCast];exact h,by rw [Rat.den_intCast];unfold Bd;exact Nat.one_lt_two_pow (by omega)⟩
theorem aHb {q:Rat}:0 < q.num ↔ 0 < q:=by
 have:=Rat.lt_iff 0 q
 simp at this
 exact this.symm
theorem qI {q:Rat}:q.num < 0 ↔ q < 0:=by
 have:=Rat.lt_iff q 0
 simp at this
 exact this.symm
end Mz
namespace Mz
open PySem
theorem aCw {t b:Int} {q:Rat} (hb:0 < b) (hg:Int.gcd t b = 1) (e:(t:Rat) = q * (b:Rat)):t = q.num/\b = (q.den:Int):=by
 refine oV hb (den_pos q) hg ?_ ?_
 ·have:=q.reduced
  unfold Nat.Coprime at this
  rw [<- this]
  rfl
 ·have e2:=fM q
  have:((t * (q.den:Int):Int):Rat) = ((q.num * b:Int):Rat):=by
   rw [Rat.intCast_mul,Rat.intCast_mul,e,e2]
   grind
  exact Rat.intCast_inj.mp this
theorem lJ {a b c:Int} (h:Int.gcd a b = 1) (h2:Int.gcd a c = 1):Int.gcd a (b * c) = 1:=by
 unfold Int.gcd at *
 rw [Int.natAbs_mul]
 exact Nat.Coprime.mul_right h h2
theorem dB {a b:Int} (h:Int.gcd a b = 1):Int.gcd b a = 1:=by rw [Int.gcd_comm];exact h
theorem jM {a a' b:Int} (h:a ∣ a') (h2:Int.gcd a' b = 1):Int.gcd a b = 1:=by
 unfold Int.gcd at *
 exact Nat.Coprime.coprime_dvd_left (Int.natAbs_dvd_natAbs.mpr h) h2
theorem red (q:Rat):Int.gcd q.num (q.den:Int) = 1:=by
 have:=q.reduced
 unfold Nat.Coprime at this
 rw [<- this]
 rfl
theorem oK {x y:Int} (h:y ≠ 0):∃ a b:Int,x = (Int.gcd x y:Int) * a/\y = (Int.gcd x y:Int) * b/\Int.gcd a b = 1/\x.fdiv (Int.gcd x y:Int) = a/\y.fdiv (Int.gcd x y:Int) = b:=by
 have hp:0 < Int.gcd x y:=jI h
 obtain ⟨a,ha⟩:=Int.gcd_dvd_left x y
 obtain ⟨b,hb⟩:=Int.gcd_dvd_right x y
 have e1:x.fdiv (Int.gcd x y:Int) = a:=by
  rw [Int.fdiv_eq_ediv_of_dvd (Int.gcd_dvd_left x y)]
  exact Int.ediv_eq_of_eq_mul_right (by omega) ha
 have e2:y.fdiv (Int.gcd x y:Int) = b:=by
  rw [Int.fdiv_eq_ediv_of_dvd (Int.gcd_dvd_right x y)]
  exact Int.ediv_eq_of_eq_mul_right (by omega) hb
 refine ⟨a,b,ha,hb,?_,e1,e2⟩
 rw [<- e1,<- e2,Int.fdiv_eq_ediv_of_dvd (Int.gcd_dvd_left x y),Int.fdiv_eq_ediv_of_dvd (Int.gcd_dvd_right x y),Int.gcd_ediv (Int.gcd_dvd_left x y) (Int.gcd_dvd_right x y)]
 simp
 exact Nat.div_self hp
theorem aMh (p q:Rat):∀ g a t l:Int,g = (Int.gcd p.den q.den:Int)->a = (p.den:Int).fdiv g->t = p.num * (q.den:Int).fdiv g + q.num * a->l = (Int.gcd t g:Int) ->
  g ≠ 0/\l ≠ 0/\g ∣ (p.den:Int)/\l ∣ g/\t.fdiv l = (p + q).num/\a * (q.den:Int).fdiv l = ((p + q).den:Int):=by
 intro g a t l hg ha ht hl
 have d1:=den_pos p
 have d2:=den_pos q
 obtain ⟨a',b,e1,e2,cab,f1,f2⟩:=oK (x:=p.den) (y:=q.den) (eP q)
 rw [<- hg] at e1 e2 f1 f2
 rw [f1] at ha
 subst ha
 rw [f2] at ht
 have g0:0 < g:=by have:=jI (t:=(p.den:Int)) (eP q);omega
 have a0:0 < a:=by
  rcases Int.lt_trichotomy a 0 with z | z | z
  ·have:=Int.mul_neg_of_pos_of_neg g0 z;omega
  ·subst z;omega
  ·exact z
 have b0:0 < b:=by
  rcases Int.lt_trichotomy b 0 with z | z | z
  ·have:=Int.mul_neg_of_pos_of_neg g0 z;omega
  ·subst z;omega
  ·exact z
 obtain ⟨t',g',e3,e4,ctg,f3,f4⟩:=oK (x:=t) (y:=g) (by omega)
 rw [<- hl] at e3 e4 f3 f4
 have l0:0 < l:=by have:=jI (t:=t) (b:=g) (by omega);omega
 have g'0:0 < g':=by
  rcases Int.lt_trichotomy g' 0 with z | z | z
  ·have:=Int.mul_neg_of_pos_of_neg l0 z;omega
  ·subst z;omega
  ·exact z
 have f5:(q.den:Int).fdiv l = g' * b:=by
  have e:(q.den:Int) = l * (g' * b):=by rw [e2,e4];grind
  rw [Int.fdiv_eq_ediv_of_dvd ⟨_,e⟩]
  exact Int.ediv_eq_of_eq_mul_right (by omega) e
 refine ⟨by omega,by omega,⟨a,e1⟩,⟨g',e4⟩,?_⟩
 rw [f3,f5]
 have ca:Int.gcd t a = 1:=by
  have c1:Int.gcd p.num a = 1:=dB (jM ⟨g,by rw [e1];grind⟩ (dB (red p)))
  have:Int.gcd a (p.num * b) = 1:=lJ (dB c1) cab
  rw [ht,Int.gcd_comm,Int.gcd_add_mul_right_right]
  exact this
 have cb:Int.gcd t b = 1:=by
  have c1:Int.gcd q.num b = 1:=dB (jM ⟨g,by rw [e2];grind⟩ (dB (red q)))
  have:Int.gcd b (q.num * a) = 1:=lJ (dB c1) (dB cab)
  rw [ht,Int.gcd_comm,Int.add_comm,Int.gcd_add_mul_right_right]
  exact this
 have hd:t' ∣ t:=⟨l,by rw [e3];grind⟩
 refine aCw (q:=p + q) (Int.mul_pos a0 (Int.mul_pos g'0 b0)) (lJ (jM hd ca) (lJ ctg (jM hd cb))) ?_
 have n1:=fM p
 have n2:=fM q
 have r1:=vE p
 have r2:=vE q
 have k1:((p.den:Int):Rat) = (l:Rat) * g' * a:=by rw [e1,e4,Rat.intCast_mul,Rat.intCast_mul]
 have k2:((q.den:Int):Rat) = (l:Rat) * g' * b:=by rw [e2,e4,Rat.intCast_mul,Rat.intCast_mul]
 have k3:(l:Rat) * t' = (p.num:Rat) * b + (q.num:Rat) * a:=by rw [<- Rat.intCast_mul,<- e3,ht,Rat.intCast_add,Rat.intCast_mul,Rat.intCast_mul]
 have k4:(l:Rat) ≠ 0:=fun z=>by
                     have:l = 0:=by exact_mod_cast z
                     omega
 rw [n1,n2,k1,k2] at k3
 rw [Rat.intCast_mul,Rat.intCast_mul]
 have:(l:Rat) * (t':Rat) = l * ((p + q) * ((a:Rat) * (g' * b))):=by rw [k3];grind
 grind
theorem aMc (p q:Rat):∀ f r:Int,f = (Int.gcd p.num q.den:Int)->r = (Int.gcd q.num p.den:Int) ->
  f ≠ 0/\r ≠ 0/\f ∣ (q.den:Int)/\r ∣ (p.den:Int)/\p.num.fdiv f * q.num.fdiv r = (p * q).num/\(p.den:Int).fdiv r * (q.den:Int).fdiv f = ((p * q).den:Int):=by
 intro f r hf hr
 have d1:=den_pos p
 have d2:=den_pos q
 obtain ⟨x,v,e1,e2,c1,f1,f2⟩:=oK (x:=p.num) (y:=q.den) (eP q)
 obtain ⟨y,u,e3,e4,c2,f3,f4⟩:=oK (x:=q.num) (y:=p.den) (eP p)
 rw [<- hf] at e1 e2 f1 f2
 rw [<- hr] at e3 e4 f3 f4
 have f0:0 < f:=by have:=jI (t:=p.num) (eP q);omega
 have r0:0 < r:=by have:=jI (t:=q.num) (eP p);omega
 have v0:0 < v:=by
  rcases Int.lt_trichotomy v 0 with z | z | z
  ·have:=Int.mul_neg_of_pos_of_neg f0 z;omega
  ·subst z;omega
  ·exact z
 have u0:0 < u:=by
  rcases Int.lt_trichotomy u 0 with z | z | z
  ·have:=Int.mul_neg_of_pos_of_neg r0 z;omega
  ·subst z;omega
  ·exact z
 refine ⟨by omega,by omega,⟨v,e2⟩,⟨u,e4⟩,?_⟩
 rw [f1,f2,f3,f4]
 have cxu:Int.gcd x u = 1:=jM ⟨f,by rw [e1];grind⟩ (dB (jM ⟨r,by rw [e4];grind⟩ (dB (red p))))
 have cyv:Int.gcd y v = 1:=jM ⟨r,by rw [e3];grind⟩ (dB (jM ⟨f,by rw [e2];grind⟩ (dB (red q))))
 refine aCw (q:=p * q) (Int.mul_pos u0 v0) ?_ ?_
 ·exact dB (lJ (dB (lJ cxu c1)) (dB (lJ c2 cyv)))
 have n1:=fM p
 have n2:=fM q
 have r1:=vE p
 have r2:=vE q
 have k1:((p.den:Int):Rat) = (r:Rat) * u:=by rw [e4,Rat.intCast_mul]
 have k2:((q.den:Int):Rat) = (f:Rat) * v:=by rw [e2,Rat.intCast_mul]
 have k3:(p.num:Rat) = (f:Rat) * x:=by rw [e1,Rat.intCast_mul]
 have k4:(q.num:Rat) = (r:Rat) * y:=by rw [e3,Rat.intCast_mul]
 have k5:(f:Rat) ≠ 0:=fun z=>by
                     have:f = 0:=by exact_mod_cast z
                     omega
 have k6:(r:Rat) ≠ 0:=fun z=>by
                     have:r = 0:=by exact_mod_cast z
                     omega
 rw [Rat.intCast_mul,Rat.intCast_mul]
 have:(f:Rat) * r * ((x:Rat) * y) = f * r * ((p * q) * ((u:Rat) * v)):=by
  have z1:(f:Rat) * x = p * (r * u):=by rw [<- k3,<- k1];exact n1
  have z2:(r:Rat) * y = q * (f * v):=by rw [<- k4,<- k2];exact n2
  grind
 grind
theorem aLq {q:Rat} (h:0 < q):(q.den:Int) = (1 / q).num/\q.num = ((1 / q).den:Int):=by
 refine aCw (q:=1 / q) (aHb.mpr h) (dB (red q)) ?_
 have:=fM q
 have r:=vE q
 grind
theorem aMa {q:Rat} (h:q < 0):-(q.den:Int) = (1 / q).num/\-q.num = ((1 / q).den:Int):=by
 have h':=qI.mpr h
 refine aCw (q:=1 / q) (by omega) (by rw [Int.gcd_neg,Int.neg_gcd];exact dB (red q)) ?_
 have:=fM q
 have r:=vE q
 rw [Rat.intCast_neg,Rat.intCast_neg]
 grind
theorem Bd.dvd {n:Nat} {x y:Int} (h:Bd n y) (d:x ∣ y) (h0:y ≠ 0):Bd n x:=by
 unfold Bd at *
 have:=Nat.le_of_dvd (by omega) (Int.natAbs_dvd_natAbs.mpr d)
 omega
theorem Bd.fdiv {n:Nat} {x y:Int} (h:Bd n x) (d:y ∣ x):Bd n (x.fdiv y):=by
 unfold Bd at *
 rw [Int.fdiv_eq_ediv_of_dvd d]
 exact Nat.lt_of_le_of_lt (Int.natAbs_ediv_le_natAbs _ _) h
end Mz
namespace Mz
open PySem
noncomputable def uu (t:Rat):Rat:=(1 - t * t) / (1 + t * t)
noncomputable def vv (t:Rat):Rat:=(t + t) / (1 + t * t)
noncomputable def LL (x y p q:Rat):Rat:=x * q - y * p
end Mz
namespace Mz
open PySem
noncomputable def rq (x y:Rat):Nat->Rat × Rat
 | 0=>(x,y)
 | n + 1=>(-(rq x y n).2,(rq x y n).1)
theorem aHs (x y:Rat):∀ n,(rq x y n).1 * (rq x y n).1 + (rq x y n).2 * (rq x y n).2 = x * x + y * y
 | 0=>rfl
 | n + 1=>by
  have:=aHs x y n
  show -(rq x y n).2 * -(rq x y n).2 + (rq x y n).1 * (rq x y n).1 = _
  grind
theorem uS {B:Nat} {x y:Rat} (h1:BQ B x) (h2:BQ B y):∀ n,BQ B (rq x y n).1/\BQ B (rq x y n).2
 | 0=>⟨h1,h2⟩
 | n + 1=>⟨(uS h1 h2 n).2.neg,(uS h1 h2 n).1⟩
noncomputable def ldX (px:Rat) (t h:Int) (s x y:Rat):Rat:=(rq x ((h:Rat) * y) t.toNat).1 * s + px
noncomputable def ldY (py:Rat) (t h:Int) (s x y:Rat):Rat:=(rq x ((h:Rat) * y) t.toNat).2 * s + py
noncomputable def tb (t h u:Int):Int:=(t + h * u).fmod 4
theorem aIy {t:Int} (h0:0<=t) (h1:t < 4):t = 0 ∨ t = 1 ∨ t = 2 ∨ t = 3:=by omega
theorem aBf (t h u:Int):0<=tb t h u/\tb t h u < 4:=⟨Int.fmod_nonneg_of_pos _ (by decide),Int.fmod_lt_of_pos _ (by decide)⟩
theorem rq0 (x y:Rat):rq x y 0 = (x,y):=rfl
theorem rq1 (x y:Rat):rq x y 1 = (-y,x):=rfl
theorem rq2 (x y:Rat):rq x y 2 = (-x,-y):=rfl
theorem rq3 (x y:Rat):rq x y 3 = (- -y,-x):=rfl
theorem uV:(((1:Int)):Rat) = 1:=rfl
theorem rQ:(((-1:Int)):Rat) = -1:=rfl
theorem aG5 (x y:Rat) {t h u k:Int} (t0:0<=t) (t1:t < 4) (u0:0<=u) (u1:u < 4) (hh:h = 1 ∨ h = -1) (hk:k = 1 ∨ k = -1) :
  rq x (((h * k:Int):Rat) * y) (tb t h u).toNat = rq (rq x ((k:Rat) * y) u.toNat).1 ((h:Rat) * (rq x ((k:Rat) * y) u.toNat).2) t.toNat:=by
 rcases aIy t0 t1 with rfl | rfl | rfl | rfl<;>rcases aIy u0 u1 with rfl | rfl | rfl | rfl<;>rcases hh with rfl | rfl<;>rcases hk with rfl | rfl <;>
  first
   | (show rq _ _ 0 = _;simp only [rq0,show (0:Int).toNat = 0 from rfl,show (1:Int).toNat = 1 from rfl,show (2:Int).toNat = 2 from rfl,show (3:Int).toNat = 3 from rfl,rq1,rq2,rq3,Int.reduceMul,uV,rQ];refine Prod.ext ?_ ?_<;>grind)
   | (show rq _ _ 1 = _;simp only [rq0,show (0:Int).toNat = 0 from rfl,show (1:Int).toNat = 1 from rfl,show (2:Int).toNat = 2 from rfl,show (3:Int).toNat = 3 from rfl,rq1,rq2,rq3,Int.reduceMul,uV,rQ];refine Prod.ext ?_ ?_<;>grind)
   | (show rq _ _ 2 = _;simp only [rq0,show (0:Int).toNat = 0 from rfl,show (1:Int).toNat = 1 from rfl,show (2:Int).toNat = 2 from rfl,show (3:Int).toNat = 3 from rfl,rq1,rq2,rq3,Int.reduceMul,uV,rQ];refine Prod.ext ?_ ?_<;>grind)
   | (show rq _ _ 3 = _;simp only [rq0,show (0:Int).toNat = 0 from rfl,show (1:Int).toNat = 1 from rfl,show (2:Int).toNat = 2 from rfl,show (3:Int).toNat = 3 from rfl,rq1,rq2,rq3,Int.reduceMul,uV,rQ];refine Prod.ext ?_ ?_<;>grind)
theorem aEQ (a b c d s:Rat):∀ n,rq (a * s + c) (b * s + d) n = ((rq a b n).1 * s + (rq c d n).1,(rq a b n).2 * s + (rq c d n).2)
 | 0=>rfl
 | n + 1=>by
  have ih:=aEQ a b c d s n
  show (-(rq (a * s + c) (b * s + d) n).2,(rq (a * s + c) (b * s + d) n).1) = (-(rq a b n).2 * s + -(rq c d n).2,(rq a b n).1 * s + (rq c d n).1)
  rw [ih]
  refine Prod.ext ?_ ?_<;>grind
theorem aCP {px py qx qy s r x y:Rat} {t h u k:Int} (t0:0<=t) (t1:t < 4) (u0:0<=u) (u1:u < 4) (hh:h = 1 ∨ h = -1) (hk:k = 1 ∨ k = -1) :
  ldX (ldX px t h s qx qy) (tb t h u) (h * k) (s * r) x y = ldX px t h s (ldX qx u k r x y) (ldY qy u k r x y)/\ldY (ldY py t h s qx qy) (tb t h u) (h * k) (s * r) x y = ldY py t h s (ldX qx u k r x y) (ldY qy u k r x y):=by
 unfold ldX ldY
 rw [aG5 x y t0 t1 u0 u1 hh hk]
 have e:(h:Rat) * ((rq x ((k:Rat) * y) u.toNat).2 * r + qy) = ((h:Rat) * (rq x ((k:Rat) * y) u.toNat).2) * r + (h:Rat) * qy:=by grind
 rw [e,aEQ]
 constructor<;>grind
noncomputable def tu (t h:Int):Int:=(-h * t).fmod 4
noncomputable def uX (px py:Rat) (t h:Int) (s:Rat):Rat:=ldX 0 (tu t h) h (1 / s) px py * -1
noncomputable def uY (px py:Rat) (t h:Int) (s:Rat):Rat:=ldY 0 (tu t h) h (1 / s) px py * -1
theorem rN (t h:Int):0<=tu t h/\tu t h < 4:=⟨Int.fmod_nonneg_of_pos _ (by decide),Int.fmod_lt_of_pos _ (by decide)⟩
end Mz
namespace Dd
open PySem PySem.Spec PyProof.Rows L2 Mz
noncomputable def FQ (q:Rat):D:=.tup [.int q.num,.int (q.den:Int)]
theorem aGq {t b:Int} (h:b ≠ 0):(D.tup [.int (fT t b),.int (fB t b)]) = FQ ((t:Rat) / (b:Rat)):=by
 obtain ⟨e1,e2⟩:=aDf (t:=t) h
 rw [e1,e2]
 rfl
noncomputable def fN:DSp:=fun ds M Q=>∃ a b,ds = [.int a,.int b]/\Q (.int (Int.gcd a b:Int)) M
noncomputable def zP (g:Rat->Rat->D) (C:Rat->Prop:=fun _=>True):DSp:=fun ds M Q=>∃ p q m n,ds = [FQ p,FQ q]/\C q/\BQ m p/\BQ n q/\m + n<=8998/\Q (g p q) M
noncomputable def tV:DSp:=zP fun p q=>FQ (p + q)
noncomputable def mW:DSp:=zP fun p q=>FQ (p * q)
noncomputable def aCV:DSp:=zP (fun p q=>FQ (p / q)) fun q=>q ≠ 0
theorem qH {g:Rat->Rat->D} {C:Rat->Prop} (ds:List D) (M:DM) (Q:DQ) (h:zP g C ds M Q):ds.length = 2:=by obtain ⟨a,b,m,n,rfl,_⟩:=h;rfl
theorem aAZ {n:Nat} {x y z:Int} (h:Bd n y) (l:n<=9000) (d:z ∣ y) (h0:y ≠ 0) (hz:z ≠ 0):CFd x z:=⟨hz,by
 rcases Nat.eq_zero_or_pos n with e | e
 ·subst e
  have:y.natAbs < 1:=h
  omega
 ·exact Nat.lt_of_lt_of_le ((h.dvd d h0).log e) l⟩
theorem uF (q:Rat):(D.tup [.int (-q.num),.int (q.den:Int)]) = FQ (-q):=by
 unfold FQ
 rw [Rat.neg_num,Rat.neg_den]
noncomputable def PQ (x y:Rat):D:=.tup [FQ x,FQ y]
noncomputable def sU:DSp:=fun ds M Q=>∃ x y u v,ds = [PQ x y,PQ u v]/\BQ 4400 x/\BQ 4400 y/\BQ 4400 u/\BQ 4400 v/\Q (PQ (x + u) (y + v)) M
theorem zN (p q:Rat):eqD (FQ p) (FQ q) = decide (p = q):=by
 show (p.num == q.num && ((p.den:Int) == (q.den:Int) && true)) = decide (p = q)
 by_cases h:p = q
 ·subst h;simp
 ·rw [decide_eq_false h]
  by_cases h1:p.num = q.num
  ·have h2:¬ ((p.den:Int) = (q.den:Int)):=fun z=>h (Rat.ext h1 (by exact_mod_cast z))
   simp [h1,h2]
  ·simp [h1]
theorem aE9 (x y u v:Rat):eqD (PQ x y) (PQ u v) = (decide (x = u) && decide (y = v)):=by
 show (eqD (FQ x) (FQ u) && (eqD (FQ y) (FQ v) && true)) = _
 rw [zN,zN,Bool.and_true]
theorem yF {d:Int} (h:0 < d):(0:Rat) < (d:Rat):=by exact_mod_cast h
structure Adv (M M':DM) (a:Addr):Prop where
 l:∀ b:Addr,b ≠ a->M' (.l b) = M (.l b)
 d:∀ b:Addr,M' (.d b) = M (.d b)
instance {M M':DM} {a:Addr}:CoeFun (Adv M M' a) (fun _=>∀ b:Addr,b ≠ a->M' (.l b) = M (.l b)):=⟨Adv.l⟩
theorem Adv.trans {M M1 M2:DM} {a:Addr} (h:Adv M M1 a) (h2:Adv M1 M2 a):Adv M M2 a:=⟨fun b n=>(h2.l b n).trans (h.l b n),fun b=>(h2.d b).trans (h.d b)⟩
theorem aIb (z:Int):FQ (z:Rat) = .tup [.int z,.int 1]:=by unfold FQ;rw [Rat.num_intCast,Rat.den_intCast];rfl
theorem aGr {xs:List D} {lo hi:Option Int} {d:D} (h:d ∈ cutD xs lo hi):d ∈ xs:=List.mem_of_mem_drop (List.mem_of_mem_take h)
noncomputable def aFJ:D:=.tup [.int 1,.int 1]
theorem bq1:BQ 1 1:=⟨by unfold Bd;decide,by unfold Bd;decide⟩
theorem aH3 {x y:Rat} {g:DG} {te:DE} {Q:DQ} {ρ0:cF} {M:DM}:itT (PQ x y) ρ0 g te M Q = aAL none [FQ x,FQ y] ρ0 g te M Q:=rfl
theorem aJw {q:Rat} {g:DG} {te:DE} {Q:DQ} {ρ0:cF} {M:DM}:itT (FQ q) ρ0 g te M Q = aAL none [.int q.num,.int (q.den:Int)] ρ0 g te M Q:=rfl
theorem aH7 {x y:Rat} {g:DG} {tb:DS} {E:fO} {ρ:cF} {M:DM}:foT (PQ x y) g tb E ρ M = dIt none [FQ x,FQ y] g tb E ρ M:=rfl
theorem aLK {q:Rat} {M:DM} {Q:DQ}:jS (FQ q) (.int 0) M Q = Q (.int q.num) M:=rfl
theorem aLu {q:Rat} {M:DM} {Q:DQ}:jS (FQ q) (.int 1) M Q = Q (.int (q.den:Int)) M:=rfl
theorem aKZ {x y:Rat} {M:DM} {Q:DQ}:jS (PQ x y) (.int 0) M Q = Q (FQ x) M:=rfl
theorem aLR {x y:Rat} {M:DM} {Q:DQ}:jS (PQ x y) (.int 1) M Q = Q (FQ y) M:=rfl
theorem aLi {x y:Rat} {n:Nat} {t:DGs} {ρ:cF} {M:DM} {R:cF->DM->Prop}:gU n t (PQ x y) ρ M R = (([FQ x,FQ y]:List D).length = n/\t [FQ x,FQ y] ρ M R):=rfl
theorem aLj {q:Rat} {n:Nat} {t:DGs} {ρ:cF} {M:DM} {R:cF->DM->Prop}:gU n t (FQ q) ρ M R = (([.int q.num,.int (q.den:Int)]:List D).length = n/\t [.int q.num,.int (q.den:Int)] ρ M R):=rfl
theorem aE0 {g:Bool->Bool} {p q:Rat} {M:DM} {Q:DQ}:dEq g (FQ p) (FQ q) M Q = Q (.bl (g (decide (p = q)))) M:=by
 show (bH 60 (FQ p) = true/\bH 60 (FQ q) = true/\Q (.bl (g (eqD (FQ p) (FQ q)))) M) = _
 rw [zN]
 exact propext ⟨fun h=>h.2.2,fun h=>⟨rfl,rfl,h⟩⟩
theorem nL {g:Bool->Bool} {x y u v:Rat} {M:DM} {Q:DQ}:dEq g (PQ x y) (PQ u v) M Q = Q (.bl (g (decide (x = u/\y = v)))) M:=by
 show (bH 60 (PQ x y) = true/\bH 60 (PQ u v) = true/\Q (.bl (g (eqD (PQ x y) (PQ u v)))) M) = _
 have e:(decide (x = u) && decide (y = v)) = decide (x = u/\y = v):=by by_cases h1:x = u<;>by_cases h2:y = v<;>simp [h1,h2]
 rw [aE9,e]
 exact propext ⟨fun h=>h.2.2,fun h=>⟨rfl,rfl,h⟩⟩
theorem eD {M:DM} {p b:Addr} {ds:List D} (h:bE M p ds b = none):b ≠ p/\M b = none:=by
 by_cases e:b = p
 ·subst e;rw [aJ] at h;cases h
 ·rw [bS e] at h;exact ⟨e,h⟩
noncomputable def rT:D:=.tup [.tup [.int 0,.int 1],.tup [.int 0,.int 1]]
noncomputable def FR (px py:Rat) (t h:Int) (s:Rat):D:=.tup [PQ px py,.int t,.int h,FQ s]
theorem aK5 {px py s:Rat} {i h:Int} {n:Nat} {t:DGs} {ρ:cF} {M:DM} {R:cF->DM->Prop}:gU n t (FR px py i h s) ρ M R = (([PQ px py,.int i,.int h,FQ s]:List D).length = n/\t [PQ px py,.int i,.int h,FQ s] ρ M R):=rfl
theorem aLc {px py s:Rat} {t h:Int} {M:DM} {Q:DQ}:jS (FR px py t h s) (.int 0) M Q = Q (PQ px py) M:=rfl
theorem aKr {px py s:Rat} {t h:Int} {M:DM} {Q:DQ}:jS (FR px py t h s) (.int 1) M Q = Q (.int t) M:=rfl
theorem aKt {px py s:Rat} {t h:Int} {M:DM} {Q:DQ}:jS (FR px py t h s) (.int 2) M Q = Q (.int h) M:=rfl
theorem aK7 {px py s:Rat} {t h:Int} {M:DM} {Q:DQ}:jS (FR px py t h s) (.int 3) M Q = Q (FQ s) M:=rfl
theorem aJD (px py s px' py' s':Rat) (t h t' h':Int):eqD (FR px py t h s) (FR px' py' t' h' s') = decide (px = px'/\py = py'/\t = t'/\h = h'/\s = s'):=by
 show (eqD (PQ px py) (PQ px' py') && (t == t' && (h == h' && (eqD (FQ s) (FQ s') && true)))) = _
 rw [aE9,zN]
 by_cases h1:px = px'<;>by_cases h2:py = py'<;>by_cases h3:t = t'<;>by_cases h4:h = h'<;>by_cases h5:s = s'<;>simp [h1,h2,h3,h4,h5]
theorem aJ9 {g:Bool->Bool} {px py s px' py' s':Rat} {t h t' h':Int} {M:DM} {Q:DQ}:dEq g (FR px py t h s) (FR px' py' t' h' s') M Q = Q (.bl (g (decide (px = px'/\py = py'/\t = t'/\h = h'/\s = s')))) M:=by
 show (bH 60 (FR px py t h s) = true/\bH 60 (FR px' py' t' h' s') = true/\Q (.bl (g (eqD (FR px py t h s) (FR px' py' t' h' s')))) M) = _
 rw [aJD]
 exact propext ⟨fun z=>z.2.2,fun z=>⟨rfl,rfl,z⟩⟩
noncomputable def kC (n:Nat) (L:List D):Prop:=L.length = n/\∀ d ∈ L,∃ z:Int,d = .int z/\0<=z/\z < 1000000
theorem kC.at {n:Nat} {L:List D} (h:kC n L) {i:Nat} (hi:i < n):∃ z:Int,atI L (i:Int) = some (.int z)/\0<=z/\z < 1000000:=by
 have hl:i < L.length:=by rw [h.1];exact hi
 obtain ⟨z,e,z0,z1⟩:=h.2 L[i] (List.getElem_mem hl)
 exact ⟨z,aAa (by rw [List.getElem?_eq_getElem hl,e]),z0,z1⟩
theorem aHa {x y:Rat} {M:DM} {Q:DQ}:sC [PQ x y] M Q = Q (.int 2) M:=rfl
theorem aGd {q:Rat} {M:DM} {Q:DQ}:sC [FQ q] M Q = Q (.int 2) M:=rfl
theorem aGl {px py s:Rat} {t h:Int} {M:DM} {Q:DQ}:sC [FR px py t h s] M Q = Q (.int 4) M:=rfl
theorem aEN {a:Addr} {M:DM} {Q:DQ}:sC [.ref a] M Q = ∃ xs,M a = some xs/\Q (.int (xs.length:Int)) M:=rfl
end Dd
namespace Dd
open PySem PySem.Spec PyProof.Rows L2 Mz
section
variable {M:DM} {Q:DQ} {a b c d e f:D}
theorem aJL {i:Int}:aKK [.int i] M Q = Q (.int (if i < 0 then -i else i)) M:=rfl
theorem aFX {xs:List D}:sC [.fz xs] M Q = Q (.int xs.length) M:=rfl
theorem aGW:sC [.tup []] M Q = Q (.int 0) M:=rfl
theorem aGp:sC [.tup [a]] M Q = Q (.int 1) M:=rfl
theorem aGD:sC [.tup [a,b]] M Q = Q (.int 2) M:=rfl
theorem aGG:sC [.tup [a,b,c]] M Q = Q (.int 3) M:=rfl
theorem aHi:sC [.tup [a,b,c,d]] M Q = Q (.int 4) M:=rfl
theorem aGC:sC [.tup [a,b,c,d,e]] M Q = Q (.int 5) M:=rfl
end
noncomputable def eM (px py:Rat) (t h:Int) (s:Rat) (B:Nat):Prop:=BQ B px/\BQ B py/\0<=t/\t < 4/\(h = 1 ∨ h = -1)/\0 < s/\BQ B s
structure Fm where
 (px py:Rat) (t h:Int) (s:Rat)
noncomputable def FmD (f:Fm):D:=FR f.px f.py f.t f.h f.s
noncomputable def Fm.comp (f g:Fm):Fm:=⟨ldX f.px f.t f.h f.s g.px g.py,ldY f.py f.t f.h f.s g.px g.py,tb f.t f.h g.t,f.h * g.h,f.s * g.s⟩
noncomputable def Fm.one:Fm:=⟨0,0,0,1,1⟩
noncomputable def Fm.Ok (f:Fm):Prop:=0<=f.t/\f.t < 4/\(f.h = 1 ∨ f.h = -1)
theorem Fm.ok_one:Fm.one.Ok:=⟨by decide,by decide,.inl rfl⟩
theorem Fm.Ok.comp {f g:Fm} (hf:f.Ok) (hg:g.Ok):(f.comp g).Ok:=by
 refine ⟨(aBf _ _ _).1,(aBf _ _ _).2,?_⟩
 show f.h * g.h = 1 ∨ f.h * g.h = -1
 rcases hf.2.2 with e | e<;>rcases hg.2.2 with e' | e'<;>rw [e,e']<;>simp
theorem bq_of {q:Rat} {m X:Int} {k:Nat} (h0:0 < m) (e:q * (m:Rat) = (X:Rat)) (bX:Bd k X) (bm:Bd k m):BQ k q:=by
 have hm:(m:Rat) ≠ 0:=by have:=yF h0;grind
 have:q = (X:Rat) / (m:Rat):=by grind
 rw [this]
 exact .make (by omega) bX bm
noncomputable def Fm.Good (f:Fm) (B:Nat):Prop:=eM f.px f.py f.t f.h f.s B
theorem Fm.Good.ok {f:Fm} {B:Nat} (h:f.Good B):f.Ok:=⟨h.2.2.1,h.2.2.2.1,h.2.2.2.2.1⟩
theorem eM.mono {px py s:Rat} {t h:Int} {B C:Nat} (f:eM px py t h s B) (l:B<=C):eM px py t h s C:=⟨f.1.mono l,f.2.1.mono l,f.2.2.1,f.2.2.2.1,f.2.2.2.2.1,f.2.2.2.2.2.1,f.2.2.2.2.2.2.mono l⟩
theorem aLt {f:Fm} {M:DM} {Q:DQ}:jS (FmD f) (.int 0) M Q = Q (PQ f.px f.py) M:=rfl
theorem aK2 {f:Fm} {M:DM} {Q:DQ}:jS (FmD f) (.int 1) M Q = Q (.int f.t) M:=rfl
theorem aKF {f:Fm} {M:DM} {Q:DQ}:jS (FmD f) (.int 2) M Q = Q (.int f.h) M:=rfl
theorem aKC {f:Fm} {M:DM} {Q:DQ}:jS (FmD f) (.int 3) M Q = Q (FQ f.s) M:=rfl
theorem aIz {f:Fm} {n:Nat} {t:DGs} {ρ:cF} {M:DM} {R:cF->DM->Prop}:gU n t (FmD f) ρ M R = (([PQ f.px f.py,.int f.t,.int f.h,FQ f.s]:List D).length = n/\t [PQ f.px f.py,.int f.t,.int f.h,FQ f.s] ρ M R):=rfl
theorem aEa {f:Fm} {M:DM} {Q:DQ}:sC [FmD f] M Q = Q (.int 4) M:=rfl
theorem Fm.Good.mono {f:Fm} {B C:Nat} (h:f.Good B) (l:B<=C):f.Good C:=eM.mono h l
end Dd
namespace Dd
open PySem PySem.Spec PyProof.Rows L2 Mz
section
variable {X:Cx} {pins:List (Addr × Obj)} {σ:L2.St} {H:Hp} {s:Shared} {M:DM}
end
section
variable {X:Cx}
end
end Dd
namespace L2
open PySem PySem.Spec PyProof.Rows
section
variable {prog:Program} {w:World} {A:Around} {R:Result->Shared->Prop} {s:Shared}
theorem mI {elt target iter c:Expr} {scope:Scope} {pos:Pos} {it acc:Value} {env:Env} (I:Nat->Shared->Prop)
  (turn:∀ n s,I n s->wpAny (model prog w) A (pyNext it) (fun r s₁=>match r with
   | none=>R (.ok .next) s₁
   | some v=>wpAny (model prog w) A (letOwnedTupleGo target it v) (fun _ s₁'=>wpAny (model prog w) A (assign target env v) (fun _ s₂=>wpAny (model prog w) A (isTrue c env (eval c env)) (fun b s₂'=>if b = true then wpAny (model prog w) A (eval elt env) (fun x s₃ =>
     wpAny (model prog w) A (call (.builtin "list.append") [acc,x]) (fun _ s₄=>∃ m,m < n/\I m s₄) (fun _ _=>False) s₃)
     (fun _ _=>False) s₂' else ∃ m,m < n/\I m s₂') (fun _ _=>False) s₂) (fun _ _=>False) s₁') (fun _ _=>False) s₁) (fun _ _=>False) s)
  (n:Nat) (h:I n s):codeAny (model prog w) A (.compLoop (.ListComp elt [⟨target,iter,[c],0⟩] scope pos) 0 it acc env) R s:=by
 refine codeAny_loop rfl I (fun n s hI=>?_) n h
 show wpAny _ _ ((compTurn (.ListComp elt [⟨target,iter,[c],0⟩] scope pos) 0 it acc env).onRaise (fun x=>do noteFrame x env;theTreesLotGoes x)) _ _ s
 refine wpAny_noted ?_
 rw [compTurn_list]
 refine wpAny_bind (wpAny_standAt (wpAny_bind (wpAny_mono (turn n s hI) (fun r s₁ h₁=>?_) fun _ _ h'=>h'.elim)))
 cases r with
 | none=>exact wpAny_pure h₁
 | some v =>
  refine wpAny_bind (wpAny_mono h₁ (fun _ s₁' h₁'=>wpAny_bind (wpAny_mono h₁' (fun _ s₂ h₂=>?_) fun _ _ h'=>h'.elim)) fun _ _ h'=>h'.elim)
  refine wpAny_bind (wpAny_tests_one (wpAny_mono h₂ (fun b s₂' h₂'=>?_) fun _ _ h'=>h'.elim))
  cases b with
  | false=>exact wpAny_pure ⟨rfl,h₂'⟩
  | true =>
   exact wpAny_bind (wpAny_bind (wpAny_mono h₂' (fun x s₃ h₃=>wpAny_bind (wpAny_mono h₃ (fun _ s₄ h₄=>wpAny_pure (wpAny_pure ⟨rfl,h₄⟩)) fun _ _ h'=>h'.elim)) fun _ _ h'=>h'.elim))
end
noncomputable def aLI (wi:TI) (fr:List (Option Nat)) (g:TG) (tc:TT) (te:TE):TE:=fun σ H Q=>wi σ H fun J H1=>∃ W:Nat->Nat->List V->Hp->Prop,(∃ m,W 0 m [] H1)/\∀ i m ys H,W i m ys H ->
 (J.stop i H/\ys.length<=sizeLine/\∀ p,H p = none->Q (.ref p) (upd H p (.lst ys))) ∨
 (J.go i H/\ys.length<=sizeLine/\∀ x H',J.yld i H x H'->g x (nV fr σ) H' fun σ2 H2=>tc σ2 H2 fun b H2'=>if b = true then te σ2 H2' fun y H3=>∃ m',m' < m/\W (i + 1) m' (ys ++ [y]) H3 else ∃ m',m' < m/\W (i + 1) m' ys H2')
theorem aD8 {X:Cx} {elt iter tg cnd:Expr} {scope:Scope} {pos pos2:Pos} {N':List Str} {fr:List (Option Nat)} {wi:TI} {g:TG} {tc:TT} {te:TE} (S:dZ X N' fr scope) (hc:X.calm = true) (hi:PI X tg iter wi)
  (hg:∀ C s H fp pins,PG (X.blk N' scope C s H fp pins) tg g) (hcc:∀ C s H fp pins,PT (X.blk N' scope C s H fp pins) cnd tc) (he:∀ C s H fp pins,PE (X.blk N' scope C s H fp pins) elt te) (hs:∀ x,foldedSetIterable iter X.env x = pure x)
  {pins:List (Addr × Obj)} {s:Shared} {σ:St} {H:Hp} {Q:VK} (I:Inv X pins σ H s) (h:aLI wi fr g tc te σ H Q) (use:Option (Value->Sem Unit)) (Post:Value->Shared->Prop)
  (fin:∀ D C H' s4 m,Inv X pins σ H' s4->s4.heap.Ns C m->CF X pins H' C->Q (.ref D) H'->compPost (model X.prog X.w) X.A X.xe use Post (.ref D) C (.ok .next) s4) :
  wpAny (model X.prog X.w) X.A (comprehension (.ListComp elt [⟨tg,iter,[cnd],0⟩] scope pos) scope X.env pos2 (newList []) false (eval iter X.env) use) Post X.xe s:=by
 refine wpAny_comprehension_free (use:=use) rfl hs (sZ (S.hasC I.ok)) S.kind S.names ?_
 show wpAny _ _ (eval iter X.env) _ _ s
 refine thn (hi pins s σ H _ I h) fun v s1 h1=>thn h1 fun itv s2 h2=>?_
 obtain ⟨it,fp,tn,J,H2,e,I2,T,st2,f2,W,⟨m0,w0⟩,turn⟩:=h2
 subst e
 refine wpAny_newObj_type (wpAny_newFunctionEnv S.nocell (by intro y hy;simp at hy) (fun h₁ hns₁ hsb₁=>?_) S.kind)
 dsimp only at hns₁ hsb₁ ⊢
 generalize hHp:s2.heap.push { cls:=.type "list",dict:=none,data:=.seq ([]:List Value).toArray } = HP at hns₁ hsb₁ ⊢
 have hC:HP.objs.size = s2.heap.objs.size + 1:=by rw [<- hHp,Heap.size_push]
 generalize hCe:HP.objs.size = C at hns₁ hsb₁ ⊢
 generalize hDe:s2.heap.objs.size = D at hC ⊢
 have hDC:D ≠ C:=by omega
 have hCle:s2.heap.objs.size<=C:=by omega
 have old:∀ b o,s2.heap.get? b = some o->h₁.get? b = some o:=fun b o e=>hsb₁.extBut b o (Nat.ne_of_lt (Nat.lt_of_lt_of_le (Heap.lt_size e) hCle)) (Heap.get?_push_of_some _ (hHp ▸ Heap.get?_push_of_some _ e))
 have hD1:h₁.PlainList D #[]:=⟨_,by
  refine hsb₁.extBut _ _ hDC (Heap.get?_push_of_some _ ?_)
  rw [<- hHp,<- hDe]
  exact Heap.get?_push_size _ rfl⟩
 have ltf:∀ b ∈ fp,b < D:=fun b hb=>by
  obtain ⟨o,e,_⟩:=T.obj _ _ st2 b hb
  exact Nat.lt_of_lt_of_eq (Heap.lt_size e) hDe
 have J0:=aCF (s1:={ s2 with heap:=h₁,toks:=s2.toks + ([]:List (Str × Value)).length }) S I2 f2 (fun b hb=>let ⟨o,e,_⟩:=T.obj _ _ st2 b hb;⟨o,e⟩) rfl rfl hCle old hns₁
 have ltC:∀ b,b < D->b ≠ C:=fun b hb=>Nat.ne_of_lt (Nat.lt_of_lt_of_le hb (by rw [<- hDe];exact hCle))
 have old2:∀ b o,s2.heap.get? b = some o->b < D:=fun b o e=>Nat.lt_of_lt_of_eq (Heap.lt_size e) hDe
 have neD:∀ b o,s2.heap.get? b = some o->b ≠ D:=fun b o e=>Nat.ne_of_lt (old2 b o e)
 have hDs:s2.heap.objs.size<=D:=Nat.le_of_eq hDe
 have hDfs:D ∉ frs X.stack:=fun hb=>by
  rcases List.mem_cons.mp (I2.stkSub D hb) with z | z
  ·have:=I2.lt
   rw [<- z] at this
   exact absurd (Nat.lt_of_lt_of_le this hDs) (Nat.lt_irrefl _)
  ·exact I2.nofs hDs z
 have cellD:∀ x c,X.env.cells.lookup x = some c->c ≠ D/\c ≠ C:=fun x c e=>by
  obtain ⟨v,o,ho,_⟩:=I2.cell x c e
  exact ⟨neD c o ho,ltC c (old2 c o ho)⟩
 have pinD:∀ p ∈ X.pn ++ pins,p.1 ≠ D/\p.1 ≠ C:=fun p hp=>by
  have e:=(I2.pin p hp).1
  exact ⟨neD _ _ e,ltC _ (old2 _ _ e)⟩
 have fpok:∀ (pl:List (Addr × Obj)) (H':Hp),(∀ b ∈ fp,H' b = none)->(∀ p ∈ pl,∀ b ∈ fp,p.1 ≠ b)->∀ b ∈ fp,vP (X.blk N' scope C s2 H2 fp pins) pl H' b:=fun pl H' hn hpl b hb=>by
  refine ⟨hn b hb,ltC b (ltf b hb),J0.ok.exfs b hb,.inl hb,(J0.ok.exf b hb).2,fun p hp=>?_⟩
  rcases List.mem_append.mp hp with z | z
  ·exact (f2 b hb).2.2.2.2.2 p z
  ·exact hpl p z b hb
 have loop:codeAny (model X.prog X.w) X.A (.compLoop (.ListComp elt [⟨tg,iter,[cnd],0⟩] scope pos) 0 (.ref it) (.ref D) (compEnvC scope (clo X.env.cells scope.names []) C X.env))
   (compPost (model X.prog X.w) X.A X.xe use Post (.ref D) C) { s2 with heap:=h₁,toks:=s2.toks + ([]:List (Str × Value)).length }:=by
  refine mI (fun n s'=>∃ i H' ys its,Inv (X.blk N' scope C s2 H2 fp pins) [] (nV fr σ) H' s'/\tn i s'.heap/\(∀ b ∈ fp,H' b = none)/\s'.heap.PlainList D its/\H' D = none/\bT ys its.toList/\W i n ys H') ?_ m0
   ⟨0,H2,[],#[],J0,T.keep _ _ _ st2 fun b hb o e=>old b o e,fun b hb=>(f2 b hb).1,hD1,I2.hok.fresh hDs,.nil,w0⟩
  rintro n s3 ⟨i,H3,ys,its,I3,st3,fr3,⟨nn,pl3⟩,hD3,rv3,w3⟩
  have I3p:Inv (X.blk N' scope C s2 H2 fp pins) [(D,{ cls:=.type "list",data:=.seq its nn })] (nV fr σ) H3 s3:=I3.pins_of fun p hp=>by
   have e:=List.mem_singleton.mp hp
   subst e
   exact ⟨pl3,hD3,hDC,hDfs,fun v z=>by cases z⟩
  have pf:∀ p ∈ [((D,{ cls:=.type "list",data:=.seq its nn }):Addr × Obj)],∀ b ∈ fp,p.1 ≠ b:=fun p hp b hb=>by
   have e:=List.mem_singleton.mp hp
   subst e
   exact (Nat.ne_of_lt (ltf b hb)).symm
  rcases turn i n ys H3 w3 with ⟨stop,hz,q⟩ | ⟨go,hz,step⟩
  ·refine thn (T.done (X.blk N' scope C s2 H2 fp pins) rfl rfl rfl hc i _ s3 _ H3 (fun _ _=>False) I3p (fpok _ H3 fr3 pf) st3 stop) fun r s4 ⟨hr,I4⟩=>?_
   subst hr
   obtain ⟨mm,hn4,_⟩:=id I4.loc
   have pD:=(I4.pin _ (List.mem_append_right _ List.mem_cons_self)).1
   have IX:Inv X pins σ H3 s4:=I2.call' I4.os I4.base I4.hok I4.bare fun b hb=>⟨(f2 b hb).2.2.2.1,(f2 b hb).2.1,(f2 b hb).2.2.2.2.1,(f2 b hb).2.2.2.2.2⟩
   have CL:C ≠ X.env.locals:=(Nat.ne_of_lt (Nat.lt_of_lt_of_le I2.lt hCle)).symm
   have DL:D ≠ X.env.locals:=(Nat.ne_of_lt (Nat.lt_of_lt_of_le I2.lt hDs)).symm
   refine fin D C (upd H3 D (.lst ys)) s4 mm (IX.track hD3 (Nat.le_trans I2.sz hDs) DL (fun x c e=>(cellD x c e).1) (fun p hp=>(pinD p hp).1) ⟨hz,its.toList,nn,rv3,pD⟩) hn4 ⟨by rw [bG (Ne.symm hDC)];exact I4.free,CL,Nat.le_trans I2.sz hCle,fun x c e=>(cellD x c e).2,fun p hp=>(pinD p hp).2⟩ (q D hD3)
  ·refine thn (T.item (X.blk N' scope C s2 H2 fp pins) rfl rfl rfl hc i _ s3 _ H3 (fun _ _=>False) I3p (fpok _ H3 fr3 pf) st3 go) fun r s4 ⟨u,hr,h4⟩=>?_
   subst hr
   refine thn h4 fun _ s5 ⟨x,H5,I5,r5,y5,st5,fr5⟩=>?_
   have I5':=I5.pinned (fpok _ H5 fr5 pf) (T.obj _ _ st5)
   refine thn (hg C s2 H2 fp pins _ s5 _ H5 x u _ I5' r5 (step x H5 y5)) fun _ s6 ⟨σ6,H6,I6,q6⟩=>?_
   refine thn (hcc C s2 H2 fp pins _ s6 σ6 H6 _ I6 q6) fun bb s6' ⟨H6',I6',q6'⟩=>?_
   cases bb with
   | false =>
    obtain ⟨m',hm,w7⟩:=q6'
    obtain ⟨pD,nD,_⟩:=I6'.pin _ (List.mem_append_right _ (List.mem_append_left _ List.mem_cons_self))
    have I7a:Inv (X.blk N' scope C s2 H2 fp pins) [] σ6 H6' s6':=I6'.pins_of fun p hp=>nomatch hp
    refine ⟨m',hm,i + 1,H6',ys,its,sQ S I2 I7a,?_,fun b hb=>?_,⟨nn,pD⟩,nD,rv3,w7⟩
    ·refine T.keep _ _ _ st5 fun b hb o e=>(I6'.pin (b,o) (List.mem_append_right _ (List.mem_append_right _ (eU hb e)))).1
    ·obtain ⟨o,e,d⟩:=T.obj _ _ st5 b hb
     exact (I6'.pin (b,o) (List.mem_append_right _ (List.mem_append_right _ (eU hb e)))).2.1
   | true =>
   refine thn (he C s2 H2 fp pins _ s6' σ6 H6' _ I6' q6') fun yv s7 ⟨y,H7,I7,ry,m',hm,w7⟩=>?_
   obtain ⟨pD,nD,_⟩:=I7.pin _ (List.mem_append_right _ (List.mem_append_left _ List.mem_cons_self))
   have lz:its.size<=sizeLine:=by
    have e:ys.length = its.size:=by rw [rv3.length];simp
    rw [<- e];exact hz
   refine wpAny_list_append_plain (hsz:=lz) ⟨nn,pD⟩ fun h8 pl8 sb8=>?_
   have I7a:Inv (X.blk N' scope C s2 H2 fp pins) [] σ6 H7 s7:=I7.pins_of fun p hp=>nomatch hp
   have I8:Inv (X.blk N' scope C s2 H2 fp pins) [] σ6 H7 { s7 with heap:=h8,toks:=s7.toks }:=I7a.turned (it:=D) (fun b o hb e=>sb8.extBut b o hb e) nD hDC (.inr hDs) (fun x c e=>(cellD x c (S.sub I2.ok e)).1) fun p hp=>by
    rw [List.append_nil] at hp
    exact (pinD p hp).1
   refine ⟨m',hm,i + 1,H7,ys ++ [y],its.push yv,sQ S I2 I8,?_,fun b hb=>?_,pl8,nD,?_,w7⟩
   ·refine T.keep _ _ _ st5 fun b hb o e=>sb8.extBut b o (Nat.ne_of_lt (ltf b hb)) (I7.pin (b,o) (List.mem_append_right _ (List.mem_append_right _ (eU hb e)))).1
   ·obtain ⟨o,e,d⟩:=T.obj _ _ st5 b hb
    exact (I7.pin (b,o) (List.mem_append_right _ (List.mem_append_right _ (eU hb e)))).2.1
   ·rw [Array.toList_push]
    exact rv3.append (.cons ry .nil)
 exact codeAny_compStart_list loop (T.self _ _ _ _ _ (T.keep _ _ _ st2 fun b hb o e=>old b o e) loop)
theorem aJS {X:Cx} {elt iter tg cnd:Expr} {scope:Scope} {pos:Pos} {N':List Str} {fr:List (Option Nat)} {wi:TI} {g:TG} {tc:TT} {te:TE} (S:dZ X N' fr scope) (hc:X.calm = true) (hi:PI X tg iter wi)
  (hg:∀ C s H fp pins,PG (X.blk N' scope C s H fp pins) tg g) (hcc:∀ C s H fp pins,PT (X.blk N' scope C s H fp pins) cnd tc) (he:∀ C s H fp pins,PE (X.blk N' scope C s H fp pins) elt te) (hs:∀ x,foldedSetIterable iter X.env x = pure x:=by intro _;rfl) :
  PE X (.ListComp elt [⟨tg,iter,[cnd],0⟩] scope pos) (aLI wi fr g tc te):=by
 intro pins s σ H Q I h
 rw [eval_ListComp]
 refine aD8 S hc hi hg hcc he hs I h none (EP X pins σ Q) fun D C H' s4 m J hn F q=>⟨m,hn,fun h' sb=>?_⟩
 exact ⟨.ref D,H',J.turned (t':=s4.toks) (it:=C) (fun b o hb e=>sb.extBut b o hb e) F.none F.loc (.inr F.sz) F.cel F.pin,rfl,q⟩
end L2
namespace Dd
open PySem PySem.Spec PyProof.Rows L2
noncomputable def aFp (at':Option Addr) (ds:List D) (ρ0:cF) (g:DG) (tc:DT) (te:DE) (M:DM) (Q:DQ):Prop:=ds.length<=1000/\∃ Pv:Nat->List D->DM->Prop,Pv 0 [] M /\
 (∀ i ys M,i<=ds.length->Pv i ys M->∀ a,at' = some a->M a = some ds) /\
 (∀ i d ys M,ds[i]? = some d->Pv i ys M->g d ρ0 M fun ρ2 M2=>tc ρ2 M2 fun b M2'=>if b = true then te ρ2 M2' fun y M3=>Pv (i + 1) (ys ++ [y]) M3 else Pv (i + 1) ys M2') /\
 ∀ ys M,ys.length<=ds.length->Pv ds.length ys M->∀ p:Addr,M p = none->Q (.ref p) (bE M p ys)
noncomputable def aFd (tl:DE) (fr:List (Option Nat)) (g:DG) (tc:DT) (te:DE):DE:=fun ρ M Q=>tl ρ M fun d M1=>match d with
 | .fz ds=>aFp none ds (qZ fr ρ) g tc te M1 Q
 | .ref a=>∃ ds,M1 a = some ds/\aFp (some a) ds (qZ fr ρ) g tc te M1 Q
 | _=>False
section
variable {X:Cx} {g:DG} {tc:DT} {te:DE}
theorem aCI {K:PySem.W.Frag} {a':Option Addr} {ds:List D} {fr:List (Option Nat)} {σ:L2.St} {ρ:cF} {M:DM} {H0 H:Hp} {J:It} {Q:VK} {Q':DQ} (ex0:Ext H0 H) (re:eZ K H ρ σ) (hm:bK K M H) (h:aFp a' ds (qZ fr ρ) g tc te M Q') (kq:∀ v H',LQ K H0 Q' v H'->Q v H')
  (seq:∀ H',Ext H H'->(∀ M',bK K M' H'->(∀ a,a' = some a->M' a = some ds)->∃ xs,bN K H' ds xs/\(∀ i,xs.length<=i->J.stop i H')/\(∀ i,i < xs.length->J.go i H')/\∀ i x H2,J.yld i H' x H2->H2 = H'/\xs[i]? = some x)) :
  ∃ W:Nat->Nat->List V->Hp->Prop,(∃ m,W 0 m [] H)/\∀ i m ys H,W i m ys H ->
   (J.stop i H/\ys.length<=sizeLine/\∀ p,H p = none->Q (.ref p) (upd H p (.lst ys))) ∨
   (J.go i H/\ys.length<=sizeLine/\∀ x H',J.yld i H x H'->xG K g x (nV fr σ) H' fun σ2 H2=>aFr K tc σ2 H2 fun b H2'=>if b = true then low K te σ2 H2' fun y H3=>∃ m',m' < m/\W (i + 1) m' (ys ++ [y]) H3 else ∃ m',m' < m/\W (i + 1) m' ys H2'):=by
 obtain ⟨hl,Pv,p0,hat,step,done⟩:=h
 refine ⟨fun i m ysV H'=>∃ ys M',bN K H' ys ysV/\bK K M' H'/\Ext H H'/\m = ds.length - i/\i<=ds.length/\ys.length<=i/\Pv i ys M',⟨ds.length,[],M,cO,hm,.refl H,rfl,Nat.zero_le _,Nat.le_refl _,p0⟩,?_⟩
 rintro i m ysV H1 ⟨ys,M1,ry,hm1,e1,rfl,hi,ly,w1⟩
 obtain ⟨xs,rs,hst,hgo,hy⟩:=seq H1 e1 M1 hm1 (hat i ys M1 hi w1)
 have hll:=rs.length
 have lz:ysV.length<=sizeLine:=by rw [<- ry.length];exact Nat.le_of_lt (cY (by omega))
 by_cases hlt:i < ds.length
 ·refine .inr ⟨hgo i (by omega),lz,fun x H' y=>?_⟩
  obtain ⟨rfl,hx⟩:=hy i x H' y
  obtain ⟨d,hd,rd⟩:=rs.getV hx
  refine ⟨d,qZ fr ρ,M1,_,rd,aBr (re.ext e1) fr,hm1,step i d ys M1 hd w1,fun σ2 H2 ⟨ρ2,M2,re2,hm2,e2,q2⟩=>?_⟩
  refine ⟨ρ2,M2,_,re2,hm2,q2,fun bb H2' ⟨M2',hm2',e2',q2'⟩=>?_⟩
  cases bb with
  | false=>exact ⟨ds.length - (i + 1),by omega,ys,M2',ry.ext (e2.trans e2'),hm2',(e1.trans e2).trans e2',rfl,hlt,by omega,q2'⟩
  | true =>
   refine ⟨ρ2,M2',_,re2.ext e2',hm2',q2',fun v H3 ⟨dy,M3,rdy,hm3,e3,q3⟩=>?_⟩
   exact ⟨ds.length - (i + 1),by omega,ys ++ [dy],M3,(ry.ext ((e2.trans e2').trans e3)).append (cC rdy cO),hm3,((e1.trans e2).trans e2').trans e3,rfl,hlt,by rw [List.length_append];exact Nat.succ_le_succ ly,q3⟩
 ·have e:i = ds.length:=by omega
  subst e
  exact .inl ⟨hst _ (by omega),lz,fun p hp=>kq _ _ ⟨.ref p,_,fY,hm1.lnew hp ry,(ex0.trans e1).trans (Ext.new hp _),done ys M1 ly w1 p (hm1.fresh hp)⟩⟩
variable {elt iter tg cnd:Expr} {scope:Scope} {pos:Pos} {N':List Str} {fr:List (Option Nat)} {tl:DE} {ta:DA} {oN:List Str} {osc:Scope}
theorem aG8 (B:mH oN osc N' fr scope) (hc:X.calm = true) (hi:PDE X iter tl) (hg:∀ C s H fp pins,PG (X.blk N' scope C s H fp pins) tg (xG X.K g)) (hcc:∀ C s H fp pins,PT (X.blk N' scope C s H fp pins) cnd (aFr X.K tc)) (he:∀ C s H fp pins,PE (X.blk N' scope C s H fp pins) elt (low X.K te)) (hN:X.N = oN:=by rfl) (ho:X.env.scope = osc:=by rfl) (hs:∀ x,foldedSetIterable iter X.env x = pure x:=by intro _;rfl) :
  PDE X (.ListComp elt [⟨tg,iter,[cnd],0⟩] scope pos) (aFd tl fr g tc te) :=
 cM (aJS (B.scope hN ho) hc (tU hi) hg hcc he hs) fun σ H Q ⟨ρ,M,Q',re,hm,q,k⟩=>⟨ρ,M,_,re,hm,q,fun v H1 ⟨d,M1,rd,hm1,ex,q1⟩=>by
  cases d with
  | fz ds =>
   obtain ⟨a,xs,rfl,sq,rs⟩:=jZ rd
   exact ⟨a,rfl,⟨xs,sq.sq⟩,aCI ex (re.ext ex) hm1 q1 k fun H' e' M' hm' _=>⟨xs,rs.ext e',fun i hi=>⟨xs,(fF e' sq).sq,hi⟩,fun i hi=>⟨xs,xs[i],(fF e' sq).sq,by simp [hi]⟩,fun i x H2 y=>⟨y.1,y.2 xs (fF e' sq).sq⟩⟩⟩
  | ref a =>
   obtain ⟨ds,ha,q1⟩:=q1
   obtain rfl:=aT rd
   obtain ⟨xs,hx,rs⟩:=hm1.l a ds ha
   refine ⟨a,rfl,⟨xs,.of hx⟩,aCI ex (re.ext ex) hm1 q1 k fun H' e' M' hm' hat=>?_⟩
   obtain ⟨ys,hy,rs'⟩:=hm'.l a ds (hat a rfl)
   exact ⟨ys,rs',fun i hi=>⟨ys,.of hy,hi⟩,fun i hi=>⟨ys,ys[i],.of hy,by simp [hi]⟩,fun i x H2 y=>⟨y.1,y.2 ys (.of hy)⟩⟩
  | _=>exact q1.elim⟩
end
end Dd
namespace Dd
open PySem PySem.Spec PyProof.Rows L2 Mz
section
variable {X:Cx} {o e f:Expr} {to te tf:DE}
end
section
variable {X:Cx} {pins:List (Addr × Obj)} {σ:L2.St} {H:Hp} {s:Shared}
end
section
variable {X:Cx} {o:Expr} {to:DE}
noncomputable def aJJ (to:DE):DE:=fun ρ M Q=>to ρ M fun x M1=>match x with
 | .ref p=>∃ ds y,M1 p = some ds/\ds[ds.length - 1]? = some y/\Q y (bE M1 p ds.dropLast)
 | _=>False
theorem xN {K:PySem.W.Frag} {H:Hp} {ds:List D} {vs:List V} (h:bN K H ds vs):bN K H ds.dropLast vs.dropLast:=by
 rw [List.dropLast_eq_take,List.dropLast_eq_take,h.length]
 exact h.take _
theorem aKm {apos cpos:Pos} (ho:PDE X o to) (hbase:attributeBase o "pop" X.env (eval o X.env) = eval o X.env:=by rfl) (hline:(apos.endLine == cpos.line) = true:=by rfl) :
  PDE X (.Call (.Attribute o "pop" apos) [] [] cpos) (aJJ to) :=
 cM (aJo PySem.F.plainAttrs_list PySem.F.slot_list_pop PySem.F.type_list_pop aIk ho hbase hline) fun σ H Q ⟨ρ,M,Q',re,hm,q,k⟩=>⟨ρ,M,_,re,hm,q,fun v H1 ⟨d,M1,rd,hm1,e1,q1⟩=>by
  cases d with
  | ref p =>
   obtain rfl:=aT rd
   obtain ⟨ds,y,hp,hy,q1⟩:=q1
   obtain ⟨us,hu,ru⟩:=hm1.l p ds hp
   obtain ⟨w,hw,rw'⟩:=ru.get hy
   refine ⟨.inl ⟨rfl,us,.of hu⟩,p,us,w,rfl,rfl,hu,by rw [<- ru.length];exact hw,k _ _ ⟨y,_,rw'.ext (Ext.put hu _),hm1.put hu (xN ru),e1.trans (Ext.put hu _),q1⟩⟩
  | _=>exact q1.elim⟩
end
end Dd
namespace Dd
open PySem PySem.Spec PyProof.Rows L2
section
variable {X:Cx} {g:DG} {tc:DT} {te:DE}
variable {elt iter tg cnd:Expr} {scope:Scope} {pos:Pos} {N':List Str} {fr:List (Option Nat)} {tl:DE} {ta:DA} {oN:List Str} {osc:Scope}
theorem aEZ (B:mH oN osc N' fr scope) (hc:X.calm = true) (hi:ZE X iter tl) (hg:∀ C s H fp pins,ZG (X.blk N' scope C s H fp pins) tg g) (hcc:∀ C s H fp pins,ZT (X.blk N' scope C s H fp pins) cnd tc) (he:∀ C s H fp pins,ZE (X.blk N' scope C s H fp pins) elt te) (hN:X.N = oN:=by rfl) (ho:X.env.scope = osc:=by rfl) (hs:∀ x,foldedSetIterable iter X.env x = pure x:=by intro _;rfl):ZE X (.ListComp elt [⟨tg,iter,[cnd],0⟩] scope pos) (aFd tl fr g tc te):=.i (aG8 B hc hi.o (fun C s H fp pins=>(hg C s H fp pins).o) (fun C s H fp pins=>(hcc C s H fp pins).o) (fun C s H fp pins=>(he C s H fp pins).o) hN ho hs)
end
section
variable {X:Cx} {o e f:Expr} {to te tf:DE}
end
section
variable {X:Cx} {pins:List (Addr × Obj)} {σ:L2.St} {H:Hp} {s:Shared}
end
section
variable {X:Cx} {o:Expr} {to:DE}
theorem aCD {apos cpos:Pos} (ho:ZE X o to) (hbase:attributeBase o "pop" X.env (eval o X.env) = eval o X.env:=by rfl) (hline:(apos.endLine == cpos.line) = true:=by rfl):ZE X (.Call (.Attribute o "pop" apos) [] [] cpos) (aJJ to):=.i (aKm ho.o hbase hline)
end
end Dd
namespace Dd
open PySem PySem.Spec PyProof.Rows L2
section
variable {P:Program} {w:World} {K:PySem.W.Frag} {mg:Str->Option Value} {base:Heap}
end
section
variable {X:Cx} {n x:Str} {C a:Addr} {o:Obj} {p p1 pos:Pos} {j k k':Nat} {sp:Addr->DM->DQ->Prop}
end
end Dd
namespace Dd
open PySem PySem.Spec PyProof.Rows L2
section
open PySem.SeqAt
open PySem.AutoSeq1 (wpAny_loadPart')
open PySem.MeetsSeq PySem.MeetsSeq2 PySem.MeetsSeq3
end
section
variable {prog:Program} {w:World} {A:Around} {E:Value->Shared->Prop} {s:Shared}
end
section
variable {X:Cx} {j:Nat}
end
end Dd
namespace Dd
open PySem
theorem us0 {us:List Value} (h:us.length = 0):us = []:=List.length_eq_zero_iff.mp h
theorem us1 {us:List Value} (h:us.length = 1):∃ a,us = [a]:=List.length_eq_one_iff.mp h
theorem us2 {us:List Value} (h:us.length = 2):∃ a b,us = [a,b]:=by
 cases us with
 | nil=>cases h
 | cons a r=>obtain ⟨b,rfl⟩:=us1 (us:=r) (Nat.succ.inj h);exact ⟨a,b,rfl⟩
theorem us3 {us:List Value} (h:us.length = 3):∃ a b c,us = [a,b,c]:=by
 cases us with
 | nil=>cases h
 | cons a r=>obtain ⟨b,c,rfl⟩:=us2 (us:=r) (Nat.succ.inj h);exact ⟨a,b,c,rfl⟩
theorem us4 {us:List Value} (h:us.length = 4):∃ a b c d,us = [a,b,c,d]:=by
 cases us with
 | nil=>cases h
 | cons a r=>obtain ⟨b,c,d,rfl⟩:=us3 (us:=r) (Nat.succ.inj h);exact ⟨a,b,c,d,rfl⟩
theorem us5 {us:List Value} (h:us.length = 5):∃ a b c d e,us = [a,b,c,d,e]:=by
 cases us with
 | nil=>cases h
 | cons a r=>obtain ⟨b,c,d,e,rfl⟩:=us4 (us:=r) (Nat.succ.inj h);exact ⟨a,b,c,d,e,rfl⟩
end Dd
namespace Dd
open PySem PySem.Spec PyProof.Rows L2
noncomputable instance aMx:DecidableEq D:=fun a b=>Classical.propDecidable (a = b)
noncomputable def aLE:Nat->D->Bool
 | _,.int _=>true
 | _,.str _=>true
 | n + 1,.tup ds=>ds.all (aLE n)
 | _,_=>false
section
variable {prog:Program} {w:World}
end
end Dd
namespace Dd
open PySem PySem.Spec PyProof.Rows L2
section
variable {prog:Program} {w:World} {A:Around} {E:Value->Shared->Prop} {s:Shared} {it d:Addr} {i ep:Nat} {es:Array DictEntry}
end
end Dd
namespace Dd
open PySem PySem.Spec PyProof.Rows L2
structure TK (kvs:List (D × D)):Prop where
 key:∀ p ∈ kvs,(∃ ds,p.1 = .tup ds)/\aLE 6 p.1 = true
 nd:(kvs.map (·.1)).Nodup
theorem TK.nil:TK []:=⟨(fun _ h=>(nomatch h)),List.nodup_nil⟩
noncomputable def KX (K:PySem.W.Frag) (H:Hp) (p:D × D) (x:D × Addr × Value):Prop:=p.1 = x.1/\Rep K H p.1 (.ref x.2.1)/\∃ vv,bO vv x.2.2/\Rep K H p.2 vv
section
variable {X:Cx} {pins:List (Addr × Obj)} {σ:L2.St} {H:Hp} {s:Shared}
theorem Paired.len {α β:Type} {F:α->β->Prop}:∀ {l:List α} {l':List β},Paired F l l'->l.length = l'.length
 | _,_,.nil=>rfl
 | _,_,.cons _ t=>by rw [List.length_cons,List.length_cons,Paired.len t]
theorem aFy {o:Obj} {es:Array DictEntry} {ep:Nat} (h:o.ExactDict) (d:o.data = .dict es ep):o = { cls:=.type "dict",data:=.dict es ep }:=by
 obtain ⟨c,di,dt,sl⟩:=o
 obtain ⟨h1,h2,h3⟩:=h
 cases h1;cases h2;cases h3;cases d
 rfl
theorem aAU {P:Program} {w:World} {H:Hp} {h:Heap} {a:Addr} {es:List DictEntry} (x:nY a es h):eN P w H h a (.ext (nY a es)) :=
 ⟨x,let ⟨_,_,_,e⟩:=x;⟨_,e⟩,fun h1 h2 ⟨y1,y2,ep,e⟩ k=>⟨y1,y2,ep,k _ e⟩⟩
end
section
variable {X:Cx} {pos:Pos}
noncomputable def sG:List (DE × DE)->cF->DM->(List (D × D)->DM->Prop)->Prop
 | [],_,M,Q=>Q [] M
 | (tk,tv) :: r,ρ,M,Q=>tk ρ M fun x M1=>tv ρ M1 fun y M2=>sG r ρ M2 fun ps M3=>Q ((x,y) :: ps) M3
noncomputable def PrR (K:PySem.W.Frag) (H:Hp) (p:D × D) (q:Value × Value):Prop:=∃ a b,bO a q.1/\Rep K H p.1 a/\bO b q.2/\Rep K H p.2 b
theorem PrR.ext {K:PySem.W.Frag} {H H':Hp} {p:D × D} {q:Value × Value} (h:PrR K H p q) (e:Ext H H'):PrR K H' p q:=let ⟨a,b,c,d,f,g⟩:=h;⟨a,b,c,d.ext e,f,g.ext e⟩
noncomputable def aHm (X:Cx) (pos:Pos) (keys:List (Option Expr)) (values:List Expr) (trs:List (DE × DE)):Prop :=
 ∀ (pins:List (Addr × Obj)) (s:Shared) (σ:L2.St) (ρ:cF) (H:Hp) (M:DM) (Q:List (D × D)->DM->Prop),Inv X pins σ H s->eZ X.K H ρ σ->bK X.K M H->sG trs ρ M Q ->
  wpAny (model X.prog X.w) X.A (evalPairs (pairTrees keys values X.env pos)) (fun vs s'=>∃ ps H' M',Inv X pins σ H' s'/\Paired (PrR X.K H') ps vs/\bK X.K M' H'/\Ext H H'/\Q ps M') X.xe s
theorem aGu:aHm X pos [] [] []:=fun pins s σ ρ H M Q I re hm h=>pairTrees_nil_walk ⟨[],H,M,I,.nil,hm,.refl H,h⟩
theorem aBz {k v:Expr} {ks:List (Option Expr)} {vs:List Expr} {tk tv:DE} {trs:List (DE × DE)} (hk:PDE X k tk) (hv:PDE X v tv) (hr:aHm X pos ks vs trs):aHm X pos (some k :: ks) (v :: vs) ((tk,tv) :: trs) :=
 fun pins s σ ρ H M Q I re hm h =>
  pairTrees_cons_walk (thn (hk pins s σ H (LQ X.K H fun x M1=>tv ρ M1 fun y M2=>sG trs ρ M2 fun ps M3=>Q ((x,y) :: ps) M3) I ⟨ρ,M,_,re,hm,h,fun _ _ z=>z⟩) fun u s1 ⟨x,H1,I1,rx,d1,M1,r1,hm1,e1,q1⟩ =>
   thn (hv pins s1 σ H1 (LQ X.K H1 fun y M2=>sG trs ρ M2 fun ps M3=>Q ((d1,y) :: ps) M3) I1 ⟨ρ,M1,_,re.ext e1,hm1,q1,fun _ _ z=>z⟩) fun u2 s2 ⟨y,H2,I2,ry,d2,M2,r2,hm2,e2,q2⟩ =>
    thn (hr pins s2 σ ρ H2 M2 _ I2 ((re.ext e1).ext e2) hm2 q2) fun ws s3 ⟨ps,H3,M3,I3,rel,hm3,e3,q3⟩ =>
     ⟨(d1,d2) :: ps,H3,M3,I3,.cons ⟨x,y,rx,(r1.ext e2).ext e3,ry,r2.ext e3⟩ rel,hm3,(e1.trans e2).trans e3,q3⟩)
end
end Dd
namespace Dd
open PySem PySem.W PyProof.Rows
section
variable {n:Nat} {lt:Nat->Nat->Bool} {p:Array Nat}
end
section
variable {n:Nat} {p:Array Nat}
end
end Dd
namespace Dd
open PySem PySem.Spec PyProof.Rows L2
section
variable {prog:Program} {w:World} {A:Around} {E:Value->Shared->Prop} {s:Shared}
end
section
variable {X:Cx} {pins:List (Addr × Obj)} {σ:L2.St} {H:Hp} {s:Shared}
end
end Dd
namespace L2
open PySem PySem.Spec PyProof.Rows
end L2
namespace Dd
open PySem PySem.Spec PyProof.Rows L2
section
variable {X:Cx} {pos:Pos} {iter tg:Expr} {body:List Stmt} {tl:DE} {g:DG} {tb:DS} {ta:DA}
theorem aMr {CX:CXT} {P:Program} {w:World} {K:PySem.W.Frag} {mg:Str->Option Value} {base:Heap} {N:List Str} {qual:Str} {scope:Scope} {f:Addr} {cd:Value} {A:Around} {outer:List Env} {s:Shared} {H:Hp} {E:XK}:(kA CX P w K mg base N qual scope f cd A outer s H E).w = w:=rfl
end
end Dd
namespace L2
open PySem PySem.Spec PyProof.Rows
section
variable {prog:Program} {w:World} {A:Around} {E:Value->Shared->Prop} {s:Shared}
end
end L2
namespace L2
open PySem PySem.Spec PyProof.Rows
end L2
namespace Dd
open PySem PySem.Spec PyProof.Rows L2
section
variable {X:Cx} {pos:Pos} {iter tg:Expr} {body:List Stmt} {tl:DE} {g:DG} {tb:DS} {ta:DA}
end
end Dd
namespace L2
open PySem PySem.Spec PyProof.Rows
noncomputable def ItE (K:PySem.W.Frag) (l:Addr):It :=
 ⟨
  fun i H=>∃ xs x,SqL K H l xs/\xs[i]? = some x,
  fun i H v H'=>∃ p x,v = .ref p/\H p = none/\H' = upd H p (.tup [.int i,x])/\∀ xs,SqL K H l xs->xs[i]? = some x,
  fun i H=>∃ xs,SqL K H l xs/\xs.length<=i⟩
theorem aDP {P:Program} {w:World} {K:PySem.W.Frag} {elts:List Expr} {kk:Nat} {tpos:Pos} {e it l:Addr} (ne:e ≠ it) :
  aFA P w K (.Tuple elts kk tpos) (ItE K l) [e,it] e (fun i h=>(∃ old,IsEnum h e it i old)/\h.IsListIter it l i) where
 mem:=by simp
 obj:=fun i h st b hb=>by
  obtain ⟨⟨old,he⟩,⟨o1,e1,c1,d1⟩⟩:=st
  simp only [List.mem_cons,List.not_mem_nil,or_false] at hb
  rcases hb with rfl | rfl
  ·exact ⟨_,he,fun v z=>by cases z⟩
  ·exact ⟨o1,e1,fun v z=>by rw [d1] at z;cases z⟩
 keep:=fun i h h' st k=>by
  obtain ⟨⟨old,he⟩,t1⟩:=st
  exact ⟨⟨old,k e (by simp) _ he⟩,t1.at fun o x=>k it (by simp) o x⟩
 item:=by
  intro X hP hw hK hc i pins s σ H E I hf st hg
  subst hP hw hK
  obtain ⟨xs,x,hq,hx⟩:=hg
  obtain ⟨⟨old,he⟩,t1⟩:=st
  obtain ⟨its,rv,p,hz⟩:=I.list hq
  obtain ⟨u,hu,ru⟩:=rv.get hx
  refine wpAny_pyNext_enum_item he t1 p.isList (x:=u) (by simpa using hu) ne fun h' a1 a2 a3 a4 a5=>?_
  refine ⟨_,rfl,wpAny_letOwnedTupleGo_enum (s:={ s with heap:=h',toks:=s.toks + 1 }) a1 fun h2 b1 b2=>?_⟩
  have lte:=Heap.lt_size he
  have nz:s.heap.objs.size ≠ e:=Nat.ne_of_gt lte
  have k2:∀ b o,b ∉ [e,it]->s.heap.get? b = some o->h2.get? b = some o:=fun b o hb z=>b2.extBut _ _ (fun q=>hb (by simp [q])) (a5 b o (fun q=>hb (by simp [q])) (fun q=>hb (by simp [q])) z)
  have e1:h2.IsListIter it l (i + 1):=a2.extBut b2.extBut (Ne.symm ne)
  have I2:Inv X pins σ (upd H s.heap.objs.size (.tup [.int i,x])) { s with heap:=h2 }:=I.turnedT (its:=[.int i s.toks,u]) k2 hf (Nat.le_refl _) (by show 2<=sizeLine;decide) (.cons ⟨_,rfl⟩ (.cons ru .nil)) ⟨_,b2.extBut _ _ nz a3,rfl,_,rfl⟩ fun b hb=>by
   simp only [List.mem_cons,List.not_mem_nil,or_false] at hb
   rcases hb with rfl | rfl
   ·exact ⟨_,b1⟩
   ·obtain ⟨o,e,_⟩:=e1;exact ⟨o,e⟩
  have I3:=I2.kept (t':=s.toks + 1) (h':=h2) fun b u z=>z
  refine ⟨.ref s.heap.objs.size,_,I3,rfl,⟨_,x,rfl,I.hok.fresh (Nat.le_refl _),rfl,fun xs' q1=>by rw [I.list_inj q1 hq];exact hx⟩,⟨⟨_,b1⟩,e1⟩,fun b hb=>?_⟩
  rw [bG]
  ·exact (hf b hb).1
  ·intro q
   subst q
   simp only [List.mem_cons,List.not_mem_nil,or_false] at hb
   obtain ⟨o1,g1,_⟩:=t1
   rcases hb with q | q
   ·exact nz q
   ·exact absurd (Heap.lt_size g1) (by rw [<- q];exact Nat.lt_irrefl _)
 done:=by
  intro X hP hw hK hc i pins s σ H E I hf st hg
  subst hP hw hK
  obtain ⟨xs,hq,hend⟩:=hg
  obtain ⟨⟨old,he⟩,t1⟩:=st
  obtain ⟨its,rv,p,hz⟩:=I.list hq
  have w1:=rv.length
  exact wpAny_pyNext_enum_end (I.ok.hd hc) he t1 p.isList (by simp;omega) fun h' k=>⟨rfl,I.turnedL (fun b o hb z=>k b o (fun q=>hb (by simp [q])) z) hf⟩
 self:=fun _ _ _ _ _ st h=>by obtain ⟨⟨old,he⟩,_⟩:=st;exact wpAny_pyIter_enum he h
noncomputable def aKY (K:PySem.W.Frag) (ta:TA):TI:=fun σ H R=>ta σ H fun vs H1=>∃ a xs,vs = [.ref a]/\SqL K H1 a xs/\R (ItE K a) H1
theorem aGO {X:Cx} {elts:List Expr} {kk:Nat} {tpos:Pos} {a:Expr} {ta:TA} {p pos:Pos} (hg:Gl X "enumerate") (hm:X.mg "enumerate" = none) (ha:PA X [a] ta) (hs:starEach [a] X.env = [(false,eval a X.env)]:=by rfl) :
  PI X (.Tuple elts kk tpos) (.Call (.Name "enumerate" p) [a] [] pos) (aKY X.K ta):=by
 intro pins s σ H R I h
 refine Call_ (wA I hg hm (show bootBuiltins "enumerate" = some (.type "enumerate") from rfl) (PyProof.Rows.callWith_type1 (thn (ha pos pins s σ H _ I h) fun us s1 ⟨vs,H1,I1,r1,q1⟩=>?_) (by rw [hs];rfl) (by rfl)))
 obtain ⟨l,xs,rfl,hq,q⟩:=q1
 obtain ⟨u1,rfl,e1⟩:=r1.one
 cases e1
 obtain ⟨its,rv,p,hz⟩:=I1.list hq
 refine call_enumerate_list p.isList fun h' b1 b2 b3 b4=>?_
 refine wpAny_pyIter_enum (s:={ s1 with heap:=h' }) b1 ?_
 refine ⟨s1.heap.objs.size + 1,[s1.heap.objs.size + 1,s1.heap.objs.size],_,_,H1,rfl,I1.kept (t':=s1.toks) b4,aDP (l:=l) (Nat.succ_ne_self _),⟨⟨_,b1⟩,b2⟩,fun b hb=>?_,q⟩
 have hb':s1.heap.objs.size<=b:=by
  simp only [List.mem_cons,List.not_mem_nil,or_false] at hb
  rcases hb with rfl | rfl<;>omega
 exact I1.fpOk hb' (I1.hok.fresh hb')
end L2
namespace Dd
open PySem PySem.Spec PyProof.Rows L2
section
variable {X:Cx} {pos:Pos} {iter tg elt:Expr} {body:List Stmt} {tl te:DE} {g:DG} {tb:DS} {ta:DA}
noncomputable def aKM (a:Addr) (ds:List D) (g:DG) (tb:DS):DS:=fun E ρ M=>∃ Pv:Nat->cF->DM->Prop,Pv 0 ρ M /\
 (∀ i ρ M,i<=ds.length->Pv i ρ M->M a = some ds) /\
 (∀ i d ρ M,ds[i]? = some d->Pv i ρ M->g (.tup [.int i,d]) ρ M fun ρ2 M2=>tb { E with nx:=Pv (i + 1),ct:=Pv (i + 1),bk:=E.nx } ρ2 M2)/\∀ ρ M,Pv ds.length ρ M->E.nx ρ M
noncomputable def aKV (K:PySem.W.Frag) (a:Addr) (ds:List D) (J:It) (H:Hp):Prop:=∀ H' M',Ext H H'->bK K M' H'->M' a = some ds->(∀ i,ds.length<=i->J.stop i H')/\(∀ i,i < ds.length->J.go i H')/\∀ i x H2,J.yld i H' x H2->Ext H' H2/\(∀ M',bK K M' H'->bK K M' H2)/\(i < ds.length->∃ d,ds[i]? = some d/\Rep K H2 (.tup [.int i,d]) x)
theorem aLW {K:PySem.W.Frag} {l:Addr} {ds:List D} {H:Hp}:aKV K l ds (ItE K l) H:=fun H' M' e' hm' b1=>by
 obtain ⟨us,hu,r1⟩:=hm'.l l ds b1
 have n1:=r1.length
 refine ⟨fun i hi=>⟨us,.of hu,by omega⟩,fun i hi=>⟨us,us[i]'(by omega),.of hu,by simp⟩,fun i x H2 ⟨pp,vx,e1,hn,e2,all⟩=>?_⟩
 subst e1 e2
 refine ⟨Ext.new hn _,fun M' h=>h.new hn _,fun hi=>?_⟩
 obtain ⟨dx,hdx,rdx⟩:=r1.getV (all us (.of hu))
 exact ⟨dx,hdx,cE (.of dF) (cC bY (cC (rdx.ext (Ext.new hn _)) cO))⟩
theorem aHS {K:PySem.W.Frag} {a:Addr} {ds:List D} {E:pT} {Dn:fO} {σ:L2.St} {ρ:cF} {M:DM} {H0 H:Hp} {J:It} (ex0:Ext H0 H) (re:eZ K H ρ σ) (hm:bK K M H) (k:iW K H0 Dn E) (h:aKM a ds g tb Dn ρ M) (seq:aKV K a ds J H) :
  ∃ W:Nat->Nat->L2.St->Hp->Prop,(∃ m,W 0 m σ H)/\∀ i m σ H,W i m σ H ->
   (J.stop i H/\E.nx σ H) ∨ (J.go i H/\∃ N:L2.St->Hp->Prop,(∀ σ' H',N σ' H'->∃ m',m' < m/\W (i + 1) m' σ' H')/\∀ x H',J.yld i H x H'->xG K g x σ H' fun σ2 H2=>aDR K tb { E with nx:=N,ct:=N,bk:=E.nx } σ2 H2):=by
 obtain ⟨Pv,p0,hat,step,done⟩:=h
 refine ⟨fun i m σ' H'=>∃ ρ' M',eZ K H' ρ' σ'/\bK K M' H'/\Ext H H'/\m = ds.length - i/\i<=ds.length/\Pv i ρ' M',⟨ds.length,ρ,M,re,hm,.refl H,rfl,Nat.zero_le _,p0⟩,?_⟩
 rintro i m σ1 H1 ⟨ρ1,M1,re1,hm1,e1,rfl,hi,w1⟩
 obtain ⟨hst,hgo,hy⟩:=seq H1 M1 e1 hm1 (hat i ρ1 M1 hi w1)
 by_cases hlt:i < ds.length
 ·refine .inr ⟨hgo i hlt,fun σ' H'=>∃ ρ' M',eZ K H' ρ' σ'/\bK K M' H'/\Ext H H'/\Pv (i + 1) ρ' M',fun σ' H' ⟨ρ',M',a,b,c,d⟩=>⟨ds.length - (i + 1),by omega,ρ',M',a,b,c,rfl,hlt,d⟩,fun x H' y=>?_⟩
  obtain ⟨ey,hmy,hd⟩:=hy i x H' y
  obtain ⟨d,hd,rd⟩:=hd hlt
  refine ⟨_,ρ1,M1,_,rd,re1.ext ey,hmy _ hm1,step i d ρ1 M1 hd w1,fun σ2 H2 ⟨ρ2,M2,re2,hm2,e2,q2⟩=>⟨ρ2,M2,_,re2,hm2,q2,?_⟩⟩
  have ex:=(e1.trans ey).trans e2
  exact ⟨fun σ' H' ⟨ρ',M',a,b,c,d⟩=>⟨ρ',M',a,b,ex.trans c,d⟩,fun v H' z=>k.rt v H' (z.back (ex0.trans ex)),fun σ' H' z=>k.nx σ' H' (z.back (ex0.trans ex)),fun σ' H' ⟨ρ',M',a,b,c,d⟩=>⟨ρ',M',a,b,ex.trans c,d⟩⟩
 ·have e:i = ds.length:=by omega
  subst e
  exact .inl ⟨hst _ (Nat.le_refl _),k.nx σ1 H1 ⟨ρ1,M1,re1,hm1,ex0.trans e1,done ρ1 M1 w1⟩⟩
noncomputable def aFa (ta:DA) (g:DG) (tb:DS):DS:=fun E ρ M=>ta ρ M fun ds M1=>match ds with
 | [.ref a]=>∃ xs,M1 a = some xs/\aKM a xs g tb E ρ M1
 | _=>False
theorem aF3 {elts:List Expr} {kk:Nat} {tpos:Pos} {a:Expr} {p pos':Pos} (hp:PassesOwn (model X.prog X.w) X.A X.env X.xe) (hc:X.calm = true) (hmg:X.mg "enumerate" = none) (ha:PDA X [a] ta) (hg:PDG X (.Tuple elts kk tpos) g) (hb:iV X body tb) (hgl:Gl X "enumerate":=by rfl) (hse:starEach [a] X.env = [(false,eval a X.env)]:=by rfl)
  (hs:∀ x,foldedSetIterable (.Call (.Name "enumerate" p) [a] [] pos') X.env x = pure x:=by intro _;rfl):PDS X (.For (.Tuple elts kk tpos) (.Call (.Name "enumerate" p) [a] [] pos') body [] pos) (aFa ta g tb) :=
 gM (aAK hp hc (aGO hgl hmg ha hse) hg hb hs) fun E σ H ⟨ρ,M,Dn,re,hm,q,k⟩=>⟨ρ,M,_,re,hm,q,fun vs H1 ⟨ds,M1,rs,hm1,ex,q1⟩=>by
  match ds,q1 with
  | [.ref l],q1 =>
   obtain ⟨xs,a1,q1⟩:=q1
   obtain ⟨v1,rfl,rv1⟩:=iB rs
   obtain rfl:=aT rv1
   obtain ⟨us,hu,r1⟩:=hm1.l l xs a1
   exact ⟨l,us,rfl,.of hu,aHS ex (re.ext ex) hm1 k q1 aLW⟩⟩
variable {scope:Scope} {N':List Str} {fr:List (Option Nat)} {oN:List Str} {osc:Scope}
end
end Dd
namespace Dd
open PySem PySem.Spec PyProof.Rows L2
theorem aBa:fillsNumberSlot (.type "tuple") "mul" = pure false :=
 PySem.fillsNumberSlot_seq (id:="tuple.__mul__") (r:=some (.builtin "tuple.__rmul__")) F.slot_tuple_mul.lookup (by decide +kernel) F.slot_tuple_rmul.lookup (by decide +kernel)
theorem aEy:seqRepeat? (.type "tuple") = pure (some (.builtin "tuple.__mul__")):=by
 unfold seqRepeat?
 rw [PySem.seqSlot_of (T:="tuple") (name:="__mul__") (id:="tuple.__mul__") F.slot_tuple_mul.lookup (by decide +kernel),PySem.seqSlot_of (T:="tuple") (name:="__rmul__") (id:="tuple.__rmul__") F.slot_tuple_rmul.lookup (by decide +kernel)]
 rfl
section
variable {prog:Program} {w:World} {A:Around} {E:Value->Shared->Prop} {s:Shared}
theorem aD1 (a:Int) (t:Tok) (l:Addr) (items:Array Value) (n:Nat) (di:Option Addr) (sl:Array (Option Value)) :
  Meets (Builtin.«int.__rmul__» ⟨[.int a t,.ref l],[]⟩) (fun _ R s=>s.heap.get? l = some { cls:=.type "tuple",dict:=di,data:=.seq items n,slots:=sl }/\R (.ok (.ret Value.notImplemented)) s) :=
 .of_wp fun prog w A R s h=>by obtain ⟨hp,g,d,tk,os⟩:=s;obtain ⟨hl,h⟩:=h;wp_walk;exact ⟨_,rfl,h⟩
theorem aEs (t:Tok) (l:Addr) (items:Array Value) (n:Nat) (di:Option Addr) (sl:Array (Option Value)) :
  Meets (Builtin.«tuple.__mul__» ⟨[.ref l,.int 1 t],[]⟩) (fun _ R s=>s.heap.get? l = some { cls:=.type "tuple",dict:=di,data:=.seq items n,slots:=sl }/\R (.ok (.ret (.ref l))) s) :=
 .of_wp fun prog w A R s h=>by
  obtain ⟨hp,g,d,tk,os⟩:=s
  obtain ⟨hl,h⟩:=h
  wp_walk
  exact ⟨_,rfl,h⟩
theorem uL (items:Array Value):∀ (k:Nat) (acc:Array Value),((List.replicate k items).foldl (· ++ ·) acc).size = acc.size + k * items.size
 | 0,acc=>by simp
 | k + 1,acc=>by rw [List.replicate_succ,List.foldl_cons,uL items k,Array.size_append,Nat.succ_mul];omega
theorem aGZ (k:Int) (t:Tok) (l:Addr) (items:Array Value) (n:Nat) (di:Option Addr) (sl:Array (Option Value)) (h1:k ≠ 1) (h2:-(2 ^ 63)<=k) (h3:k < 2 ^ 63) (he:items.isEmpty = false) (hz:items.size * k.toNat<=sizeLine) :
  Meets (Builtin.«tuple.__mul__» ⟨[.ref l,.int k t],[]⟩) (fun _ R s=>s.heap.get? l = some { cls:=.type "tuple",dict:=di,data:=.seq items n,slots:=sl } /\
   R (.ok (.ret (.ref s.heap.objs.size))) { s with heap:=s.heap.push { cls:=.type "tuple",data:=.seq ((List.replicate k.toNat items).foldl (· ++ ·) #[]) } }) :=
 .of_wp fun prog w A R s h=>by
  obtain ⟨hp,g,d,tk,os⟩:=s
  obtain ⟨hl,h⟩:=h
  wp_walk
  refine wpAny_ite_split (fun z=>absurd z (by simp;omega)) fun _=>?_
  wp_walk
  have line:(sizeLine:Int)<=(2 ^ 63 - 1) / 8:=by decide
  by_cases k0:k<=0
  ·refine wpAny_ite_split (fun _=>?_) fun z=>absurd (by simp [k0]) z
   have e0:k.toNat = 0:=by omega
   rw [e0] at h
   wp_walk
   exact ⟨_,rfl,h⟩
  ·refine wpAny_ite_split (fun z=>absurd z (by rw [he];simp;omega)) fun _=>?_
   have e1:(items.size:Int) * k = ((items.size * k.toNat:Nat):Int):=by rw [Int.natCast_mul,Int.toNat_of_nonneg (by omega)]
   refine wpAny_ite_split (fun z=>absurd z (by rw [e1];omega)) fun _=>?_
   refine wpAny_ite_split (fun z=>absurd z (by unfold Builtin.Tuple.tupleTooMany;rw [e1];simp only [gt_iff_lt,decide_eq_true_eq,Int.not_lt];exact Int.ofNat_le.mpr hz)) fun _=>?_
   have hz':((List.replicate k.toNat items).foldl (· ++ ·) #[]).size<=sizeLine:=by
    have:=uL items k.toNat #[]
    rw [this];simpa [Nat.mul_comm] using hz
   wp_walk
   exact ⟨_,rfl,h⟩
end
section
variable {X:Cx} {pos:Pos}
theorem vX {K:PySem.W.Frag} {H:Hp} {ds:List D} {vs:List V} (r:bN K H ds vs):∀ k:Nat,bN K H (List.replicate k ds).flatten (List.replicate k vs).flatten
 | 0=>cO
 | k + 1=>by rw [List.replicate_succ,List.flatten_cons,List.replicate_succ,List.flatten_cons];exact r.append (vX r k)
theorem wC {vs:List V} {us:List Value} (r:bT vs us):∀ k:Nat,bT (List.replicate k vs).flatten (List.replicate k us).flatten
 | 0=>.nil
 | k + 1=>by rw [List.replicate_succ,List.flatten_cons,List.replicate_succ,List.flatten_cons];exact r.append (wC r k)
theorem yQ (its:List Value) (k:Nat):(List.replicate k its.toArray).foldl (· ++ ·) #[] = (List.replicate k its).flatten.toArray:=by
 have g:∀ (k:Nat) (acc:List Value),(List.replicate k its.toArray).foldl (· ++ ·) acc.toArray = (acc ++ (List.replicate k its).flatten).toArray:=fun k=>by
  induction k with
  | zero=>intro acc;simp
  | succ k ih =>
   intro acc
   rw [List.replicate_succ,List.foldl_cons,List.append_toArray,ih,List.replicate_succ,List.flatten_cons,List.append_assoc]
 exact g k []
noncomputable def aHv:D2:=fun x y M Q=>match x,y with
 | .tup ds,.int k=>ds ≠ []/\-(2 ^ 62)<=k/\k < 2 ^ 62/\ds.length * k.toNat<=1000/\Q (.tup (List.replicate k.toNat ds).flatten) M
 | _,_=>False
theorem aGm:OpD X (binaryOp .Mult) aHv:=by
 intro pins s σ H x y v u Q I rx ry ⟨dx,dy,M,Q',r1,r2,hm,q,k⟩
 match dx,dy,q with
 | .tup ds,.int n,q =>
  obtain ⟨ne,h1,h2,hz,q⟩:=q
  obtain ⟨l,vs,rfl,sq,rs⟩:=bM r1
  obtain rfl:=aV r2
  cases rx
  obtain ⟨t,rfl⟩:=ry
  obtain ⟨its,rv,⟨o,ho,hc,m,hd⟩,hzz⟩:=I.tuple sq
  obtain ⟨c,di,dt,sl⟩:=o
  cases hc
  cases hd
  have l1:=rs.length
  have l2:=rv.length
  have hz':its.toArray.size * n.toNat<=sizeLine:=by rw [List.size_toArray,<- l2,<- l1];exact Nat.le_of_lt (cY hz)
  have he:its.toArray.isEmpty = false:=by
   cases its with
   | nil=>exact absurd (List.length_eq_zero_iff.mp (by rw [l1,l2];rfl)) ne
   | cons a b=>rfl
  refine wpAny_binaryOp_repeat_ref (T:="tuple") (U:="int") (by decide) ⟨_,ho,rfl⟩ (fun s'=>typeIs_int s' n t) aBa F.fills_int_mul F.slot_int_rmul aEy F.slot_int_index.lookup
   (call_meets F.slot_int_rmul (typeIs_int s n t) F.entry_int_rmul (F.args_int_rmul_2 _ _) (aD1 n t l its.toArray m di sl) ⟨ho,rfl,⟨_,ho,rfl⟩,?_⟩)
  by_cases e1:n = 1
  ·subst e1
   refine call_meets F.slot_tuple_mul ⟨_,ho,rfl⟩ F.entry_tuple_mul (F.args_tuple_mul_2 _ _) (aEs t l its.toArray m di sl) ⟨ho,?_⟩
   refine ⟨.ref l,H,I,rfl,k _ _ ⟨.tup ds,M,cE sq rs,hm,.refl H,?_⟩⟩
   have:(List.replicate (1:Int).toNat ds).flatten = ds:=by simp
   rw [this] at q
   exact q
  ·refine call_meets F.slot_tuple_mul ⟨_,ho,rfl⟩ F.entry_tuple_mul (F.args_tuple_mul_2 _ _) (aGZ n t l its.toArray m di sl e1 (by omega) (by omega) he hz') ⟨ho,?_⟩
   rw [yQ]
   have hl:(List.replicate n.toNat vs).flatten.length<=sizeLine:=by
    rw [L2.len_rep]
    rw [List.size_toArray,<- l2,Nat.mul_comm] at hz';exact hz'
   refine ⟨.ref s.heap.objs.size,_,I.laid (t':=s.toks) (fun _ _ q=>Heap.get?_push_of_some _ q) (Nat.le_refl _) (show eN X.prog X.w _ _ _ (.tup (List.replicate n.toNat vs).flatten) from ⟨hl,_,wC rv n.toNat,⟨_,Heap.get?_push_size _ rfl,rfl,_,rfl⟩⟩),rfl,
    k _ _ ⟨.tup _,M,cE (.of dF) ((vX rs n.toNat).ext (Ext.new I.fresh _)),hm.new I.fresh _,Ext.new I.fresh _,q⟩⟩
noncomputable def aLh:DSp:=fun ds M Q=>match ds with
 | [.ref a]=>∃ ns:List Int,M a = some (ns.map D.int)/\Q (.int ns.sum) M
 | _=>False
theorem vV:∀ {ns:List Int} {vs:List V} {us:List Value} {K:PySem.W.Frag} {H:Hp},bN K H (ns.map D.int) vs->bT vs us->∃ ps:List (Int × Tok),us = ps.map (fun p=>Value.int p.1 p.2)/\ps.map (·.1) = ns
 | [],vs,us,K,H,r,v=>by
  rw [bR r] at v
  cases v
  exact ⟨[],rfl,rfl⟩
 | n :: ns,vs,us,K,H,r,v=>by
  obtain ⟨x,rr,rfl,rx,rs⟩:=aY r
  cases v with
  | cons q1 q2 =>
   obtain ⟨ps,e1,e2⟩:=vV rs q2
   rw [aV rx] at q1
   obtain ⟨t,rfl⟩:=q1
   exact ⟨(n,t) :: ps,by rw [e1];rfl,by rw [List.map_cons,e2]⟩
theorem aJy (hc:X.calm = true):gI X (.builtin "sum") aLh:=by
 intro pins s σ H xs us Q I r ⟨ds,M,Q',rs,hm,q,k⟩
 match ds,q with
 | [.ref a],q =>
  obtain ⟨ns,ha,q⟩:=q
  obtain ⟨v,rfl,rv⟩:=iB rs
  obtain rfl:=aT rv
  obtain ⟨u,rfl,ru⟩:=yW r
  cases ru
  obtain ⟨vs,hH,hr⟩:=hm.l a _ ha
  obtain ⟨hz,its,n,hv,hl,e⟩:=I.lstM hH
  obtain ⟨ps,e1,e2⟩:=vV hr hv
  have hi:s.heap.IsList a (intItems ps.toArray):=⟨_,e,rfl,n,by rw [e1];simp [intItems]⟩
  refine sum_intListG (I.ok.hd hc) hi fun h' tk t' kp=>?_
  have es:preSum (numAt ps.toArray) ps.toArray.size = ns.sum:=by
   rw [preSum_eq,List.toList_toArray,e2,List.size_toArray,show ps.length = ns.length by rw [<- e2,List.length_map],List.take_length]
  rw [es]
  exact ⟨.int ns.sum,H,I.kept kp,⟨t',rfl⟩,k _ _ ⟨.int ns.sum,M,bY,hm,.refl H,q⟩⟩
noncomputable def aGH (w:World) (K:PySem.W.Frag) (mg:Str->Option Value) (x:Str) (names:List (Str × Str)):Prop :=
 ∃ a es ep,mg x = some (.ref a)/\K.lookup a = some ⟨.type "dict",none,.dict es ep,#[]⟩/\PySem.W.KeysLit w.params es.toList/\∀ k n,names.lookup k = some n->∃ f,PySem.W.nsIn K a k = some (some (.ref f))/\mg n = some (.ref f)
noncomputable def aIP (mg:Str->Option Value) (names:List (Str × Str)) (ti:DE):DE:=fun ρ M Q=>ti ρ M fun d M1=>match d with
 | .str k=>∃ n,names.lookup k = some n/\∀ f,mg n = some (.ref f)->Q (.ref f) M1
 | _=>False
theorem aJB {x:Str} {names:List (Str × Str)} {p:Pos} {i:Expr} {ti:DE} (T:aGH X.w X.K X.mg x names) (hi:PDE X i ti) (hg:Gl X x:=by rfl) (hd:(x == ("__debug__":Str)) = false:=by decide) (hs:lZ i:=by intro _ _;rfl) :
  PDE X (.Subscript (.Name x p) i pos) (aIP X.mg names ti):=by
 obtain ⟨a,es,ep,hm,hk,ks,look⟩:=T
 intro pins s σ H Q I ⟨ρ,M,Q',re,hm',q,kq⟩
 refine Subscript_ (jL I hg hm ?_ hd)
 refine thn (hi pins s σ H (LQ X.K H fun d M1=>match d with
  | .str k=>∃ n,names.lookup k = some n/\∀ f,X.mg n = some (.ref f)->Q' (.ref f) M1
  | _=>False) I ⟨ρ,M,_,re,hm',q,fun _ _ z=>z⟩) fun u s1 ⟨y,H1,I1,ry,d1,M1,r1,hm1,e1,q1⟩=>?_
 cases d1 with
 | str k =>
  obtain ⟨n,hn,q1⟩:=q1
  obtain ⟨f,hf,hmf⟩:=look k n hn
  rw [bU r1] at ry
  obtain ⟨t,rfl⟩:=ry
  have mo:=PySem.W.mapOf_K (prog:=X.prog) (w:=X.w) I1.kIn hk ks
  refine subscriptTail_builtinR (x:=.ref f) (T:="dict") mo.typeIs PySem.F.slot_dict_getitem.lookup (wpAny_getItem_of (strKind_is X.prog X.w k t) mo (PySem.W.find_K hk hf) ⟨rfl,?_⟩) (hs _ _)
  exact ⟨.ref f,H1,I1.tok _,rfl,kq _ _ ⟨.ref f,M1,fY,hm1,e1,q1 f hmf⟩⟩
 | _=>exact q1.elim
noncomputable def aBJ (P:Program) (w:World) (K:PySem.W.Frag) (mg:Str->Option Value) (base:Heap) (j:Nat) (tf:DE) (ta:DA):DE:=fun ρ M Q=>tf ρ M fun d M1=>match d with
 | .ref f=>∃ n ps sp,mg n = some (.ref f)/\Has P w K mg base j n ps sp/\ta ρ M1 fun ds M2=>sp ds M2 Q
 | _=>False
theorem aEx {x:Str} {p:Pos} {e:Expr} {es:List Expr} {tf:DE} {ta:DA} {j k:Nat} (hf:PDE X (.Name x p) tf) (hr:eB k X.A) (hjk:j<=k) (ha:PDA X (e :: es) ta)
  (he:starEach (e :: es) X.env = (false,eval e X.env) :: starEach es X.env:=by rfl) (hpl:(backTo pos (starEach es X.env)).any (·.1) = false:=by rfl):PDE X (.Call (.Name x p) (e :: es) [] pos) (aBJ X.prog X.w X.K X.mg X.base j tf ta):=by
 intro pins s σ H Q I ⟨ρ,M,Q',re,hm',q,kq⟩
 refine wpAny_Call_Name_kw (thn (hf pins s σ H _ I ⟨ρ,M,_,re,hm',q,fun _ _ z=>z⟩) fun u s1 ⟨y,H1,I1,ry,d1,M1,r1,hm1,e1,q1⟩=>?_)
 cases d1 with
 | ref f =>
  obtain ⟨n,ps,sp,hm,⟨f',fd,F,hm2,hk,hb⟩,q1⟩:=q1
  obtain rfl:f = f':=by rw [hm] at hm2;cases hm2;rfl
  rw [aT r1] at ry
  cases ry
  refine PySem.W.callWith_K (h₀:=X.base) I1.ok.mod.kin hk (thn (ha pos pins s1 σ H1 _ I1 ⟨ρ,M1,_,re.ext e1,hm1,q1,fun _ _ z=>z⟩) fun us s2 ⟨vs,H2,I2,r2,ds,M2,rs,hm2,e2,q2⟩=>⟨I2.kIn,?_⟩) he hpl
  exact aBI F (hr.mono hjk) hb .nil aEh I2 r2 ⟨ds,M2,Q',by rw [List.append_nil];exact rs,hm2,q2,fun v H' z=>kq v H' (z.back (e1.trans e2))⟩
 | _=>exact q1.elim
end
section
variable {P:Program} {w:World} {K:PySem.W.Frag} {mg:Str->Option Value} {base:Heap}
theorem iF.mkZ {x c:Str} {C:Addr} {st:Stmt} {N ps:List Str} {k:Nat} {cond:List D->DM->Prop} (h:cA K mg x st ps) (hc:wS K mg c C) (S:aS N ps (aK st)) (len:∀ ds M,cond ds M->ds.length = ps.length)
  (hbody:∀ (f:Addr) (cdv:Value) (A:Around) (outer:List Env) (s:Shared) (H:Hp) (ds:List D) (M:DM) (E:XK),eB k (A.deeper (envOfC x (aK st) s.heap.objs.size f cdv))->cond ds M ->
   rH (kA (CXr P w) P w K mg base N x (aK st) f cdv A outer s H E) c (aX M) ->
   ∃ t,ZSs (kA (CXr P w) P w K mg base N x (aK st) f cdv A outer s H E) (eK st) t/\t { nx:=fun _ _=>False,rt:=fun _ _=>False } (gA N ds) M):iF P w K mg base (k + 1) x ps C cond :=
 iF.mk h hc S len fun f cdv A outer s H ds M E hr h hRO=>let ⟨t,h1,h2⟩:=hbody f cdv A outer s H ds M E hr h hRO;⟨t,h1.o,h2⟩
end
end Dd
namespace HT
open PySem PyProof.Rows
section
variable {prog:Program} {w:World} {A:Around} {E:Value->Shared->Prop} {s:Shared}
theorem getItem_tuple_whole {t sl:Addr} {items:Array Value} {vl vu:Value} {lo hi:Option Int} {Q:Value->Shared->Prop} (ht:IsTup s.heap t items) (hs:s.heap.IsSliceOf sl vl vu .none) (pl:IsPart vl lo) (pu:IsPart vu hi)
  (hw:sIx items.size 0 lo = 0/\sIx items.size items.size hi = items.size)
  (h:Q (.ref t) s):wpAny (model prog w) A (getItem (.ref t) (.ref sl)) Q E s:=by
 obtain ⟨os,hos,hcs,hds⟩:=id hs
 have hTs:s.TypeIs (.ref sl) "slice":=⟨os,hos,hcs⟩
 unfold getItem
 try with_reducible refine wpAny_holding ?_
 first | refine wpAny_bind (wpAny_pure ?_) | skip
 refine wpAny_bind (wpAny_sequenceKey ht.typeIs (by decide) ?_)
 refine wpAny_bind (wpAny_callSpecial?_slot (name:=Str.ofString "__getitem__") ht.typeIs PyProof.Rows.slot_tuple_getitem
  (wpAny_call_entry PyProof.Rows.slot_tuple_getitem ht.typeIs entry_tuple_getitem ?_ (args_tuple_getitem _ _)))
 show wpAny _ _ (Builtin.Tuple.tupleItemsOf (.ref t) >>= _) _ _ s
 refine wpAny_bind (tupleItemsOf_ ht ?_)
 refine wpAny_bind (wpAny_typeOf hTs ?_)
 rw [if_pos (by decide)]
 refine wpAny_bind (kI hs pl pu ?_)
 have hyes:(((sIx items.size 0 lo:Nat):Int) == 0 && (1:Int) == 1 && (sIx items.size items.size hi - sIx items.size 0 lo) == items.size) = true:=by
  rw [hw.1,hw.2];simp
 show wpAny _ _ (if (((sIx items.size 0 lo:Nat):Int) == 0 && (1:Int) == 1 && (sIx items.size items.size hi - sIx items.size 0 lo) == items.size) = true then _ else _) _ _ s
 rw [if_pos hyes]
 obtain ⟨ot,hot,hct,n,hdt⟩:=id ht
 wp_walk
 first
  | exact ⟨_,rfl,wpAny_pure h⟩
  | exact ⟨_,rfl,h⟩
  | exact h
end
end HT
namespace L2
open PySem PySem.Spec PyProof.Rows
variable {X:Cx}
noncomputable def aLX (K:PySem.W.Frag):V->Option Int->Option Int->Hp->VK->Prop:=fun x lo hi H Q=>∃ a xs,x = .ref a/\SqT K H a xs /\
 (HT.sIx xs.length 0 lo = 0/\HT.sIx xs.length xs.length hi = xs.length)/\Q (.ref a) H
theorem aFL:SlR X (aLX X.K):=by
 intro pins s σ H x v vl vu lo hi sl Q I rx hs pl pu h
 obtain ⟨a,xs,rfl,hx,hw,q⟩:=h
 cases rx
 obtain ⟨its,r,ht,hz⟩:=I.tuple hx
 have hlen:its.toArray.size = xs.length:=by rw [List.size_toArray];exact r.length.symm
 refine ⟨"tuple",_,PyProof.Rows.slot_tuple_getitem.lookup,ht.typeIs,?_⟩
 exact HT.getItem_tuple_whole ht hs pl pu (by rw [hlen];exact hw) ⟨.ref a,H,I,rfl,q⟩
end L2
namespace Dd
open PySem PySem.Spec PyProof.Rows L2
section
variable {X:Cx} {e:Expr} {te:DE} {pos p2:Pos} {lo hi:Option Expr} {tl th:DO}
noncomputable def aHx (x:D) (lo hi:Option Int) (M:DM) (Q:DQ):Prop:=match x with
 | .tup ds=>Q (.tup (cutD ds lo hi)) M
 | _=>False
noncomputable def aId (te:DE) (tl th:DO):DE:=fun ρ M Q=>te ρ M fun x M1=>tl ρ M1 fun l M2=>th ρ M2 fun h M3=>aHx x l h M3 Q
theorem aDv {ds:List D} {lo hi:Option Int} (h:HT.sIx ds.length 0 lo = 0/\HT.sIx ds.length ds.length hi = ds.length):cutD ds lo hi = ds:=by
 unfold cutD
 rw [h.1,h.2];simp
theorem aDo (he:PDE X e te) (hl:PO X lo (aAd X.K tl)) (hu:PO X hi (aAd X.K th)):PDE X (.Subscript e (.Slice lo hi none p2) pos) (aId te tl th) :=
 cM (aBo (SlR.or aIC aFL) he hl hu) fun σ H Q ⟨ρ,M,Q',re,hm,q,k⟩=>⟨ρ,M,_,re,hm,q,fun v H1 ⟨d,M1,rd,hm1,e1,q1⟩=>⟨ρ,M1,_,re.ext e1,hm1,q1,fun l H2 ⟨M2,hm2,e2,q2⟩=>⟨ρ,M2,_,(re.ext e1).ext e2,hm2,q2,fun h H3 ⟨M3,hm3,e3,q3⟩=>by
  have rd3:=(rd.ext e2).ext e3
  have ex:=(e1.trans e2).trans e3
  cases d with
  | tup ds =>
   obtain ⟨a,us,rfl,sq,ru⟩:=bM rd3
   have l1:=ru.length
   have q3:Q' (.tup (cutD ds l h)) M3:=q3
   by_cases hw:HT.sIx ds.length 0 l = 0/\HT.sIx ds.length ds.length h = ds.length
   ·rw [aDv hw] at q3
    exact .inr ⟨a,us,rfl,sq,by rw [<- l1];exact hw,k _ _ ⟨.tup ds,M3,cE sq ru,hm3,ex,q3⟩⟩
   ·exact .inl ⟨a,us,rfl,sq,by rw [<- l1];exact hw,fun p hp=>k _ _ ⟨.tup _,M3,cE (.of dF) ((uO ru l h).ext (Ext.new hp _)),hm3.new hp _,ex.trans (Ext.new hp _),q3⟩⟩
  | _=>exact q3.elim⟩⟩⟩
end
end Dd
namespace Dd
open PySem PySem.Spec PyProof.Rows L2
section
variable {X:Cx} {pins:List (Addr × Obj)} {σ:L2.St} {H:Hp} {s:Shared} {M:Model} {A:Around} {E:Value->Shared->Prop} {e T:Addr} {cls:Value}
theorem aBN {Q:Unit->Shared->Prop} (I:Inv X pins σ H s) (hs:X.stack = X.env :: X.outer) (hf:X.env.frame = some X.env.locals) (hex:X.ex = []) (hA:A.frames = some X.stack) (t:Tr s.heap e cls T .none) (fe:FpN X pins H e) (fT:FpN X pins H T)
  (h:∀ s' T',Inv X pins σ H s'->Tr s'.heap e cls T' .none->FpN X pins H T'->Q () s'):wpAny M A (leaving X.env (.ref e)) Q E s:=by
 unfold leaving
 exact wpAny_bind (yJ I hs hf hex hA t fe fT fun s1 T1 I1 t1 f1=>mC I1 t1 f1 fun s2 I2 t2=>h s2 T1 I2 t2 f1)
end
noncomputable def zJ (X:Cx) (C:Addr) (V:DM->Prop):Prop:=X.ex = [] /\
 ∀ pins σ H s a T M',Inv X pins σ H s->Tr s.heap a (.ref C) T .none->FpN X pins H a->FpN X pins H T->bK X.K M' H->V M'->X.xe (.ref a) s
noncomputable def aD3 (V:DM->Prop) (cond:List D->DM->Prop) (t:DA):DE:=fun ρ M _=>t ρ M fun ds M1=>cond ds M1/\∀ M',aX M1 M'->V M'
section
variable {X:Cx} {e:Expr} {es:List Expr} {t:DA} {f:Str} {ps:List Str} {cond:List D->DM->Prop} {C:Addr} {k1 k:Nat} {V:DM->Prop} {pf pc:Pos}
theorem aEz (hH:iF X.prog X.w X.K X.mg X.base k1 f ps C cond) (hr:eB k X.A) (hk1:k1<=k) (PO:zJ X C V) (ha:PDA X (e :: es) t) (hg:Gl X f:=by rfl) (hdb:(f == ("__debug__":Str)) = false:=by decide)
  (he:starEach (e :: es) X.env = (false,eval e X.env) :: starEach es X.env:=by rfl) (hpl:(backTo pc (starEach es X.env)).any (·.1) = false:=by rfl) :
  PDE X (.Call (.Name f pf) (e :: es) [] pc) (aD3 V cond t):=by
 intro pins s σ H Q I ⟨ρ,M,Q',re,hm,q,k'⟩
 obtain ⟨hex,fly⟩:=PO
 obtain ⟨f1,fd,F,hmf,hk,hb⟩:=id hH
 refine wpAny_Call_Name_kw (jL I hg hmf ?_ hdb)
 refine PySem.W.callWith_K (h₀:=X.base) I.ok.mod.kin hk (thn (ha pc pins s σ H (LA X.K H _) I ⟨ρ,M,_,re,hm,q,fun vs H' z=>z⟩) fun us s1 ⟨vs,H1,I1,rv,ds,M1,rs,hm1,ex,q1,q2⟩=>⟨I1.kIn,?_⟩) he hpl
 have hsp:spX X.K C cond vs H1 (fun _ _=>False) (fun c _ H'=>c = .ref C/\∃ M',bK X.K M' H'/\aX M1 M'):=⟨ds,M1,rs,hm1,q1,fun M' H' a b=>⟨rfl,M',a,b⟩⟩
 have hl:(us ++ []).length = ps.length:=by rw [List.append_nil,<- rv.length];exact F.len _ _ _ _ hsp
 have hbb:=hb s1 us I1.kIn hl
 rw [List.append_nil] at hbb
 refine wpAny_call (codeAny_mono (F.run X.A X.stack s1 H1 ⟨us,[]⟩ us vs _ _ (hr.mono hk1) I1.env0 hbb rv hsp) fun r s' hq=>?_)
 cases r with
 | error ev =>
  obtain ⟨a,cls,T,H',rfl,os,bare,un,hok,tr,na,nT,ha',hT,rfl,M',hm',sub⟩:=(show CXr X.prog X.w X.stack H1 s1 (fun c _ H'=>c = .ref C/\∃ M',bK X.K M' H'/\aX M1 M') ev s' from hq)
  have I2:Inv X pins σ H' s':=I1.call' (ch:=[]) os un hok bare (fun b z=>absurd z (by simp))
  exact fly pins σ H' s' a T M' I2 tr (I1.fpN hex na ha') (I1.fpN hex nT hT) hm' (q2 M' sub)
 | ok fl =>
  cases fl with
  | ret u=>obtain ⟨_,_,_,_,_,_,_,z⟩:=(show CE _ _ _ _ _ _ _ _ from hq);exact z.elim
  | next=>exact False.elim hq
  | brk=>exact False.elim hq
  | cont=>exact False.elim hq
end
section
variable {P:Program} {w:World} {K:PySem.W.Frag} {mg:Str->Option Value} {base:Heap}
theorem iF.mkP {x:Str} {C:Addr} {st:Stmt} {N ps:List Str} {k:Nat} {cond:List D->DM->Prop} (h:cA K mg x st ps) (S:aS N ps (aK st)) (len:∀ ds M,cond ds M->ds.length = ps.length)
  (hbody:∀ (f:Addr) (cdv:Value) (A:Around) (outer:List Env) (s:Shared) (H:Hp) (ds:List D) (M:DM) (E:XK),eB k (A.deeper (envOfC x (aK st) s.heap.objs.size f cdv))->cond ds M ->
   zJ (kA (CXr P w) P w K mg base N x (aK st) f cdv A outer s H E) C (aX M) ->
   ∃ t,ZSs (kA (CXr P w) P w K mg base N x (aK st) f cdv A outer s H E) (eK st) t/\t { nx:=fun _ _=>False,rt:=fun _ _=>False } (gA N ds) M):iF P w K mg base (k + 1) x ps C cond:=by
 obtain ⟨f,fd,F,hm,hb⟩:=h
 refine ⟨f,fd,?_,hm,F.kp,hb⟩
 obtain ⟨oc,od,kV,doc,pm,an,cdv,ct,osl,rfl,lk,hcd⟩:=F.ex
 refine aE1 lk hcd S (fun vs H Q E ⟨ds,M,rs,hm,q,_⟩=>by rw [<- rs.length];exact len ds M q) fun A outer s H vs Q E hr ⟨ds,M,rs,hm,q,k'⟩=>?_
 have PO:zJ (kA (CXr P w) P w K mg base N x (aK st) f cdv A outer s H E) C (aX M) :=
  ⟨rfl,fun pins σ H' s1 a T M' I t fe fT hm' sub =>
   aBN (X:=kA (CXr P w) P w K mg base N x (aK st) f cdv A outer s H E) I rfl rfl rfl I.ok.frames t fe fT fun s' T' I' t' fT' =>
    ⟨a,.ref C,T',H',rfl,I'.os,I'.bare,I'.base,I'.hok,t',fe.2.2.1,fT'.2.2.1,fe.1,fT'.1,k' M' H' hm' sub⟩⟩
 obtain ⟨t,h1,h2⟩:=hbody f cdv A outer s H ds M E hr q PO
 exact ⟨_,h1.o,gA N ds,M,_,qE rs N,hm,h2,⟨fun σ' H' ⟨_,_,_,_,_,z⟩=>z.elim,fun v H' ⟨_,_,_,_,_,z⟩=>z.elim,fun σ' H' ⟨_,_,_,_,_,z⟩=>z.elim,fun σ' H' ⟨_,_,_,_,_,z⟩=>z.elim⟩⟩
theorem Has.never {x:Str} {st:Stmt} {N ps:List Str} (h:cA K mg x st ps) (S:aS N ps (aK st)) (k:Nat):Has P w K mg base (k + 1) x ps (fun _ _ _=>False) :=
 Has.mk h S (fun _ _ _ z=>z.elim) fun _ _ _ _ _ _ _ _ _ _ _ z=>z.elim
theorem Has.mono {x:Str} {ps:List Str} {k k':Nat} {sp:DSp} (h:Has P w K mg base k x ps sp) (l:k<=k'):Has P w K mg base k' x ps sp:=by
 obtain ⟨f,fd,F,hm,hk,hb⟩:=h
 exact ⟨f,fd,F.mono l,hm,hk,hb⟩
end
section
variable {X:Cx} {a:Expr} {e tg:Expr} {es:List Expr} {t:DA} {g:DG} {f n cm:Str} {ps:List Str} {sp:DSp} {cond:List D->DM->Prop} {C Cm:Addr} {k1 k2 k j:Nat} {ts:Addr->DS} {b0:Stmt} {suite:List Stmt} {pf pc pa pcm ph pos:Pos}
end
end Dd
namespace Dd
open PySem PySem.Spec PyProof.Rows L2
open PySem.AutoSeq1 (wpAny_loadPart')
theorem aA4 (l b:Addr) (items items2:Array Value) (n n2:Nat) (dd dd2:Option Addr) (sl sl2:Array (Option Value)) (hc0:items.isEmpty = true) :
  Meets (Builtin.«tuple.__add__» ⟨[.ref l,.ref b],[]⟩) (fun _ R s=>s.heap.get? l = some { cls:=.type "tuple",dict:=dd,data:=.seq items n,slots:=sl }/\s.heap.get? b = some { cls:=.type "tuple",dict:=dd2,data:=.seq items2 n2,slots:=sl2 }/\R (.ok (.ret (Value.ref b))) { s with heap:=s.heap,toks:=s.toks }) :=
 .of_wp fun prog w A R s h=>by obtain ⟨hp,g,d,tk,os⟩:=s;obtain ⟨hl,hb,h⟩:=h;have f1:=AutoSeq1.idx_int;have f2:=AutoSeq1.sub_tuple_tuple;have f3:=AutoSeq1.sub_list_list;have f4:=AutoSeq1.sub_tuple_list;have f5:=AutoSeq1.sub_list_tuple;wp_walk using wpAny_loadPart' hl,wpAny_loadPart' hb;exact ⟨_,rfl,h⟩
section
variable {X:Cx}
noncomputable def aHH:D2:=fun x y M Q=>match x,y with
 | .tup xs,.tup ys=>xs.length + ys.length<=1000/\Q (.tup (xs ++ ys)) M
 | _,_=>False
theorem uI:OpD X (binaryOp .Add) aHH:=by
 intro pins s σ H x y v u Q I rx ry ⟨dx,dy,M,Q',r1,r2,hm,q,k⟩
 match dx,dy,q with
 | .tup xs,.tup ys,q =>
  obtain ⟨hl,q⟩:=q
  obtain ⟨a,us,rfl,sq,ru⟩:=bM r1
  obtain ⟨b,ws,rfl,sq2,rw'⟩:=bM r2
  have l3:=ru.length
  have l4:=rw'.length
  by_cases n1:us = []
  ·have nx:xs = []:=List.length_eq_zero_iff.mp (by rw [l3,n1];rfl)
   rw [nx] at q
   cases rx
   cases ry
   obtain ⟨its,r5,p1,_⟩:=I.tuple sq
   obtain ⟨its2,r6,p2,_⟩:=I.tuple sq2
   obtain ⟨⟨cls,dd,data,sl⟩,ho,hc,n,hd⟩:=id p1
   obtain ⟨⟨cls2,dd2,data2,sl2⟩,ho2,hc2,n2,hd2⟩:=id p2
   simp only at hc hd hc2 hd2
   subst hc hd hc2 hd2
   have e0:its = []:=List.length_eq_zero_iff.mp (by rw [<- r5.length,n1];rfl)
   exact concat_meets ⟨_,ho,rfl⟩ ⟨_,ho2,rfl⟩ noFill_tuple_add seq_tuple_add PySem.F.slot_tuple_add PySem.F.entry_tuple_add (PySem.F.args_tuple_add_2 _ _)
    (aA4 a b its.toArray its2.toArray n n2 dd dd2 sl sl2 (by rw [e0];rfl)) ⟨ho,ho2,.ref b,H,I,rfl,k _ H ⟨.tup ys,M,cE sq2 rw',hm,.refl H,q⟩⟩
  ·refine aCx pins s σ H _ _ v u Q I rx ry ?_
   refine ⟨a,b,us,ws,rfl,rfl,sq,sq2,n1,by rw [<- l3,<- l4];exact Nat.le_of_lt (cY hl),fun z=>?_,fun _ p hp=>k _ _ ⟨.tup _,M,cE (.of dF) ((ru.append rw').ext (Ext.new hp _)),hm.new hp _,Ext.new hp _,q⟩⟩
   have ny:ys = []:=List.length_eq_zero_iff.mp (by rw [l4,z];rfl)
   rw [ny,List.append_nil] at q
   exact k _ H ⟨.tup xs,M,cE sq ru,hm,.refl H,q⟩
end
end Dd
namespace Dd
open PySem PySem.Spec PyProof.Rows L2
section
variable {X:Cx} {pins:List (Addr × Obj)} {σ:L2.St} {H:Hp} {s:Shared}
end
section
variable {X:Cx} {pos:Pos}
end
section
variable {X:Cx} {pos:Pos} {iter tg:Expr} {body:List Stmt} {tl:DE} {g:DG} {tb:DS} {ta:DA}
end
section
variable {X:Cx} {pos:Pos} {iter tg:Expr} {body:List Stmt} {tl:DE} {g:DG} {tb:DS} {ta:DA}
end
section
variable {X:Cx} {pos:Pos} {iter tg elt:Expr} {body:List Stmt} {tl te:DE} {g:DG} {tb:DS} {ta:DA}
theorem aEb {elts:List Expr} {kk:Nat} {tpos:Pos} {a:Expr} {p pos':Pos} (hp:PassesOwn (model X.prog X.w) X.A X.env X.xe) (hc:X.calm = true) (hmg:X.mg "enumerate" = none) (ha:ZA X [a] ta) (hg:ZG X (.Tuple elts kk tpos) g) (hb:ZSs X body tb) (hgl:Gl X "enumerate":=by rfl) (hse:starEach [a] X.env = [(false,eval a X.env)]:=by rfl) (hs:∀ x,foldedSetIterable (.Call (.Name "enumerate" p) [a] [] pos') X.env x = pure x:=by intro _;rfl):ZS X (.For (.Tuple elts kk tpos) (.Call (.Name "enumerate" p) [a] [] pos') body [] pos) (aFa ta g tb):=.i (aF3 hp hc hmg ha.o hg.o hb.o hgl hse hs)
variable {scope:Scope} {N':List Str} {fr:List (Option Nat)} {oN:List Str} {osc:Scope}
end
section
variable {prog:Program} {w:World} {A:Around} {E:Value->Shared->Prop} {s:Shared}
end
section
variable {X:Cx} {pos:Pos}
theorem aGM {x:Str} {names:List (Str × Str)} {p:Pos} {i:Expr} {ti:DE} (T:aGH X.w X.K X.mg x names) (hi:ZE X i ti) (hg:Gl X x:=by rfl) (hd:(x == ("__debug__":Str)) = false:=by decide) (hs:lZ i:=by intro _ _;rfl):ZE X (.Subscript (.Name x p) i pos) (aIP X.mg names ti):=.i (aJB (i:=i) T hi.o hg hd hs)
theorem aDs {x:Str} {p:Pos} {e:Expr} {es:List Expr} {tf:DE} {ta:DA} {j k:Nat} (hf:ZE X (.Name x p) tf) (hr:eB k X.A) (hjk:j<=k) (ha:ZA X (e :: es) ta) (he:starEach (e :: es) X.env = (false,eval e X.env) :: starEach es X.env:=by rfl) (hpl:(backTo pos (starEach es X.env)).any (·.1) = false:=by rfl):ZE X (.Call (.Name x p) (e :: es) [] pos) (aBJ X.prog X.w X.K X.mg X.base j tf ta):=.i (aEx (j:=j) (k:=k) hf.o hr hjk ha.o he hpl)
end
section
variable {P:Program} {w:World} {K:PySem.W.Frag} {mg:Str->Option Value} {base:Heap}
end
section
variable {X:Cx} {e:Expr} {te:DE} {pos p2:Pos} {lo hi:Option Expr} {tl th:DO}
theorem fA (he:ZE X e te) (hl:ZO X lo tl) (hu:ZO X hi th):ZE X (.Subscript e (.Slice lo hi none p2) pos) (aId te tl th):=.i (aDo he.o hl.o hu.o)
end
section
variable {X:Cx} {pins:List (Addr × Obj)} {σ:L2.St} {H:Hp} {s:Shared} {M:Model} {A:Around} {E:Value->Shared->Prop} {e T:Addr} {cls:Value}
end
section
variable {X:Cx} {e:Expr} {es:List Expr} {t:DA} {f:Str} {ps:List Str} {cond:List D->DM->Prop} {C:Addr} {k1 k:Nat} {V:DM->Prop} {pf pc:Pos}
theorem zF (hH:iF X.prog X.w X.K X.mg X.base k1 f ps C cond) (hr:eB k X.A) (hk1:k1<=k) (PO:zJ X C V) (ha:ZA X (e :: es) t) (hg:Gl X f:=by rfl) (hdb:(f == ("__debug__":Str)) = false:=by decide) (he:starEach (e :: es) X.env = (false,eval e X.env) :: starEach es X.env:=by rfl) (hpl:(backTo pc (starEach es X.env)).any (·.1) = false:=by rfl):ZE X (.Call (.Name f pf) (e :: es) [] pc) (aD3 V cond t):=.i (aEz hH hr hk1 PO ha.o hg hdb he hpl)
end
section
variable {P:Program} {w:World} {K:PySem.W.Frag} {mg:Str->Option Value} {base:Heap}
end
section
variable {X:Cx} {a:Expr} {e tg:Expr} {es:List Expr} {t:DA} {g:DG} {f n cm:Str} {ps:List Str} {sp:DSp} {cond:List D->DM->Prop} {C Cm:Addr} {k1 k2 k j:Nat} {ts:Addr->DS} {b0:Stmt} {suite:List Stmt} {pf pc pa pcm ph pos:Pos}
end
section
variable {X:Cx}
end
end Dd
namespace Dd
open PySem PySem.Spec PyProof.Rows L2
section
variable {X:Cx} {pins:List (Addr × Obj)} {σ:L2.St} {H:Hp} {s:Shared}
end
end Dd
namespace Dd
open PySem PySem.Spec PyProof.Rows L2
noncomputable def Cm (M:DM):Nat->D->D->Bool->Prop
 | 0,d,d',b=>bH 0 d = true/\bH 0 d' = true/\b = eqD d d'
 | n + 1,d,d',b=>match d,d' with
  | .tup xs,.tup ys=>∃ e:Nat->Bool,(∀ j x y,xs[j]? = some x->ys[j]? = some y->Cm M n x y (e j))/\b = ((List.range (min xs.length ys.length)).all e && xs.length == ys.length)
  | .ref a,.ref a'=>∃ xs ys,M a = some xs/\M a' = some ys/\a ≠ a'/\(xs.length = ys.length->∃ e:Nat->Bool,(∀ j x y,xs[j]? = some x->ys[j]? = some y->Cm M n x y (e j))/\b = (List.range xs.length).all e)/\(xs.length ≠ ys.length->b = false)
  | d,d'=>bH 0 d = true/\bH 0 d' = true/\b = eqD d d'
section
variable {X:Cx} {pins:List (Addr × Obj)} {σ:L2.St} {H:Hp} {s:Shared} {M:DM}
theorem aKU {n:Nat} {d d':D} {b:Bool} (h:Cm M n d d' b) (h1:∀ xs,d ≠ .tup xs) (h2:∀ a,d ≠ .ref a):bH 0 d = true/\bH 0 d' = true/\b = eqD d d':=by
 cases n with
 | zero=>exact h
 | succ n =>
  cases d with
  | tup xs=>exact absurd rfl (h1 xs)
  | ref a=>exact absurd rfl (h2 a)
  | _=>exact h
theorem aFZ:∀ (n:Nat) {d d':D} {b:Bool} {v:V},Inv X pins σ H s->Cm M n d d' b->Rep X.K H d v->Rep X.K H d' v->b = true:=by
 intro n
 induction n with
 | zero =>
  intro d d' b v I h r r'
  rw [h.2.2];exact qT h.1 h.2.1 r r'
 | succ n ih =>
  intro d d' b v I h r r'
  cases d with
  | tup xs =>
   cases d' with
   | tup ys =>
    obtain ⟨e,he,rfl⟩:=h
    obtain ⟨a,us,rfl,sq,rs⟩:=bM r
    obtain ⟨a',us',z,sq',rs'⟩:=bM r'
    cases z
    obtain rfl:=I.tuple_inj sq sq'
    have l1:=rs.length
    have l2:=rs'.length
    rw [show (xs.length == ys.length) = true by simp;omega,Bool.and_true,List.all_eq_true]
    intro j hj
    rw [List.mem_range] at hj
    have j1:j < xs.length:=by omega
    have j2:j < ys.length:=by omega
    have e1:xs[j]? = some xs[j]:=List.getElem?_eq_getElem j1
    have e2:ys[j]? = some ys[j]:=List.getElem?_eq_getElem j2
    obtain ⟨v1,w1,r1⟩:=rs.get e1
    obtain ⟨v2,w2,r2⟩:=rs'.get e2
    rw [w1] at w2
    cases w2
    exact ih I (he j _ _ e1 e2) r1 r2
   | _=>exact absurd h.1 Bool.false_ne_true
  | ref a =>
   cases d' with
   | ref a' =>
    obtain ⟨xs,ys,_,_,ne,_⟩:=h
    rw [aT r] at r'
    have:=aT r'
    cases this
    exact absurd rfl ne
   | _=>exact absurd h.1 Bool.false_ne_true
  | _=>rw [h.2.2];exact qT h.1 h.2.1 r r'
theorem aBi {A:Around} {n:Nat} {e:Nat->Bool} (hm:bK X.K M H) (I:Inv X pins σ H s) (ih:∀ {d d':D} {b:Bool} {v v':V} {u u':Value},Cm M n d d' b->Rep X.K H d v->Rep X.K H d' v'->bO v u->bO v' u'->SeqAt.EqAt A s u u' b)
  {xs ys:List D} {us us':List V} {its its':List Value} (he:∀ j x y,xs[j]? = some x->ys[j]? = some y->Cm M n x y (e j)) (r1:bN X.K H xs us) (r2:bN X.K H ys us') (v1:bT us its) (v2:bT us' its') (j:Nat) (h1:j < its.length) (h2:j < its'.length):SeqAt.EqAt A s its[j] its'[j] (e j):=by
 have l1:=r1.length
 have l2:=r2.length
 have l3:=v1.length
 have l4:=v2.length
 have e1:xs[j]? = some (xs[j]'(by omega)):=List.getElem?_eq_getElem (by omega)
 have e2:ys[j]? = some (ys[j]'(by omega)):=List.getElem?_eq_getElem (by omega)
 obtain ⟨w1,q1,p1⟩:=r1.get e1
 obtain ⟨w2,q2,p2⟩:=r2.get e2
 obtain ⟨z1,y1,k1⟩:=v1.get q1
 obtain ⟨z2,y2,k2⟩:=v2.get q2
 have f1:its[j] = z1:=by rw [List.getElem?_eq_getElem h1] at y1;exact Option.some.inj y1
 have f2:its'[j] = z2:=by rw [List.getElem?_eq_getElem h2] at y2;exact Option.some.inj y2
 rw [f1,f2]
 exact ih (he j _ _ e1 e2) p1 p2 k1 k2
theorem aFn {A:Around} {n:Nat} {d d':D} {b:Bool} {a a':Addr} (hm:bK X.K M H) (I:Inv X pins σ H s) (hu:A.units + n < cLine) (ih:∀ {d d':D} {b:Bool} {v v':V} {u u':Value},Cm M n d d' b->Rep X.K H d v->Rep X.K H d' v'->bO v u->bO v' u'->SeqAt.EqAt A.in1 s u u' b)
  (h:Cm M (n + 1) d d' b) (r:Rep X.K H d (.ref a)) (r':Rep X.K H d' (.ref a')):SeqAt.RcAt A s (.ref a) (.ref a') b/\SeqAt.RcNeAt A s (.ref a) (.ref a') (!b):=by
 cases d with
 | tup xs =>
  cases d' with
  | tup ys =>
   obtain ⟨e,he,rfl⟩:=h
   obtain ⟨_,us,z,sq,rs⟩:=bM r
   cases z
   obtain ⟨_,us',z,sq',rs'⟩:=bM r'
   cases z
   obtain ⟨its,rv,ht⟩:=jC I sq
   obtain ⟨its',rv',ht'⟩:=jC I sq'
   have e1:=rs.length
   have e2:=rv.length
   have e3:=rs'.length
   have e4:=rv'.length
   rw [show xs.length = its.toArray.size by rw [List.size_toArray];omega,show ys.length = its'.toArray.size by rw [List.size_toArray];omega]
   have hit:∀ j (h1:j < its.toArray.size) (h2:j < its'.toArray.size),SeqAt.EqAt A.in1 s its.toArray[j] its'.toArray[j] (e j):=fun j j1 j2=>by
    have:=aBi hm I ih he rs rs' rv rv' j (by simpa using j1) (by simpa using j2)
    simpa using this
   exact ⟨SeqAt.RcAt.tuples ht ht' (by omega) hit,SeqAt.RcNeAt.tuples ht ht' (by omega) hit⟩
  | _=>exact absurd h.1 Bool.false_ne_true
 | ref c =>
  cases d' with
  | ref c' =>
   obtain ⟨xs,ys,hx,hy,ne,c1,c2⟩:=h
   have:=aT r
   cases this
   have:=aT r'
   cases this
   obtain ⟨us,hus,ru⟩:=hm.l a xs hx
   obtain ⟨ws,hws,rw'⟩:=hm.l a' ys hy
   obtain ⟨z,its,n1,r1,hl,e⟩:=I.lstM hus
   obtain ⟨z2,its2,n2,r3,hl2,e2⟩:=I.lstM hws
   have i1:s.heap.IsList a its.toArray:=⟨_,e,rfl,_,rfl⟩
   have i2:s.heap.IsList a' its2.toArray:=⟨_,e2,rfl,_,rfl⟩
   have l3:=ru.length
   have l4:=rw'.length
   have l5:=r1.length
   have l6:=r3.length
   by_cases hz:xs.length = ys.length
   ·obtain ⟨e',he,rfl⟩:=c1 hz
    have hsz:its.toArray.size = its2.toArray.size:=by rw [List.size_toArray,List.size_toArray];omega
    have hit:∀ j (h1:j < its.toArray.size) (h2:j < its2.toArray.size),SeqAt.EqAt A.in1 s its.toArray[j] its2.toArray[j] (e' j):=fun j j1 j2=>by
     have:=aBi hm I ih he ru rw' r1 r3 j (by simpa using j1) (by simpa using j2)
     simpa using this
    rw [show xs.length = its.toArray.size by rw [List.size_toArray];omega]
    exact ⟨SeqAt.RcAt.lists i1 i2 hsz (by omega) hit,SeqAt.RcNeAt.lists i1 i2 hsz (by omega) hit⟩
   ·have hsz:(its.toArray.size != its2.toArray.size) = true:=by rw [List.size_toArray,List.size_toArray];simp;omega
    rw [c2 hz]
    exact ⟨SeqAt.RcAt.lists_lengths i1 i2 hsz (by omega),SeqAt.RcNeAt.lists_lengths i1 i2 hsz (by omega)⟩
  | _=>exact absurd h.1 Bool.false_ne_true
 | _=>exact (vZ h.1 r).elim
theorem aLD (hm:bK X.K M H) (I:Inv X pins σ H s):∀ (n:Nat) {A:Around} {d d':D} {b:Bool} {v v':V} {u u':Value},A.units + n < cLine->Cm M n d d' b->Rep X.K H d v->Rep X.K H d' v'->bO v u->bO v' u'->SeqAt.EqAt A s u u' b:=by
 intro n
 induction n with
 | zero =>
  intro A d d' b v v' u u' hu h r r' q q'
  rw [h.2.2]
  exact aCK I 0 hu h.1 h.2.1 r r' q q'
 | succ n ih =>
  intro A d d' b v v' u u' hu h r r' q q'
  have hu':A.in1.units + n < cLine:=by show A.units + 1 + n < cLine;omega
  have sc:(∀ xs,d ≠ .tup xs)->(∀ a,d ≠ .ref a)->SeqAt.EqAt A s u u' b:=fun h1 h2=>by
   obtain ⟨p,p',e⟩:=aKU h h1 h2
   rw [e]
   exact aCK I 0 (by omega) p p' r r' q q'
  have sq:∀ {a a':Addr},v = .ref a->v' = .ref a'->SeqAt.EqAt A s u u' b:=fun {a a'} e1 e2=>by
   subst e1 e2
   cases q
   cases q'
   by_cases c:a = a'
   ·subst c
    rw [aFZ (n + 1) I h r r']
    exact SeqAt.EqAt.same _
   ·exact SeqAt.EqAt.of_refs c (aFn hm I (by omega) (fun {d d' b v v' u u'} h r r' q q'=>ih hu' h r r' q q') h r r').1
  cases d with
  | tup xs =>
   cases d' with
   | tup ys =>
    obtain ⟨a,us,e1,_⟩:=bM r
    obtain ⟨a',us',e2,_⟩:=bM r'
    exact sq e1 e2
   | _=>exact absurd h.1 Bool.false_ne_true
  | ref c =>
   cases d' with
   | ref c'=>exact sq (aT r) (aT r')
   | _=>exact absurd h.1 Bool.false_ne_true
  | _=>exact sc (fun xs z=>nomatch z) fun a z=>nomatch z
end
noncomputable def aFk (g:Bool->Bool):D2:=fun x y M Q=>(((∃ xs,x = .tup xs)/\∃ ys,y = .tup ys) ∨ ((∃ a,x = .ref a)/\∃ b,y = .ref b))/\∃ b,Cm M 20 x y b/\Q (.bl (g b)) M
section
variable {X:Cx}
theorem aCW (hu:X.A.units + 60 < cLine):OpD X (compareOp .Eq) (aFk id)/\OpD X (compareOp .NotEq) (aFk not):=by
 have key:∀ {pins:List (Addr × Obj)} {s:Shared} {σ:L2.St} {H:Hp} {x y:V} {v u:Value} {dx dy:D} {M:DM} {Q':DQ} {g:Bool->Bool},Inv X pins σ H s->bO x v->bO y u->Rep X.K H dx x->Rep X.K H dy y->bK X.K M H->aFk g dx dy M Q' ->
   ∃ b,SeqAt.RcAt X.A s v u b/\SeqAt.RcNeAt X.A s v u (!b)/\Q' (.bl (g b)) M:=by
  intro pins s σ H x y v u dx dy M Q' g I rx ry r1 r2 hm ⟨sh,b,h,q⟩
  have go:∀ {a a':Addr},x = .ref a->y = .ref a'->∃ b,SeqAt.RcAt X.A s v u b/\SeqAt.RcNeAt X.A s v u (!b)/\Q' (.bl (g b)) M:=fun {a a'} e1 e2=>by
   subst e1 e2
   cases rx
   cases ry
   have hu':X.A.in1.units + 19 < cLine:=by show X.A.units + 1 + 19 < cLine;omega
   obtain ⟨h1,h2⟩:=aFn hm I (n:=19) (by omega) (fun {d d' b v v' u u'} h r r' q q'=>aLD hm I 19 hu' h r r' q q') h r1 r2
   exact ⟨b,h1,h2,q⟩
  rcases sh with ⟨⟨xs,rfl⟩,ys,rfl⟩ | ⟨⟨a,rfl⟩,a',rfl⟩
  ·obtain ⟨a,us,e1,_⟩:=bM r1
   obtain ⟨a',us',e2,_⟩:=bM r2
   exact go e1 e2
  ·exact go (aT r1) (aT r2)
 refine ⟨fun pins s σ H x y v u Q I rx ry ⟨dx,dy,M,Q',r1,r2,hm,q,k⟩=>?_,fun pins s σ H x y v u Q I rx ry ⟨dx,dy,M,Q',r1,r2,hm,q,k⟩=>?_⟩
 ·obtain ⟨b,h1,_,q⟩:=key I rx ry r1 r2 hm q
  exact h1 X.prog X.w X.xe _ ⟨.bl b,H,I,rfl,k _ H ⟨.bl b,M,eA,hm,.refl H,q⟩⟩
 ·obtain ⟨b,_,h2,q⟩:=key I rx ry r1 r2 hm q
  exact h2 X.prog X.w X.xe _ ⟨.bl (!b),H,I,rfl,k _ H ⟨.bl (!b),M,eA,hm,.refl H,q⟩⟩
theorem aCd {k:Nat} (hr:eB k X.A):OpD X (compareOp .Eq) (aFk id):=(aCW (by have:=hr.un;omega)).1
theorem aFm {k:Nat} (hr:eB k X.A):OpD X (compareOp .NotEq) (aFk not):=(aCW (by have:=hr.un;omega)).2
end
mutual
theorem aA5:∀ {n:Nat} {d:D},bH n d = true->eqD d d = true
 | _,.non,_=>rfl
 | _,.bl b,_=>by simp [eqD]
 | _,.int b,_=>by simp [eqD]
 | _,.str b,_=>by simp [eqD]
 | n + 1,.tup xs,h=>by rw [eqD];exact yO (n:=n) h
 | 0,.tup xs,h=>absurd h Bool.false_ne_true
 | n,.ref a,h=>by cases n<;>exact absurd h Bool.false_ne_true
 | n,.fz a,h=>by cases n<;>exact absurd h Bool.false_ne_true
theorem yO:∀ {n:Nat} {xs:List D},xs.all (bH n) = true->kR xs xs = true
 | _,[],_=>by simp [kR]
 | n,x :: xs,h=>by
  rw [List.all_cons,Bool.and_eq_true] at h
  show (eqD x x && kR xs xs) = true
  rw [aA5 h.1,yO h.2];rfl
end
theorem aCY {M:DM}:∀ {n:Nat} {d:D},bH n d = true->Cm M n d d true
 | 0,d,h=>⟨h,h,(aA5 h).symm⟩
 | n + 1,.tup xs,h=>⟨fun _=>true,fun j x y e1 e2=>by
   rw [e1] at e2;cases e2
   have hx:bH n x = true:=(List.all_eq_true.mp h) x (List.mem_of_getElem? e1)
   exact aCY hx,by simp⟩
 | n + 1,.non,h=>⟨rfl,rfl,rfl⟩
 | n + 1,.bl b,h=>⟨rfl,rfl,by simp [eqD]⟩
 | n + 1,.int b,h=>⟨rfl,rfl,by simp [eqD]⟩
 | n + 1,.str b,h=>⟨rfl,rfl,by simp [eqD]⟩
 | n + 1,.ref a,h=>absurd h Bool.false_ne_true
 | n + 1,.fz a,h=>absurd h Bool.false_ne_true
theorem rJ {M:DM} {n:Nat} {a b:Addr} {xs:List D} (ha:M a = some xs) (hb:M b = some xs) (ne:a ≠ b) (h:∀ x ∈ xs,bH n x = true):Cm M (n + 1) (.ref a) (.ref b) true :=
 ⟨xs,xs,ha,hb,ne,fun _=>⟨fun _=>true,fun j x y e1 e2=>by
  rw [e1] at e2;cases e2
  exact aCY (h x (List.mem_of_getElem? e1)),by simp⟩,fun z=>absurd rfl z⟩
end Dd
namespace Dd
open PySem PySem.Spec PyProof.Rows L2
noncomputable def pZ (w:World) (kvs:List (Str × D)):List D:=kvs.map fun p=>.tup [.int (hashStr w p.1),.str p.1,p.2]
noncomputable def SX (K:PySem.W.Frag) (H:Hp) (p:Str × D) (x:Str × Value):Prop:=p.1 = x.1/\∃ vv,bO vv x.2/\Rep K H p.2 vv
noncomputable def rV (kvs:List (Str × D)) (k:Str) (v:D):List (Str × D):=if kvs.any (fun kv=>kv.1 = k) then kvs.map (fun kv=>if kv.1 = k then (kv.1,v) else kv) else kvs ++ [(k,v)]
theorem aES {kvs:List (Str × D)} {k:Str} {v:D}:(rV kvs k v).length<=kvs.length + 1:=by
 unfold rV
 split
 ·rw [List.length_map];omega
 ·rw [List.length_append];exact Nat.le_refl _
theorem aE8 {K:PySem.W.Frag} {H:Hp} (prog:Program) (w:World):∀ {kvs:List (Str × D)} {es:List DictEntry},sV K H (pZ w kvs) es ->
  ∃ xs:List (Str × Value),Pairs (strKind prog w) es xs/\(∀ e ∈ es,∃ k,(strKind prog w).is k e.key = true/\e.hash = (strKind prog w).hash k)/\Paired (SX K H) kvs xs
 | [],es,r=>by
  cases r
  exact ⟨[],.nil,(fun _ h=>nomatch h),.nil⟩
 | p :: kvs,es,r=>by
  cases r with
  | @cons _ e _ es' re rr =>
   obtain ⟨xs,h1,h2,h3⟩:=aE8 prog w rr
   obtain ⟨k,v,kv,vv,e1,q1,r1,q2,r2⟩:=re
   have e0:D.tup [.int (hashStr w p.1),.str p.1,p.2] = .tup [.int e.hash,k,v]:=e1
   clear e1
   injection e0 with e0
   injection e0 with e1 e2
   injection e2 with e2 e3
   injection e3 with e3 _
   injection e1 with e1
   subst e2
   subst e3
   rw [bU r1] at q1
   obtain ⟨t,q1⟩:=q1
   have is:(strKind prog w).is p.1 e.key = true:=by rw [q1];exact strKind_is prog w p.1 t
   refine ⟨(p.1,e.val) :: xs,.cons is rfl h1,fun d hd=>?_,.cons ⟨rfl,vv,q2,r2⟩ h3⟩
   rcases List.mem_cons.mp hd with z | z
   ·subst z;exact ⟨p.1,is,e1.symm⟩
   ·exact h2 d z
theorem zE {K:PySem.W.Frag} {H:Hp} (prog:Program) (w:World):∀ {kvs:List (Str × D)} {es:List DictEntry} {xs:List (Str × Value)},Pairs (strKind prog w) es xs->(∀ e ∈ es,∃ k,(strKind prog w).is k e.key = true/\e.hash = (strKind prog w).hash k)->Paired (SX K H) kvs xs->sV K H (pZ w kvs) es
 | [],es,_,p,hk,.nil=>by cases p;exact .nil
 | p :: kvs,es,x :: xs,pr,hk,.cons r rr=>by
  cases pr with
  | @cons e _ es' _ is ev pr =>
   obtain ⟨e0,vv,q,r2⟩:=r
   obtain ⟨k,ik,hk0⟩:=hk e List.mem_cons_self
   have ek:k = x.1:=(strKind prog w).inj e.key k x.1 ik is
   obtain ⟨t,et⟩:=Value.isStrOf_shape (x:=x.1) (v:=e.key) is
   refine .cons ⟨.str p.1,p.2,.str p.1,vv,?_,⟨t,by rw [et,e0]⟩,aC8,by rw [ev];exact q,r2⟩ (zE prog w pr (fun e' he'=>hk e' (List.mem_cons_of_mem _ he')) rr)
   show D.tup [.int (hashStr w p.1),.str p.1,p.2] = .tup [.int e.hash,.str p.1,p.2]
   rw [hk0,ek,e0];rfl
theorem aBY {K:PySem.W.Frag} {H:Hp} {k:Str}:∀ {kvs:List (Str × D)} {xs:List (Str × Value)},Paired (SX K H) kvs xs->(xs.any fun kv=>decide (kv.1 = k)) = kvs.any fun kv=>decide (kv.1 = k)
 | [],_,.nil=>rfl
 | p :: kvs,x :: xs,.cons r rr=>by rw [List.any_cons,List.any_cons,aBY rr,r.1]
theorem aCo {K:PySem.W.Frag} {H:Hp}:∀ {kvs:List (Str × D)} {xs:List (Str × Value)},Paired (SX K H) kvs xs->kvs.map (·.1) = xs.map (·.1)
 | [],_,.nil=>rfl
 | p :: kvs,x :: xs,.cons r rr=>by rw [List.map_cons,List.map_cons,r.1,aCo rr]
theorem aEI {K:PySem.W.Frag} {H:Hp} {k:Str} {v:D} {u:Value} {vv:V} (q:bO vv u) (rv:Rep K H v vv):∀ {kvs:List (Str × D)} {xs:List (Str × Value)},Paired (SX K H) kvs xs->Paired (SX K H) (kvs.map fun kv=>if kv.1 = k then (kv.1,v) else kv) (xs.map fun kv=>if kv.1 = k then (kv.1,u) else kv)
 | [],_,.nil=>.nil
 | p :: kvs,x :: xs,.cons r rr=>by
  rw [List.map_cons,List.map_cons]
  refine .cons ?_ (aEI q rv rr)
  by_cases c:p.1 = k
  ·rw [if_pos c,if_pos (r.1 ▸ c)];exact ⟨r.1,vv,q,rv⟩
  ·rw [if_neg c,if_neg (r.1 ▸ c)];exact r
theorem aIH {K:PySem.W.Frag} {H:Hp} {k:Str} {v:D} {u:Value} {vv:V} (q:bO vv u) (rv:Rep K H v vv) {kvs:List (Str × D)} {xs:List (Str × Value)} (h:Paired (SX K H) kvs xs):Paired (SX K H) (rV kvs k v) (stored xs k u):=by
 unfold rV stored
 rw [aBY h]
 split
 ·exact aEI q rv h
 ·exact Paired.snoc h ⟨rfl,vv,q,rv⟩
theorem aHN {K:PySem.W.Frag} {H:Hp} {k:Str}:∀ {kvs:List (Str × D)} {xs:List (Str × Value)} {d:D},Paired (SX K H) kvs xs->(kvs.find? fun p=>decide (p.1 = k)).map (·.2) = some d->∃ u vv,valueAt xs k = some u/\bO vv u/\Rep K H d vv
 | [],_,_,.nil,h=>by simp at h
 | p :: kvs,x :: xs,d,.cons r rr,h=>by
  unfold valueAt
  by_cases c:p.1 = k
  ·rw [List.find?_cons_of_pos (by simpa using c)] at h
   rw [List.find?_cons_of_pos (by simpa using r.1 ▸ c)]
   cases h
   obtain ⟨_,vv,q,rv⟩:=r
   exact ⟨_,vv,rfl,q,rv⟩
  ·rw [List.find?_cons_of_neg (by simpa using c)] at h
   rw [List.find?_cons_of_neg (by simpa using r.1 ▸ c)]
   exact aHN rr h
theorem aBd (k:Str):∀ xs:List (Str × Value),(xs.find? fun kv=>decide (kv.1 = k)).isSome = xs.any fun kv=>decide (kv.1 = k)
 | []=>rfl
 | x :: xs=>by
  by_cases c:x.1 = k
  ·rw [List.find?_cons_of_pos (by simpa using c),List.any_cons,decide_eq_true c];rfl
  ·rw [List.find?_cons_of_neg (by simpa using c),List.any_cons,decide_eq_false c,Bool.false_or];exact aBd k xs
theorem aFR {K:PySem.W.Frag} {H:Hp} {k:Str} {kvs:List (Str × D)} {xs:List (Str × Value)} (h:Paired (SX K H) kvs xs):(valueAt xs k).isSome = kvs.any fun kv=>decide (kv.1 = k):=by
 rw [<- aBY (k:=k) h]
 unfold valueAt
 rw [Option.isSome_map]
 exact aBd k xs
section
variable {X:Cx} {pins:List (Addr × Obj)} {σ:L2.St} {H:Hp} {s:Shared}
theorem rG (I:Inv X pins σ H s) {a:Addr} {M:DM} {kvs:List (Str × D)} (hm:bK X.K M H) (ha:M (.d a) = some (pZ X.w kvs)) (nd:(kvs.map (·.1)).Nodup) :
  ∃ es xs,H a = some (.ext (nY a es))/\Paired (SX X.K H) kvs xs/\s.heap.DictOf (strKind X.prog X.w) a xs/\(a == sysModules) = false/\xs.length = kvs.length:=by
 obtain ⟨es,hH,hr⟩:=hm.d a _ ha
 obtain ⟨xs,h1,h2,h3⟩:=aE8 X.prog X.w hr
 obtain ⟨⟨hs,hz,ep,e⟩,_⟩:=I.hok a _ hH
 refine ⟨es,xs,hH,h3,⟨_,_,ep,e,⟨rfl,rfl,rfl⟩,rfl,fun d hd=>h2 d (by simpa using hd),by simpa using h1,by rw [<- aCo h3];exact nd⟩,hs,(Paired.len h3).symm⟩
theorem wT (I:Inv X pins σ H s) {a:Addr} {kvs:List (Str × D)} {k:Str} {v:D} {u:Value} {vv:V} {es:List DictEntry} {xs:List (Str × Value)} {h':Heap} {tk:Nat}
  (hH:H a = some (.ext (nY a es))) (hp:Paired (SX X.K H) kvs xs) (hs:(a == sysModules) = false) (hz:kvs.length < sizeLine) (q:bO vv u) (rv:Rep X.K H v vv)
  (hd':h'.DictOf (strKind X.prog X.w) a (stored xs k u)) (hsb:Heap.SameBut a s.heap h') :
  ∃ es',Inv X pins σ (upd H a (.ext (nY a es'))) { s with heap:=h',toks:=tk }/\sV X.K H (pZ X.w (rV kvs k v)) es':=by
 obtain ⟨o,es',ep,ho,hx,hda,hk,hpr,_⟩:=hd'
 have eo:=aFy hx hda
 subst eo
 have hp':=aIH (k:=k) q rv hp
 have lz:es'.toList.length<=sizeLine:=by
  have e1:=Paired.len hp'
  have e2:=hpr.length
  have e3:=aES (kvs:=kvs) (k:=k) (v:=v)
  omega
 refine ⟨es'.toList,I.write (e:=a) (by rw [hH];exact True.intro) (.inl rfl) (fun c o hc e=>hsb.extBut c o hc e) ⟨_,ho⟩ (aAU ⟨hs,lz,ep,by rw [ho,Array.toArray_toList]⟩),zE X.prog X.w hpr (fun e he=>hk e (by simpa using he)) hp'⟩
theorem aDG:aKG X fun o i v H Q=>∃ p k d M kvs,o = .ref p/\i = .str k/\Rep X.K H d v/\bK X.K M H/\M (.d p) = some (pZ X.w kvs)/\(kvs.map (·.1)).Nodup/\kvs.length < 1000 /\
  ∀ H',bK X.K (jT M p (pZ X.w (rV kvs k d))) H'->Ext H H'->Q H':=by
 intro pins s σ H o i v ov iv u Q I ro ri rv ⟨p,k,d,M,kvs,eo,rk,rd,hm,hp,tk,hl,q⟩
 subst eo rk
 cases ro
 obtain ⟨t,rfl⟩:=ri
 obtain ⟨es,xs,hH,hx,hd,hs,lx⟩:=rG I hm hp tk
 have hz':kvs.length < sizeLine:=cY (Nat.le_of_lt hl)
 refine wpAny_setItem_pairs (hsz:=by omega) (strKind_is X.prog X.w k t) hd fun h' hd' hsb=>?_
 obtain ⟨es',I',en⟩:=wT (tk:=s.toks + 1) I hH hx hs hz' rv rd hd' hsb
 exact ⟨_,I',q _ (hm.kput hH en) (Ext.putX hH _)⟩
end
section
variable {X:Cx} {pos:Pos}
noncomputable def aFv (w:World) (to ti:DE):DG:=fun d ρ M Q=>to ρ M fun o M1=>ti ρ M1 fun i M2=>match o,i with
 | .ref p,.str k=>∃ kvs,M2 (.d p) = some (pZ w kvs)/\(kvs.map (·.1)).Nodup/\kvs.length < 1000/\Q ρ (jT M2 p (pZ w (rV kvs k d)))
 | _,_=>False
theorem aGe {o i:Expr} {to ti:DE} (ho:PDE X o to) (hi:PDE X i ti)
  (ha:∀ v,assign (.Subscript o i pos) X.env v = (do
   let ov <- holding [v] (eval o X.env)
   let iv <- holding [v,ov] (eval i X.env)
   standAt pos
   holding [v,ov,iv] (setItem ov iv v)
   release [v,ov,iv] []):=by intro _;rfl):PDG X (.Subscript o i pos) (aFv X.w to ti) :=
 aBS (aKb ho hi aDG ha) fun v σ H Q ⟨d,ρ,M,Q',rd,re,hm,q,k⟩=>⟨ρ,M,_,re,hm,q,fun ov H1 ⟨dov,M1,rov,hm1,e1,q1⟩=>⟨ρ,M1,_,re.ext e1,hm1,q1,fun iv H2 ⟨div,M2,riv,hm2,e2,q2⟩=>by
  cases dov with
  | ref p =>
   cases div with
   | str kk =>
    obtain ⟨kvs,hp,tk,hl,q2⟩:=q2
    exact ⟨p,kk,d,M2,kvs,aT rov,bU riv,(rd.ext e1).ext e2,hm2,hp,tk,hl,fun H3 hm3 e3=>k _ _ ⟨ρ,_,((re.ext e1).ext e2).ext e3,hm3,(e1.trans e2).trans e3,q2⟩⟩
   | _=>exact q2.elim
  | _=>exact q2.elim⟩⟩
noncomputable def aLF (w:World) (g:Bool->Bool):D2:=fun x y M Q=>match x,y with
 | .str k,.ref a=>∃ kvs,M (.d a) = some (pZ w kvs)/\(kvs.map (·.1)).Nodup/\Q (.bl (g (kvs.any fun kv=>decide (kv.1 = k)))) M
 | _,_=>False
theorem aJW:OpD X (compareOp .In) (aLF X.w id):=fun pins s σ H x y v u Q I rx ry ⟨dx,dy,M,Q',r1,r2,hm,q,k⟩=>by
 match dx,dy,q with
 | .str kk,.ref a,q =>
  obtain ⟨kvs,ha,nd,q⟩:=q
  obtain rfl:=bU r1
  obtain rfl:=aT r2
  obtain ⟨t,rfl⟩:=rx
  cases ry
  obtain ⟨es,xs,hH,hx,hd,hs,lx⟩:=rG I hm ha nd
  refine wpAny_in_of (strKind_is X.prog X.w kk t) hs hd.mapOf ?_
  rw [aFR hx]
  exact ⟨.bl _,H,I.tok _,rfl,k _ H ⟨_,M,eA,hm,.refl H,q⟩⟩
noncomputable def aHP (w:World) (te ti:DE):DE:=fun ρ M Q=>te ρ M fun x M1=>ti ρ M1 fun i M2=>match x,i with
 | .ref a,.str k=>∃ kvs d,M2 (.d a) = some (pZ w kvs)/\(kvs.map (·.1)).Nodup/\(kvs.find? fun p=>decide (p.1 = k)).map (·.2) = some d/\Q d M2
 | _,_=>False
theorem aJ3 {e i:Expr} {te ti:DE} (he:PDE X e te) (hi:PDE X i ti) (hs:lZ i:=by intro _ _;rfl):PDE X (.Subscript e i pos) (aHP X.w te ti):=by
 intro pins s σ H Q I ⟨ρ,M,Q',re,hm',q,kq⟩
 refine Subscript_ (thn (he pins s σ H (LQ X.K H _) I ⟨ρ,M,_,re,hm',q,fun _ _ z=>z⟩) fun u0 s0 ⟨y0,H0,I0,ry0,d0,M0,r0,hm0,e0,q0⟩=>?_)
 refine thn (hi pins s0 σ H0 (LQ X.K H0 _) I0 ⟨ρ,M0,_,re.ext e0,hm0,q0,fun _ _ z=>z⟩) fun u s1 ⟨y,H1,I1,ry,d1,M1,r1,hm1,e1,q1⟩=>?_
 match d0,d1,q1 with
 | .ref a,.str k,q1 =>
  obtain ⟨kvs,d,ha,nd,hf,q1⟩:=q1
  rw [aT r0] at ry0
  cases ry0
  rw [bU r1] at ry
  obtain ⟨t,rfl⟩:=ry
  obtain ⟨es,xs,hH,hx,hd,hsy,lx⟩:=rG I1 hm1 ha nd
  obtain ⟨v,vv,hv,qv,rv⟩:=aHN hx hf
  have mo:=hd.mapOf
  refine subscriptTail_builtinR (x:=v) (T:="dict") mo.typeIs PySem.F.slot_dict_getitem.lookup (wpAny_getItem_of (strKind_is X.prog X.w k t) mo hv ⟨rfl,?_⟩) (hs _ _)
  exact ⟨vv,H1,I1.tok _,qv,kq _ _ ⟨d,M1,rv,hm1,e0.trans e1,q1⟩⟩
theorem wG {pins:List (Addr × Obj)} {σ:L2.St} {a:Addr}:∀ {ps:List (Str × D)} {vs:List (Value × Value)} {kvs:List (Str × D)} {H:Hp} {M:DM} {s:Shared} {Q:PUnit->Shared->Prop},
  Inv X pins σ H s->bK X.K M H->M (.d a) = some (pZ X.w kvs)->((kvs ++ ps).map (·.1)).Nodup->kvs.length + ps.length<=1000->Paired (PrR X.K H) (ps.map fun p=>(.str p.1,p.2)) vs ->
  (∀ H' s',Inv X pins σ H' s'->bK X.K (jT M a (pZ X.w (kvs ++ ps))) H'->Ext H H'->Q PUnit.unit s')->wpAny (model X.prog X.w) X.A (storeAll a vs) Q X.xe s
 | [],vs,kvs,H,M,s,Q,I,hm,ha,nd,hl,r,q=>by
  cases r
  have e:jT M a (pZ X.w (kvs ++ [])) = M:=by
   funext b
   unfold jT
   split
   ·rename_i z;rw [z,ha,List.append_nil]
   ·rfl
  exact wpAny_pure (q H s I (by rw [e];exact hm) (.refl H))
 | p :: ps,vs,kvs,H,M,s,Q,I,hm,ha,nd,hl,r,q=>by
  cases r with
  | @cons _ y _ ys r1 rr =>
   obtain ⟨y1,y2⟩:=y
   obtain ⟨x,v,rx,rp,rv,rq⟩:=r1
   rw [bU rp] at rx
   obtain ⟨t,ey⟩:=rx
   have ey:y1 = .str p.1 t:=ey
   subst ey
   have nd0:(kvs.map (·.1)).Nodup:=by
    rw [List.map_append] at nd
    exact (List.nodup_append.mp nd).1
   have nin:(kvs.any fun kv=>decide (kv.1 = p.1)) = false:=by
    rw [List.any_eq_false]
    intro x hx z
    rw [List.map_append] at nd
    exact (List.nodup_append.mp nd).2.2 x.1 (List.mem_map.mpr ⟨x,hx,rfl⟩) p.1 (by simp) (by simpa using z)
   obtain ⟨es,xs,hH,hx,hd,hs,lx⟩:=rG I hm ha nd0
   rw [List.length_cons] at hl
   have hz':kvs.length < sizeLine:=cY (by omega)
   have eput:rV kvs p.1 p.2 = kvs ++ [p]:=by unfold rV;rw [nin];rfl
   unfold storeAll
   rw [List.forIn_cons]
   refine wpAny_bind (wpAny_bind ?_)
   refine wpAny_dictSet_pairs (hsz:=by omega) (strKind_is X.prog X.w p.1 t) hd fun h' hd' hsb=>?_
   obtain ⟨es',I',en⟩:=wT (tk:=s.toks + 1) I hH hx hs hz' rv rq hd' hsb
   rw [eput] at en
   refine wpAny_pure ?_
   have e1:=Ext.putX hH (.ext (nY a es'))
   refine wG I' (hm.kput hH en) gQ (by rw [List.append_assoc];exact nd) (by rw [List.length_append];show kvs.length + 1 + ps.length<=1000;omega) (Paired.mapP rr fun _ _ r=>r.ext e1) fun H' s' I2 hm2 e2=>?_
   rw [aDB,List.append_assoc] at hm2
   exact q H' s' I2 hm2 (e1.trans e2)
noncomputable def aAG (w:World) (trs:List (DE × DE)):DE:=fun ρ M Q=>∀ p:Addr,M (.d p) = none->sG trs ρ (jT M p []) fun ps M2=>M2 (.d p) = some []/\∃ kvs:List (Str × D),ps = (kvs.map fun q=>(.str q.1,q.2))/\(kvs.map (·.1)).Nodup/\kvs.length<=1000/\Q (.ref p) (jT M2 p (pZ w kvs))
theorem aEm {keys:List (Option Expr)} {values:List Expr} {trs:List (DE × DE)} (h:aHm X pos keys values trs) (hall:keys.all (·.isSome) = true) (hl:keys.length = values.length) (h0:keys ≠ [])
  (h15:keys.length<=15):PDE X (.Dict keys values pos) (aAG X.w trs):=by
 intro pins s σ H Q I ⟨ρ,M,Q',re,hm,q,k⟩
 have hn:=I.hok.fresh (Nat.le_refl s.heap.objs.size)
 have big:sysModules < s.heap.objs.size:=Nat.lt_trans (by decide) (I.mod.glob.keeps I.bk).lt
 have I1:=I.laid (a:=s.heap.objs.size) (o:=.ext (nY s.heap.objs.size [])) (h':=s.heap.push { cls:=.type "dict",data:=.dict #[] }) (t':=s.toks) (fun _ _ q=>Heap.get?_push_of_some _ q) (Nat.le_refl _)
  (aAU ⟨beq_eq_false_iff_ne.mpr (Ne.symm (Nat.ne_of_lt big)),Nat.zero_le _,0,Heap.get?_push_size _ rfl⟩)
 have e0:=Ext.new hn (.ext (nY s.heap.objs.size []))
 refine wpAny_Dict_any hall hl h0 h15 (thn (h pins _ σ ρ _ _ _ I1 (re.ext e0) (hm.knew hn .nil) (q _ (hm.freshD hn))) fun vs s2 ⟨ps,H2,M2,I2,rel,hm2,e2,h2,kvs,eps,nd,hz,q2⟩=>?_)
 subst eps
 refine wG (kvs:=[]) I2 hm2 h2 nd (by rw [List.length_nil];omega) rel fun H3 s3 I3 hm3 e3=>?_
 exact ⟨.ref _,H3,I3,rfl,k _ _ ⟨.ref _,_,fY,hm3,(e0.trans e2).trans e3,q2⟩⟩
theorem aDN {k v k' v':Expr} {tk tv tk' tv':DE} (hk:PDE X k tk) (hv:PDE X v tv) (hk':PDE X k' tk') (hv':PDE X v' tv'):PDE X (.Dict [some k,some k'] [v,v'] pos) (aAG X.w [(tk,tv),(tk',tv')]) :=
 aEm (aBz hk hv (aBz hk' hv' aGu)) rfl rfl (fun e=>nomatch e) (Nat.le_of_ble_eq_true rfl)
end
end Dd
namespace Dd
open PySem PySem.Spec PyProof.Rows L2
section
variable {X:Cx} {pins:List (Addr × Obj)} {σ:L2.St} {H:Hp} {s:Shared}
end
section
variable {X:Cx} {pos:Pos}
theorem aAV {o i:Expr} {to ti:DE} (ho:ZE X o to) (hi:ZE X i ti) (ha:∀ v,assign (.Subscript o i pos) X.env v = (do
   let ov <- holding [v] (eval o X.env)
   let iv <- holding [v,ov] (eval i X.env)
   standAt pos
   holding [v,ov,iv] (setItem ov iv v)
   release [v,ov,iv] []):=by intro _;rfl):ZG X (.Subscript o i pos) (aFv X.w to ti):=.i (aGe ho.o hi.o ha)
theorem tT {e i:Expr} {te ti:DE} (he:ZE X e te) (hi:ZE X i ti) (hs:lZ i:=by intro _ _;rfl):ZE X (.Subscript e i pos) (aHP X.w te ti):=.i (aJ3 he.o hi.o hs)
theorem aCc {k v k' v':Expr} {tk tv tk' tv':DE} (hk:ZE X k tk) (hv:ZE X v tv) (hk':ZE X k' tk') (hv':ZE X v' tv'):ZE X (.Dict [some k,some k'] [v,v'] pos) (aAG X.w [(tk,tv),(tk',tv')]):=.i (aDN hk.o hv.o hk'.o hv'.o)
end
end Dd
namespace Dd
open PySem PySem.Spec PyProof.Rows L2
noncomputable def FK (K:PySem.W.Frag) (x:Str) (f:Addr) (st:Stmt):Prop:=PySem.W.nsIn K mainGlobals x = some (some (.ref f))/\∃ fd,L2.Fun K x x st f fd
theorem FK.has {K:PySem.W.Frag} {mg:Str->Option Value} {h:Heap} {x:Str} {f:Addr} {st:Stmt} {ps:List Str} (b:FK K x f st) (X:K.In h) (G:h.Ns mainGlobals mg)
  (r:∀ (kV doc pm:Value) (an:Option Addr) (cdv ct:Value) (us:List Value),us.length = ps.length->bindArgs (PySem.W.fnOf x x (lV st) (eK st) (aK st) .none kV doc pm an cdv ct) ⟨us,[]⟩ = pure (ps.zip us)):cA K mg x st ps :=
 let ⟨a,_,F⟩:=b;⟨_,_,F,PySem.W.mg_of X G a,F.binds r⟩
end Dd
namespace Dd
open PySem PySem.Spec PyProof.Rows L2
noncomputable def aAY (tl:DE) (g:DG) (tb:DS):DS:=fun E ρ M=>aBx tl g tb E ρ M ∨ aBk tl g tb E ρ M
section
variable {X:Cx} {pos:Pos} {st:Stmt} {t1 t2:DS} {iter tg:Expr} {body:List Stmt} {tl:DE} {g:DG} {tb:DS}
theorem PDS.or (h1:PDS X st t1) (h2:PDS X st t2):PDS X st (fun E ρ M=>t1 E ρ M ∨ t2 E ρ M) :=
 fun a b c d e f ⟨ρ,M,Dn,re,hm,q,k⟩=>q.elim (fun q=>h1 a b c d e f ⟨ρ,M,Dn,re,hm,q,k⟩) fun q=>h2 a b c d e f ⟨ρ,M,Dn,re,hm,q,k⟩
theorem aG4 (hp:PassesOwn (model X.prog X.w) X.A X.env X.xe) (hc:X.calm = true) (hi:PDE X iter tl) (hg:PDG X tg g) (hb:iV X body tb) (hs:∀ x,foldedSetIterable iter X.env x = pure x:=by intro _;rfl):PDS X (.For tg iter body [] pos) (aAY tl g tb) :=
 PDS.or (aCn hp hc hi hg hb hs) (aCM hp hc hi hg hb hs)
theorem aEf {i:Nat} {ds:List D} {E:fO} {ρ:cF} {M:DM} (h:ρ[i]? = some (some (.tup ds))) (q:dIt none ds g tb E ρ M):aAY (aAE i) g tb E ρ M:=.inl (by unfold aBx aAE;rw [h];exact q)
theorem aEE {i:Nat} {a:Addr} {ds:List D} {E:fO} {ρ:cF} {M:DM} (h:ρ[i]? = some (some (.ref a))) (ha:M a = some ds) (q:dIt (some a) ds g tb E ρ M):aAY (aAE i) g tb E ρ M:=.inr (by unfold aBk aAE;rw [h];exact ⟨ds,ha,q⟩)
noncomputable def aHM:D2:=fun x y M Q=>match x,y with
 | .ref a,.int n=>∃ ds,M a = some ds/\ds ≠ []/\-(2 ^ 62)<=n/\n < 2 ^ 62/\ds.length * n.toNat<=1000/\∀ p:Addr,M p = none->Q (.ref p) (bE M p (List.replicate n.toNat ds).flatten)
 | _,_=>False
theorem aCE:OpD X (binaryOp .Mult) aHM:=by
 intro pins s σ H x y v u Q I rx ry ⟨dx,dy,M,Q',r1,r2,hm,q,k⟩
 match dx,dy,q with
 | .ref a,.int n,q =>
  obtain ⟨ds,ha,ne,h1,h2,hz,q⟩:=q
  obtain ⟨vs,hu,rs⟩:=hm.l a ds ha
  obtain rfl:=aT r1
  obtain rfl:=aV r2
  cases rx
  obtain ⟨t,rfl⟩:=ry
  obtain ⟨z,its,m,rv,hl2,ho⟩:=I.lstM hu
  have l1:=rs.length
  have l2:=rv.length
  have hs:=cY hz
  have he:its.toArray.isEmpty = false:=by
   cases its with
   | nil=>exact absurd (List.length_eq_zero_iff.mp (by rw [l1,l2];rfl)) ne
   | cons a b=>rfl
  have hz':its.toArray.size * n.toNat<=sizeLine:=by rw [List.size_toArray,<- l2,<- l1];exact Nat.le_of_lt hs
  refine wpAny_binaryOp_repeat_ref (T:="list") (U:="int") (by decide) ⟨_,ho,rfl⟩ (fun s'=>typeIs_int s' n t) noFill_list_mul F.fills_int_mul F.slot_int_rmul repeat_list F.slot_int_index.lookup
   (call_meets F.slot_int_rmul (typeIs_int s n t) F.entry_int_rmul (F.args_int_rmul_2 _ _) (int___rmul___int_list n t a its.toArray m) ⟨ho,rfl,⟨_,ho,rfl⟩,?_⟩)
  refine call_meets F.slot_list_mul ⟨_,ho,rfl⟩ F.entry_list_mul (F.args_list_mul_2 _ _) (AutoListH.list___mul___list_int_3 a its.toArray m n t (by simp [Builtin.List.listFitsIndex];omega) (by simp [sizeLine] at hz';simp;omega) (by simp [Builtin.List.listTooLong];exact by simpa using hz')) ⟨ho,?_⟩
  rw [he]
  simp only [Bool.false_eq_true,if_false]
  have ef:=yQ its n.toNat
  rw [show (List.foldl (fun x1 x2=>x1 ++ x2) #[] (List.replicate n.toNat its.toArray)) = (List.replicate n.toNat its).flatten.toArray from ef]
  have hl:(List.replicate n.toNat its).flatten.length<=sizeLine:=by
   rw [L2.len_rep]
   rw [List.size_toArray,Nat.mul_comm] at hz';exact hz'
  exact ⟨.ref _,_,I.lnew (t':=s.toks) (wC rv n.toNat) (by rw [L2.len_rep,l2,<- L2.len_rep];exact hl),rfl,k _ _ ⟨.ref _,_,fY,hm.lnew I.fresh (vX rs n.toNat),Ext.new I.fresh _,q _ (hm.fresh I.fresh)⟩⟩
end
end Dd
namespace Dd
open PySem PySem.Spec PyProof.Rows L2
section
variable {X:Cx} {pos:Pos} {st:Stmt} {t1 t2:DS} {iter tg:Expr} {body:List Stmt} {tl:DE} {g:DG} {tb:DS}
theorem wP (hp:PassesOwn (model X.prog X.w) X.A X.env X.xe) (hc:X.calm = true) (hi:ZE X iter tl) (hg:ZG X tg g) (hb:ZSs X body tb) (hs:∀ x,foldedSetIterable iter X.env x = pure x:=by intro _;rfl):ZS X (.For tg iter body [] pos) (aAY tl g tb):=.i (aG4 hp hc hi.o hg.o hb.o hs)
end
end Dd
namespace Dd
open PySem PySem.Spec PyProof.Rows L2 Mz
section
variable {prog:Program} {w:World} {A:Around} {I S:Addr} {fp wr:List Addr} {n:Nat} {P:Nat->Value->Prop} {St:Nat->Heap->Prop} {R:Result->Shared->Prop} {dv:Value}
end
section
variable {prog:Program} {w:World} {A:Around} {E:Value->Shared->Prop} {s:Shared} {l:Addr} {xs:Array (Int × Tok)} {dv:Value}
end
section
variable {X:Cx} {pos p kp:Pos} {e d:Expr} {te td:DE}
end
section
variable {X:Cx} {pos:Pos} {iter tg:Expr} {body:List Stmt} {te:DE}
noncomputable def aEF (te:DE):DS:=fun E ρ M=>te ρ M fun _ _=>False
theorem aGg (hi:PDE X iter te) (hs:∀ x,foldedSetIterable iter X.env x = pure x:=by intro _;rfl):PDS X (.For tg iter body [] pos) (aEF te):=by
 intro pins s σ H D I ⟨ρ,M,Dn,re,hm,q,k⟩
 exact wpAny_For (thn (hi pins s σ H _ I ⟨ρ,M,_,re,hm,q,fun _ _ z=>z⟩) fun v s1 ⟨y,H1,I1,ry,d1,M1,r1,hm1,ex,q1⟩=>q1.elim) hs
end
end Dd
namespace Dd
open PySem PySem.Spec PyProof.Rows L2
section
variable {prog:Program} {w:World} {A:Around} {I S:Addr} {fp wr:List Addr} {n:Nat} {P:Nat->Value->Prop} {St:Nat->Heap->Prop} {R:Result->Shared->Prop} {dv:Value}
end
section
variable {prog:Program} {w:World} {A:Around} {E:Value->Shared->Prop} {s:Shared} {l:Addr} {xs:Array (Int × Tok)} {dv:Value}
end
section
variable {X:Cx} {pos p kp:Pos} {e d:Expr} {te td:DE}
end
section
variable {X:Cx} {pos:Pos} {iter tg:Expr} {body:List Stmt} {te:DE}
theorem aFK (hi:ZE X iter te) (hs:∀ x,foldedSetIterable iter X.env x = pure x:=by intro _;rfl):ZS X (.For tg iter body [] pos) (aEF te):=.i (aGg hi.o hs)
end
end Dd
namespace Lw
open PySem PySem.Spec PyProof.Rows L2 Dd Mz
local macro_rules | `(tactic| decreasing_tactic) => `(tactic| try dsimp only [gA, aBT, aIv, fO.un, aE4, aJb, List.map, List.length_cons, List.length_nil, Nat.reduceAdd, Nat.reduceSub, List.reduceReplicate, List.cons_append, List.nil_append, List.set_cons_zero, List.set_cons_succ, List.getElem?_cons_zero, List.getElem?_cons_succ, gCn, gN, gNl, aI6, aJP, aLi, aLj, aK5, aLc, aKr, aKt, aK7, aHa, aGd, aGl, aEN, aJL, aFX, aGW, aGp, aGD, aGG, aHi, aGC, aEa, aIz, aLt, aK2, aKF, aKC, ixT, ixF, aL4, aLK, aLu, aKZ, aLR, aJf, mE, aC2, aBM, dOp, aAE, dC, d2I, d2J, aLf, yS, aJN, dOr, aJT, aEY, aIf, aEq, aIN, aJ6, aJG, aFN, aJa, aEj, aHU, uR, aDw, aIh, aFi, aHj, aH7, aBk, aD6, aBQ, aEe, aFd, aGF, aG0, aH3, aJw, goC, aJJ, qZ, Option.join_some, aJZ, aI5, dPt, aKR, dSl, aId, aHx, aFv, aLF, aHP, aAG, aIP, aBJ, aD3, aHv, aHH, aLh, aEF, aKL, aAz, aLw, aD0, aKw, sG, aFa, aMr, aH1, aHo, aE7, isV, aJQ, aJ0, aJ7, aIm, aJF, aHQ, aIZ, aJC, aIg, aIe, aJh, aKe, aJ8, aIK, aIY, aJE, aIU, aHZ, aI8, aIt, aJt, aJ5, aIn, aH5, aIJ, aIS, aJK])
local macro_rules | `(tactic| simp_arith) => `(tactic| try simp only [aE0, nL, aJ9, iI, aO, id, decide_eq_true_eq, Bool.not_eq_true', decide_eq_false_iff_not])
noncomputable def top (i:Nat):Stmt:=PySem.Challenge.pw_arcmill_k70_strokes_drawn.main.body.getD i (.Pass ⟨0,0,0,0⟩)
section
variable {P:Program} {w:World} {K:PySem.W.Frag} {mg:Str->Option Value} {base:Heap}
noncomputable abbrev fP:Stmt:=top 6
theorem iD:aS ["one","other"] ["one","other"] (aK fP):=⟨rfl,rfl,rfl,by decide +kernel,rfl,by decide +kernel,by decide +kernel⟩
theorem oE (hF:cA K mg "greatest_divisor" fP ["one","other"]) (kD:mg "abs" = none):Has P w K mg base 101 "greatest_divisor" ["one","other"] fN:=by
 refine Has.mkZ hF iD (fun ds M Q ⟨a,b,e,_⟩=>by rw [e];rfl) fun f cdv A outer s H ds M Q E hr h=>?_
 obtain ⟨a,b,rfl,q⟩:=h
 refine ⟨_,(aE (kQ PassesOwn.never (aQ (rB hr) (aB 1) aC) (aG (oO (i:=0) (j:=1) rfl iD.nd (aA (aB 1) (aA (aN cW (aB 0) (aB 1)) aD)))))
  (aG (aP (eC uN kD (aA (aB 0) aD))))),?_⟩
 refine kN (fun m ρ M'=>M' = M/\∃ x y:Int,ρ = [some (.int x),some (.int y)]/\m = y.natAbs/\Int.gcd x y = Int.gcd a b) _ ⟨rfl,a,b,rfl,rfl,rfl⟩ ?_
 rintro m ρ M' ⟨rfl,x,y,rfl,rfl,g⟩
 refine ⟨rfl,rfl,aHC (fun c=>?_) (fun c=>?_)⟩
 ·have c:y ≠ 0:=by simpa [eqD] using c
  exact ⟨c,_,aCZ c,rfl,y,x.fmod y,rfl,rfl,(aBE x y).trans g⟩
 ·have c:y = 0:=by simpa [eqD] using c
  subst c
  refine ⟨M',.refl _,?_⟩
  have e:(if x < 0 then -x else x) = (Int.gcd a b:Int):=by rw [<- g,Int.gcd_zero_right];split<;>omega
  rw [e]
  exact q
noncomputable abbrev aBL:Stmt:=top 7
theorem qV:aS ["one","other","shared","part","top","left"] ["one","other"] (aK aBL):=⟨rfl,rfl,rfl,by decide +kernel,rfl,by decide +kernel,by decide +kernel⟩
theorem aFc (hF:cA K mg "plus" aBL ["one","other"]) (cD:Has P w K mg base 101 "greatest_divisor" ["one","other"] fN):Has P w K mg base 102 "plus" ["one","other"] tV:=by
 refine Has.mkZ hF qV qH fun f cdv A outer s H ds M Q E hr h=>?_
 obtain ⟨p,r,m,n,rfl,_,h1,h2,l,q⟩:=h
 refine ⟨_,(aE (aM (i:=2) qV.nd (aF cD hr (by decide) (aA (aH (aB 0) aC) (aA (aH (aB 1) aC) aD))))
  (aE (aM (i:=3) qV.nd (aN fG (aH (aB 0) aC) (aB 2)))
  (aE (aM (i:=4) qV.nd (aN cP (aN cB (aH (aB 0) aC) (aN fG (aH (aB 1) aC) (aB 2))) (aN cB (aH (aB 1) aC) (aB 3))))
  (aE (aM (i:=5) qV.nd (aF cD hr (by decide) (aA (aB 4) (aA (aB 2) aD))))
  (aG (aP (aI (aA (aN fG (aB 4) (aB 5)) (aA (aN cB (aB 3) (aN fG (aH (aB 1) aC) (aB 5))) aD))))))))),?_⟩
 obtain ⟨g0,l0,gd,ld,e1,e2⟩:=aMh p r _ _ _ _ rfl rfl rfl rfl
 have gr:(Int.gcd p.den r.den:Int) ∣ (r.den:Int):=Int.gcd_dvd_right _ _
 have bg:Bd m (Int.gcd p.den r.den:Int):=h1.2.dvd gd (eP p)
 refine ⟨_,_,rfl,aAZ h1.2 (by omega) gd (eP p) g0,aAZ h1.2 (by omega) gd (eP p) g0,hJ h1.1 (h2.2.fdiv gr) (by omega),hJ h2.1 (h1.2.fdiv gd) (by omega),_,_,rfl,?_⟩
 refine ⟨aAZ bg (by omega) ld g0 l0,aAZ bg (by omega) ld g0 l0,hJ (h1.2.fdiv gd) (h2.2.fdiv (Int.dvd_trans ld gr)) (by omega),by show (2:Nat)<=1000;decide,M,.refl _,?_⟩
 have q':Q (.tup [.int (p + r).num,.int ((p + r).den:Int)]) M:=q
 rw [<- e1,<- e2] at q'
 exact q'
noncomputable abbrev aAB:Stmt:=top 8
theorem vU:aS ["one","other","falling","rising"] ["one","other"] (aK aAB):=⟨rfl,rfl,rfl,by decide +kernel,rfl,by decide +kernel,by decide +kernel⟩
theorem aDC (hF:cA K mg "times" aAB ["one","other"]) (cD:Has P w K mg base 101 "greatest_divisor" ["one","other"] fN):Has P w K mg base 102 "times" ["one","other"] mW:=by
 refine Has.mkZ hF vU qH fun f cdv A outer s H ds M Q E hr h=>?_
 obtain ⟨p,r,m,n,rfl,_,h1,h2,l,q⟩:=h
 refine ⟨_,(aE (aM (i:=2) vU.nd (aF cD hr (by decide) (aA (aH (aB 0) aC) (aA (aH (aB 1) aC) aD))))
  (aE (aM (i:=3) vU.nd (aF cD hr (by decide) (aA (aH (aB 1) aC) (aA (aH (aB 0) aC) aD))))
  (aG (aP (aI (aA (aN cB (aN fG (aH (aB 0) aC) (aB 2)) (aN fG (aH (aB 1) aC) (aB 3))) (aA (aN cB (aN fG (aH (aB 0) aC) (aB 3)) (aN fG (aH (aB 1) aC) (aB 2))) aD))))))),?_⟩
 obtain ⟨f0,r0,fd,rd,e1,e2⟩:=aMc p r _ _ rfl rfl
 have fl:(Int.gcd p.num r.den:Int) ∣ p.num:=Int.gcd_dvd_left _ _
 have rl:(Int.gcd r.num p.den:Int) ∣ r.num:=Int.gcd_dvd_left _ _
 refine ⟨_,_,rfl,_,_,rfl,aAZ h2.2 (by omega) fd (eP r) f0,aAZ h1.2 (by omega) rd (eP p) r0,hJ (h1.1.fdiv fl) (h2.1.fdiv rl) (by omega),aAZ h1.2 (by omega) rd (eP p) r0,aAZ h2.2 (by omega) fd (eP r) f0,hJ (h1.2.fdiv rd) (h2.2.fdiv fd) (by omega),by show (2:Nat)<=1000;decide,M,.refl _,?_⟩
 have q':Q (.tup [.int (p * r).num,.int ((p * r).den:Int)]) M:=q
 rw [<- e1,<- e2] at q'
 exact q'
noncomputable abbrev aBF:Stmt:=top 9
theorem aF4:aS ["one","other"] ["one","other"] (aK aBF):=⟨rfl,rfl,rfl,by decide +kernel,rfl,by decide +kernel,by decide +kernel⟩
theorem aE5 (hF:cA K mg "over" aBF ["one","other"]) (gB:Has P w K mg base 102 "times" ["one","other"] mW):Has P w K mg base 103 "over" ["one","other"] aCV:=by
 refine Has.mkZ hF aF4 qH fun f cdv A outer s H ds M Q E hr h=>?_
 obtain ⟨p,r,m,n,rfl,h0,h1,h2,l,q⟩:=h
 refine ⟨_,(aE (bC (aQ (cN hr) (aH (aB 1) aC) aC) (aG yX) aW)
  (aE (bC (aQ wD (aH (aB 1) aC) aC) (aG (aP (aF gB hr (by decide) (aA (aB 0) (aA (aI (aA (cQ (aH (aB 1) aC)) (aA (cQ (aH (aB 1) aC)) aD))) aD))))) aW)
  (aG (aP (aF gB hr (by decide) (aA (aB 0) (aA (aI (aA (aH (aB 1) aC) (aA (aH (aB 1) aC) aD))) aD))))))),?_⟩
 have e:p * (1 / r) = p / r:=by grind
 refine ⟨rfl,rfl,aHC (fun c=>absurd (aEi.mp (by simpa [eqD] using c)) h0) (fun _=>dif (fun c=>?_) (fun c=>?_))⟩
 ·have c':r < 0:=qI.mp c
  obtain ⟨e1,e2⟩:=aMa c'
  refine ⟨by show (2:Nat)<=1000;decide,p,1 / r,m,n,by unfold FQ;rw [<- e1,<- e2],trivial,h1,⟨e1 ▸ h2.2.neg,e2 ▸ h2.1.neg⟩,l,M,.refl _,?_⟩
  show Q (FQ (p * (1 / r))) M
  rw [e]
  exact q
 ·have c':0 < r:=by
   have:¬ r < 0:=fun z=>c (qI.mpr z)
   grind
  obtain ⟨e1,e2⟩:=aLq c'
  refine ⟨by show (2:Nat)<=1000;decide,p,1 / r,m,n,by unfold FQ;rw [<- e1,<- e2],trivial,h1,⟨e1 ▸ h2.2,e2 ▸ h2.1⟩,l,M,.refl _,?_⟩
  show Q (FQ (p * (1 / r))) M
  rw [e]
  exact q
noncomputable abbrev qC:Stmt:=top 12
theorem aA7:aS ["p","q"] ["p","q"] (aK qC):=⟨rfl,rfl,rfl,by decide +kernel,rfl,by decide +kernel,by decide +kernel⟩
theorem aAp (hF:cA K mg "together" qC ["p","q"]) (pI:Has P w K mg base 102 "plus" ["one","other"] tV):Has P w K mg base 104 "together" ["p","q"] sU:=by
 refine Has.mkZ hF aA7 (fun ds M Q ⟨x,y,u,v,e,_⟩=>by rw [e];rfl) fun f cdv A outer s H ds M Q E hr h=>?_
 obtain ⟨x,y,u,v,rfl,h1,h2,h3,h4,q⟩:=h
 refine ⟨_,(aG (aP (aI (aA (aF pI hr (by decide) (aA (aH (aB 0) aC) (aA (aH (aB 1) aC) aD))) (aA (aF pI hr (by decide) (aA (aH (aB 0) aC) (aA (aH (aB 1) aC) aD))) aD))))),?_⟩
 exact ⟨x,u,_,_,rfl,trivial,h1,h3,by decide,y,v,_,_,rfl,trivial,h2,h4,by decide,by show (2:Nat)<=1000;decide,M,.refl _,q⟩
noncomputable def xE:DSp:=fun ds M Q=>∃ x y r m n,ds = [PQ x y,FQ r]/\BQ m x/\BQ m y/\BQ n r/\m + n<=8998/\Q (PQ (x * r) (y * r)) M
noncomputable abbrev aAr:Stmt:=top 13
theorem aFB:aS ["p","number"] ["p","number"] (aK aAr):=⟨rfl,rfl,rfl,by decide +kernel,rfl,by decide +kernel,by decide +kernel⟩
theorem aDt (hF:cA K mg "grown" aAr ["p","number"]) (gB:Has P w K mg base 102 "times" ["one","other"] mW):Has P w K mg base 103 "grown" ["p","number"] xE:=by
 refine Has.mkZ hF aFB (fun ds M Q ⟨x,y,r,m,n,e,_⟩=>by rw [e];rfl) fun f cdv A outer s H ds M Q E hr h=>?_
 obtain ⟨x,y,r,m,n,rfl,h1,h2,h3,l,q⟩:=h
 refine ⟨_,(aG (aP (aI (aA (aF gB hr (by decide) (aA (aH (aB 0) aC) (aA (aB 1) aD))) (aA (aF gB hr (by decide) (aA (aH (aB 0) aC) (aA (aB 1) aD))) aD))))),?_⟩
 decreasing_tactic
 exact ⟨x,r,_,_,rfl,trivial,h1,h3,l,y,r,_,_,rfl,trivial,h2,h3,l,by decide,M,.refl _,q⟩
noncomputable def yK:DSp:=fun ds M Q=>∃ x y z,ds = [PQ x y,.int z]/\Q (PQ (rq x y (z.fmod 4).toNat).1 (rq x y (z.fmod 4).toNat).2) M
noncomputable abbrev xA:Stmt:=top 14
theorem iQ:aS ["p","quarters","x","y","left"] ["p","quarters"] (aK xA):=⟨rfl,rfl,rfl,by decide +kernel,rfl,by decide +kernel,by decide +kernel⟩
theorem aB0 (hF:cA K mg "turned" xA ["p","quarters"]):Has P w K mg base 101 "turned" ["p","quarters"] yK:=by
 refine Has.mkZ hF iQ (fun ds M Q ⟨x,y,z,e,_⟩=>by rw [e];rfl) fun f cdv A outer s H ds M Q E hr h=>?_
 obtain ⟨x,y,z,rfl,q⟩:=h
 refine ⟨_,(aE (eS (aB 0) (eQ (n:=2) rfl (aU (aR (i:=2) iQ.nd) (aU (aR (i:=3) iQ.nd) dO))))
  (aE (aM (i:=4) iQ.nd (aN cW (aB 1) aC))
  (aE (kQ PassesOwn.never (aQ jP (aB 4) aC) (aE (oO (i:=2) (j:=3) rfl iQ.nd (aA (aI (aA (cQ (aH (aB 3) aC)) (aA (aH (aB 3) aC) aD))) (aA (aB 2) aD)))
  (aG (rD (i:=4) aIq iQ.nd aC))))
  (aG (aP (aI (aA (aB 2) (aA (aB 3) aD)))))))),?_⟩
 decreasing_tactic
 refine ⟨rfl,by decide,?_⟩
 have z0:=Int.fmod_nonneg_of_pos z (show (0:Int) < 4 by decide)
 generalize hk:(z.fmod 4).toNat = k at q
 have ek:z.fmod 4 = (k:Int):=by omega
 rw [ek]
 refine kN (fun m ρ M'=>M' = M/\∃ j,j + m = k/\ρ = [some (PQ x y),some (.int z),some (FQ (rq x y j).1),some (FQ (rq x y j).2),some (.int (m:Int))]) k ⟨rfl,0,by omega,rfl⟩ ?_
 rintro m ρ M' ⟨rfl,j,hj,rfl⟩
 decreasing_tactic
 refine dif (fun c=>?_) (fun c=>?_)
 ·obtain ⟨m',rfl⟩:∃ m',m = m' + 1:=⟨m - 1,by omega⟩
  refine ⟨by decide,m',by omega,rfl,j + 1,by omega,?_⟩
  rw [uF,show ((m' + 1:Nat):Int) - 1 = (m':Int) by omega]
  rfl
 ·have:m = 0:=by omega
  subst this
  have:j = k:=by omega
  subst this
  exact ⟨by decide,M',.refl _,q⟩
noncomputable def xJ (cx cy px py:Rat):Rat:=(px - cx) * (px - cx) + (py - cy) * (py - cy)
noncomputable def LdB (B:Nat) (s x y:Rat):Prop:=BQ B x/\BQ B y/\BQ B (x * s)/\BQ B (y * s)
noncomputable def lC (s x y:Rat):Prop:=LdB 4000 s x y
theorem lC.up {s x y:Rat} (l:lC s x y):LdB 4400 s x y:=⟨l.1.mono (by decide),l.2.1.mono (by decide),l.2.2.1.mono (by decide),l.2.2.2.mono (by decide)⟩
theorem aCN {B:Nat} {x y s:Rat} (h1:BQ B (x * s)) (h2:BQ B (y * s)):∀ n,BQ B ((rq x y n).1 * s)/\BQ B ((rq x y n).2 * s)
 | 0=>⟨h1,h2⟩
 | n + 1=>by
  obtain ⟨a,b⟩:=aCN h1 h2 n
  refine ⟨?_,a⟩
  show BQ B (-(rq x y n).2 * s)
  rw [show -(rq x y n).2 * s = -((rq x y n).2 * s) by grind]
  exact b.neg
noncomputable def uZ:DSp:=fun ds M Q=>∃ px py t h s x y,ds = [FR px py t h s,PQ x y]/\eM px py t h s 4400/\LdB 4400 s x y/\Q (PQ (ldX px t h s x y) (ldY py t h s x y)) M
theorem aGv {h:Int} (hh:h = 1 ∨ h = -1) (y:Rat):(D.tup [.int (h * y.num),.int (y.den:Int)]) = FQ ((h:Rat) * y):=by
 rcases hh with rfl | rfl
 ·rw [Int.one_mul,show (((1:Int):Rat)) = 1 from rfl,Rat.one_mul];rfl
 ·rw [show (-1:Int) * y.num = -y.num by omega,uF,show (((-1:Int):Rat)) * y = -y by rw [show (((-1:Int):Rat)) = -1 from rfl];grind]
theorem aCv {h:Int} (hh:h = 1 ∨ h = -1) {B:Nat} {y:Rat} (b:BQ B y):BQ B ((h:Rat) * y):=by
 rcases hh with rfl | rfl
 ·rw [show (((1:Int):Rat)) = 1 from rfl,Rat.one_mul];exact b
 ·rw [show (((-1:Int):Rat)) * y = -y by rw [show (((-1:Int):Rat)) = -1 from rfl];grind];exact b.neg
theorem rC {h:Int} (hh:h = 1 ∨ h = -1):Bd 63 h:=by rcases hh with rfl | rfl<;>(unfold Bd;decide)
theorem LdB.rq {B:Nat} {s x y:Rat} {h:Int} (l:LdB B s x y) (hh:h = 1 ∨ h = -1) (n:Nat):(BQ B (rq x ((h:Rat) * y) n).1/\BQ B (rq x ((h:Rat) * y) n).2)/\BQ B ((rq x ((h:Rat) * y) n).1 * s)/\BQ B ((rq x ((h:Rat) * y) n).2 * s):=by
 refine ⟨uS l.1 (aCv hh l.2.1) n,aCN l.2.2.1 ?_ n⟩
 rw [show (h:Rat) * y * s = (h:Rat) * (y * s) by grind]
 exact aCv hh l.2.2.2
noncomputable abbrev aFe:Stmt:=top 17
theorem sF:aS ["frame","p","place","turns","hand","size","held"] ["frame","p"] (aK aFe):=⟨rfl,rfl,rfl,by decide +kernel,rfl,by decide +kernel,by decide +kernel⟩
theorem aHq (hF:cA K mg "led" aFe ["frame","p"]) (pW:Has P w K mg base 104 "together" ["p","q"] sU) (oM:Has P w K mg base 103 "grown" ["p","number"] xE) (vY:Has P w K mg base 101 "turned" ["p","quarters"] yK):Has P w K mg base 105 "led" ["frame","p"] uZ:=by
 refine Has.mkZ hF sF (fun ds M Q ⟨a,b,c,d,e,f,g,z,_⟩=>by rw [z];rfl) fun f cdv A outer s H ds M Q E hr h=>?_
 obtain ⟨px,py,t,h,sz,x,y,rfl,⟨b1,b2,t0,t1,hh,s0,b3⟩,l,q⟩:=h
 refine ⟨_,(aE (eS (aB 0) (eQ (n:=4) rfl (aU (aR (i:=2) sF.nd) (aU (aR (i:=3) sF.nd) (aU (aR (i:=4) sF.nd) (aU (aR (i:=5) sF.nd) dO))))))
  (aE (aM (i:=6) sF.nd (aI (aA (aH (aB 1) aC) (aA (aI (aA (aN cB (aB 4) (aH (aH (aB 1) aC) aC)) (aA (aH (aH (aB 1) aC) aC) aD))) aD))))
  (aG (aP (aF pW hr (by decide) (aA (aF oM hr (by decide) (aA (aF vY hr (by decide) (aA (aB 6) (aA (aB 3) aD))) (aA (aB 5) aD))) (aA (aB 2) aD))))))),?_⟩
 decreasing_tactic
 refine ⟨rfl,eX (rC hh),by decide,by decide,?_⟩
 rw [aGv hh]
 have et:(t.fmod 4).toNat = t.toNat:=by
  have:t = 0 ∨ t = 1 ∨ t = 2 ∨ t = 3:=by omega
  rcases this with rfl | rfl | rfl | rfl<;>rfl
 obtain ⟨⟨c1,c2⟩,c3,c4⟩:=l.rq hh t.toNat
 refine ⟨x,(h:Rat) * y,t,rfl,?_⟩
 rw [et]
 exact ⟨_,_,_,_,_,rfl,c1,c2,b3,by decide,_,_,px,py,rfl,c3,c4,b1,b2,M,.refl _,q⟩
noncomputable def qP:DSp:=fun ds M Q=>ds = []/\Q (FR 0 0 0 1 1) M
noncomputable abbrev aAj:Stmt:=top 16
theorem aE6:aS [] [] (aK aAj):=⟨rfl,rfl,rfl,by decide +kernel,rfl,by decide +kernel,by decide +kernel⟩
theorem aDT (hF:cA K mg "first" aAj []) (bB:gH K mg "MIDDLE" rT) (mF:gH K mg "ONE" aFJ):Has P w K mg base 101 "first" [] qP:=by
 refine Has.mkZ hF aE6 (fun ds M Q ⟨e,_⟩=>by rw [e];rfl) fun f cdv A outer s H ds M Q E hr h=>?_
 obtain ⟨rfl,q⟩:=h
 refine ⟨_,(aG (aP (aI (aA (bJ bB) (aA aC (aA aC (aA (bJ mF) aD))))))),?_⟩
 decreasing_tactic
 exact ⟨by decide,M,.refl _,q⟩
noncomputable def fJ:DSp:=fun ds M Q=>∃ t b,ds = [.int t,.int b]/\0 < b/\Bd 8999 b/\Q (FQ ((t:Rat) / (b:Rat))) M
noncomputable abbrev mR:Stmt:=top 56
theorem lA:aS ["_law_top","_law_bottom","_law_one","_law_other"] ["_law_top","_law_bottom"] (aK mR):=⟨rfl,rfl,rfl,by decide +kernel,rfl,by decide +kernel,by decide +kernel⟩
theorem xO (hF:cA K mg "_law_ratio" mR ["_law_top","_law_bottom"]) (kD:mg "abs" = none):Has P w K mg base 101 "_law_ratio" ["_law_top","_law_bottom"] fJ:=by
 refine Has.mkZ hF lA (fun ds M Q ⟨a,b,e,_⟩=>by rw [e];rfl) fun f cdv A outer s H ds M Q E hr h=>?_
 obtain ⟨t,b,rfl,hb,hB,q⟩:=h
 refine ⟨_,(aE (oO (i:=2) (j:=3) rfl lA.nd (aA (eC uN kD (aA (aB 0) aD)) (aA (aB 1) aD)))
  (aE (kQ PassesOwn.never (aQ jP (aB 3) aC) (aG (oO (i:=2) (j:=3) rfl lA.nd (aA (aB 3) (aA (aN cW (aB 2) (aB 3)) aD)))))
  (aG (aP (aI (aA (aN fG (aB 0) (aB 2)) (aA (aN fG (aB 1) (aB 2)) aD))))))),?_⟩
 have hb0:b ≠ 0:=by omega
 refine kN (fun m ρ M'=>M' = M/\∃ x y:Int,ρ = [some (.int t),some (.int b),some (.int x),some (.int y)]/\m = y.natAbs/\0<=x/\0<=y/\Int.gcd x y = Int.gcd t b) _ ⟨rfl,_,_,rfl,rfl,by split<;>omega,by omega,by
  split<;>simp [Int.neg_gcd]⟩ ?_
 rintro m ρ M' ⟨rfl,x,y,rfl,rfl,hx,hy,g⟩
 decreasing_tactic
 refine dif (fun c=>?_) (fun c=>?_)
 ·have hy':y ≠ 0:=by omega
  exact ⟨hy',_,aCZ hy',rfl,y,x.fmod y,rfl,rfl,hy,Int.fmod_nonneg_of_pos _ (by omega),(aBE x y).trans g⟩
 ·have hy':y = 0:=by omega
  subst hy'
  have e:x = (Int.gcd t b:Int):=by rw [<- g,Int.gcd_zero_right];omega
  have fin:Q (.tup [.int (fT t b),.int (fB t b)]) M':=by rw [aGq hb0];exact q
  unfold fT fB at fin
  have s1:=aLM (t:=t) hb0
  have s2:=(hB.sg (t:=t) hb0).log (by decide)
  unfold sg at fin s1 s2
  rw [if_neg (by omega),<- e] at fin s1 s2
  exact ⟨⟨s1,Nat.lt_succ_of_lt s2⟩,⟨s1,Nat.lt_succ_of_lt s2⟩,by decide,M',.refl _,fin⟩
noncomputable def fC:DSp:=tV
noncomputable abbrev qD:Stmt:=top 57
theorem aAT:aS ["_law_one","_law_other"] ["_law_one","_law_other"] (aK qD):=⟨rfl,rfl,rfl,by decide +kernel,rfl,by decide +kernel,by decide +kernel⟩
theorem aAs (hF:cA K mg "_law_plus" qD ["_law_one","_law_other"]) (bP:Has P w K mg base 101 "_law_ratio" ["_law_top","_law_bottom"] fJ):Has P w K mg base 102 "_law_plus" ["_law_one","_law_other"] fC:=by
 refine Has.mkZ hF aAT qH fun f cdv A outer s H ds M Q E hr h=>?_
 obtain ⟨p,r,m,n,rfl,_,h1,h2,l,q⟩:=h
 refine ⟨_,(aG (aP (aF bP hr (by decide) (aA (aN cP (aN cB (aH (aB 0) aC) (aH (aB 1) aC)) (aN cB (aH (aB 1) aC) (aH (aB 0) aC))) (aA (aN cB (aH (aB 0) aC) (aH (aB 1) aC)) aD))))),?_⟩
 decreasing_tactic
 exact ⟨hJ h1.1 h2.2 (by omega),hJ h2.1 h1.2 (by omega),hJ h1.2 h2.2 (by omega),_,_,rfl,Int.mul_pos (den_pos p) (den_pos r),(h1.2.mul h2.2).mono (by omega),M,.refl _,by rw [aKq];exact q⟩
noncomputable def cK:DSp:=mW
noncomputable abbrev nI:Stmt:=top 58
theorem aAC:aS ["_law_one","_law_other"] ["_law_one","_law_other"] (aK nI):=⟨rfl,rfl,rfl,by decide +kernel,rfl,by decide +kernel,by decide +kernel⟩
theorem yD (hF:cA K mg "_law_times" nI ["_law_one","_law_other"]) (bP:Has P w K mg base 101 "_law_ratio" ["_law_top","_law_bottom"] fJ):Has P w K mg base 102 "_law_times" ["_law_one","_law_other"] cK:=by
 refine Has.mkZ hF aAC qH fun f cdv A outer s H ds M Q E hr h=>?_
 obtain ⟨p,r,m,n,rfl,_,h1,h2,l,q⟩:=h
 refine ⟨_,(aG (aP (aF bP hr (by decide) (aA (aN cB (aH (aB 0) aC) (aH (aB 1) aC)) (aA (aN cB (aH (aB 0) aC) (aH (aB 1) aC)) aD))))),?_⟩
 decreasing_tactic
 exact ⟨hJ h1.1 h2.1 (by omega),hJ h1.2 h2.2 (by omega),_,_,rfl,Int.mul_pos (den_pos p) (den_pos r),(h1.2.mul h2.2).mono (by omega),M,.refl _,by rw [aLp];exact q⟩
theorem vA {a b:Rat} (ha:0 < a) (hb:0 < b):0 < a / b:=by
 have e:a / b * b = a:=by grind
 rcases (show a / b < 0 ∨ a / b = 0 ∨ 0 < a / b by grind) with c | c | c
 ·have:=Rat.mul_pos (show 0 < -(a / b) by grind) hb
  grind
 ·rw [c] at e;grind
 ·exact c
theorem aA2 {x:Int} (h1:-10000000<=x) (h2:x<=10000000):Bd 24 x:=by unfold Bd;omega
theorem aFQ {t b:Int} (h0:0 < b) (h1:-10000000<=t) (h2:t<=10000000) (h3:b<=10000000):BQ 24 ((t:Rat) / (b:Rat)):=.make (by omega) (aA2 h1 h2) (aA2 (by omega) h3)
noncomputable def Wh (q:Rat):Prop:=∃ z:Int,q = (z:Rat)/\-20<=z/\z<=20
noncomputable def mB:DSp:=fun ds M Q=>∃ a b,ds = [.int a,.int b]/\∀ q,BQ 24 q->(b.fmod 5 ≠ 4->b.fmod 3 ≠ 2->Wh q)->Q (FQ q) M
noncomputable abbrev nB:Stmt:=top 59
theorem aAo:aS ["_law_one","_law_other"] ["_law_one","_law_other"] (aK nB):=⟨rfl,rfl,rfl,by decide +kernel,rfl,by decide +kernel,by decide +kernel⟩
theorem xP (hF:cA K mg "_law_drawn" nB ["_law_one","_law_other"]) (bP:Has P w K mg base 101 "_law_ratio" ["_law_top","_law_bottom"] fJ):Has P w K mg base 102 "_law_drawn" ["_law_one","_law_other"] mB:=by
 refine Has.mkZ hF aAo (fun ds M Q ⟨a,b,e,_⟩=>by rw [e];rfl) fun f cdv A outer s H ds M Q E hr h=>?_
 obtain ⟨a,b,rfl,q⟩:=h
 refine ⟨_,(aE (bC (aQ (cN hr) (aN cW (aB 1) aC) aC) (aG (aP (aF bP hr (by decide) (aA (aN jW (aN cW (aN cB (aB 0) aC) aC) aC) (aA (aN cP aC (aN cW (aN cB (aB 1) aC) aC)) aD))))) aW)
  (aG (aP (aF bP hr (by decide) (aA (aN jW (aN cW (aB 0) aC) aC) (aA (aN cP aC (aN cW (aN fG (aB 0) aC) (aH (bA (aA aC (aA aC (aA aC aD)))) (aN cW (aB 1) aC)))) aD)))))),?_⟩
 decreasing_tactic
 simp_arith
 refine ⟨by decide,?_⟩
 by_cases c:b.fmod 5 = 4
 ·rw [if_pos c]
  have h1:=Int.fmod_nonneg_of_pos (a * 7) (show (0:Int) < 1999999 by decide)
  have h2:=Int.fmod_lt_of_pos (a * 7) (show (0:Int) < 1999999 by decide)
  have h3:=Int.fmod_nonneg_of_pos (b * 13) (show (0:Int) < 999999 by decide)
  have h4:=Int.fmod_lt_of_pos (b * 13) (show (0:Int) < 999999 by decide)
  exact ⟨pQ (by unfold Bd;decide),by decide,pQ (by unfold Bd;decide),by decide,_,_,rfl,by omega,(aA2 (by omega) (by omega)).mono (by decide),M,.refl _,q _ (aFQ (by omega) (by omega) (by omega) (by omega)) fun n=>absurd c n⟩
 ·rw [if_neg c]
  refine ⟨by decide,⟨by decide,by decide +kernel⟩,by decide,fun p hp=>⟨by decide,?_⟩⟩
  have s1:=aX.new hp [.int 1,.int 1,.int 9]
  have h1:=Int.fmod_nonneg_of_pos a (show (0:Int) < 41 by decide)
  have h2:=Int.fmod_lt_of_pos a (show (0:Int) < 41 by decide)
  obtain ⟨k,hk,k0,k1,kw⟩:∃ k:Int,atI [D.int 1,.int 1,.int 9] (b.fmod 3) = some (.int k)/\0 < k/\k<=9/\(b.fmod 3 ≠ 2->k = 1):=by
   have h1:=Int.fmod_nonneg_of_pos b (show (0:Int) < 3 by decide)
   have h2:=Int.fmod_lt_of_pos b (show (0:Int) < 3 by decide)
   have:b.fmod 3 = 0 ∨ b.fmod 3 = 1 ∨ b.fmod 3 = 2:=by omega
   rcases this with e | e | e<;>rw [e]
   ·exact ⟨1,rfl,by decide,by decide,fun _=>rfl⟩
   ·exact ⟨1,rfl,by decide,by decide,fun _=>rfl⟩
   ·exact ⟨9,rfl,by decide,by decide,fun n=>absurd rfl n⟩
  refine ⟨_,_,aJ,hk,?_⟩
  decreasing_tactic
  have h3:=Int.fmod_nonneg_of_pos (a.fdiv 41) k0
  have h4:=Int.fmod_lt_of_pos (a.fdiv 41) k0
  refine ⟨by omega,_,_,rfl,by omega,(aA2 (by omega) (by omega)).mono (by decide),M,s1,q _ (aFQ (by omega) (by omega) (by omega) (by omega)) fun _ n=>⟨a.fmod 41 - 20,?_,by omega,by omega⟩⟩
  rw [show 1 + (a.fdiv 41).fmod k = 1 by have:=kw n;omega]
  show _ / (1:Rat) = _
  grind
theorem bqz:BQ 1 0:=⟨by unfold Bd;decide,by unfold Bd;decide⟩
theorem eM.mono {px py s:Rat} {t h:Int} {B C:Nat} (f:eM px py t h s B) (l:B<=C):eM px py t h s C:=⟨f.1.mono l,f.2.1.mono l,f.2.2.1,f.2.2.2.1,f.2.2.2.2.1,f.2.2.2.2.2.1,f.2.2.2.2.2.2.mono l⟩
noncomputable def kF:DSp:=fun ds M Q=>∃ px py t h s qx qy u k r,ds = [FR px py t h s,FR qx qy u k r]/\eM px py t h s 4400/\eM qx qy u k r 4400/\LdB 4400 s qx qy/\Q (FR (ldX px t h s qx qy) (ldY py t h s qx qy) (tb t h u) (h * k) (s * r)) M
noncomputable abbrev vR:Stmt:=top 18
theorem yL:aS ["one","other","turns"] ["one","other"] (aK vR):=⟨rfl,rfl,rfl,by decide +kernel,rfl,by decide +kernel,by decide +kernel⟩
theorem aBK (hF:cA K mg "behind" vR ["one","other"]) (nG:Has P w K mg base 105 "led" ["frame","p"] uZ) (gB:Has P w K mg base 102 "times" ["one","other"] mW):Has P w K mg base 106 "behind" ["one","other"] kF:=by
 refine Has.mkZ hF yL (fun ds M Q ⟨a,b,c,d,e,f,g,i,j,k,z,_⟩=>by rw [z];rfl) fun f cdv A outer s H ds M Q E hr h=>?_
 obtain ⟨px,py,t,h,sz,qx,qy,u,k,r,rfl,f1,f2,l,q⟩:=h
 refine ⟨_,(aE (aM (i:=2) yL.nd (aN cW (aN cP (aH (aB 0) aC) (aN cB (aH (aB 0) aC) (aH (aB 1) aC))) aC))
  (aG (aP (aI (aA (aF nG hr (by decide) (aA (aB 0) (aA (aH (aB 1) aC) aD))) (aA (aB 2) (aA (aN cB (aH (aB 0) aC) (aH (aB 1) aC)) (aA (aF gB hr (by decide) (aA (aH (aB 0) aC) (aA (aH (aB 1) aC) aD))) aD)))))))),?_⟩
 decreasing_tactic
 refine ⟨eX (rC f1.2.2.2.2.1),by decide,_,_,_,_,_,_,_,rfl,f1,l,eX (rC f1.2.2.2.2.1),_,_,_,_,rfl,trivial,f1.2.2.2.2.2.2,f2.2.2.2.2.2.2,by decide,by decide,M,.refl _,q⟩
theorem aIl {s:Rat} {B:Nat} (s0:0 < s) (h:BQ B s):BQ B (1 / s):=by
 obtain ⟨e1,e2⟩:=aLq s0
 exact ⟨e1 ▸ h.2,e2 ▸ h.1⟩
noncomputable def oQ:DSp:=fun ds M Q=>∃ px py t h s,ds = [FR px py t h s]/\eM px py t h s 4400/\LdB 4400 (1 / s) px py/\Q (FR (uX px py t h s) (uY px py t h s) (tu t h) h (1 / s)) M
noncomputable abbrev vO:Stmt:=top 19
theorem iT:aS ["frame","place","turns","hand","size","back"] ["frame"] (aK vO):=⟨rfl,rfl,rfl,by decide +kernel,rfl,by decide +kernel,by decide +kernel⟩
theorem aB8 (hF:cA K mg "undone" vO ["frame"]) (bB:gH K mg "MIDDLE" rT) (mF:gH K mg "ONE" aFJ) (nG:Has P w K mg base 105 "led" ["frame","p"] uZ) (aB4:Has P w K mg base 103 "over" ["one","other"] aCV) (oM:Has P w K mg base 103 "grown" ["p","number"] xE):Has P w K mg base 106 "undone" ["frame"] oQ:=by
 refine Has.mkZ hF iT (fun ds M Q ⟨a,b,c,d,e,z,_⟩=>by rw [z];rfl) fun f cdv A outer s H ds M Q E hr h=>?_
 obtain ⟨px,py,t,h,sz,rfl,f1,l,q⟩:=h
 refine ⟨_,(aE (eS (aB 0) (eQ (n:=4) rfl (aU (aR (i:=1) iT.nd) (aU (aR (i:=2) iT.nd) (aU (aR (i:=3) iT.nd) (aU (aR (i:=4) iT.nd) dO))))))
  (aE (aM (i:=5) iT.nd (aI (aA (bJ bB) (aA (aN cW (aN cB (cQ (aB 3)) (aB 2)) aC) (aA (aB 3) (aA (aF aB4 hr (by decide) (aA (bJ mF) (aA (aB 4) aD))) aD))))))
  (aG (aP (aI (aA (aF oM hr (by decide) (aA (aF nG hr (by decide) (aA (aB 5) (aA (aB 1) aD))) (aA (aI (aA (cQ aC) (aA aC aD))) aD))) (aA (aH (aB 5) aC) (aA (aH (aB 5) aC) (aA (aH (aB 5) aC) aD))))))))),?_⟩
 decreasing_tactic
 have s0:sz ≠ 0:=by have:=f1.2.2.2.2.2.1;grind
 have hbn:Bd 63 (-h):=(rC f1.2.2.2.2.1).neg
 have b2:=aIl f1.2.2.2.2.2.1 f1.2.2.2.2.2.2
 have gb:eM 0 0 (tu t h) h (1 / sz) 4400:=⟨bqz.mono (by decide),bqz.mono (by decide),(rN _ _).1,(rN _ _).2,f1.2.2.2.2.1,vA (by decide) f1.2.2.2.2.2.1,b2⟩
 refine ⟨rfl,eX hbn,by decide,1,sz,_,_,rfl,s0,bq1,f1.2.2.2.2.2.2,by decide,by decide,?_⟩
 decreasing_tactic
 obtain ⟨_,c3,c4⟩:=l.rq f1.2.2.2.2.1 (tu t h).toNat
 refine ⟨0,0,tu t h,h,1 / sz,px,py,rfl,gb,l,by decide,_,_,-1,_,_,rfl,(c3.add bqz),(c4.add bqz),bq1.neg,by decide,?_⟩
 decreasing_tactic
 exact ⟨by decide,M,.refl _,q⟩
inductive Pl where
 | go (a:Rat) | side (a b:Rat) | skip (a:Rat) | dot | left | right | rnd | mirror | grow (a:Rat) | quarter (a:Rat) | half (a:Rat) | arc (a b c d:Rat)
noncomputable def plD:Pl->D
 | .go a=>.tup [.str "go",FQ a]
 | .side a b=>.tup [.str "side",FQ a,FQ b]
 | .skip a=>.tup [.str "skip",FQ a]
 | .dot=>.tup [.str "dot"]
 | .left=>.tup [.str "left"]
 | .right=>.tup [.str "right"]
 | .rnd=>.tup [.str "round"]
 | .mirror=>.tup [.str "mirror"]
 | .grow a=>.tup [.str "grow",FQ a]
 | .quarter a=>.tup [.str "quarter",FQ a]
 | .half a=>.tup [.str "half",FQ a]
 | .arc a b c d=>.tup [.str "arc",FQ a,FQ b,FQ c,FQ d]
noncomputable def plB (B:Nat):Pl->Prop
 | .go a=>BQ B a
 | .side a b=>BQ B a/\BQ B b
 | .skip a=>BQ B a
 | .grow a=>BQ B a/\0 < a
 | .quarter a=>BQ B a/\a ≠ 0
 | .half a=>BQ B a/\a ≠ 0
 | .arc a b c d=>BQ B a/\BQ B b/\BQ B c/\BQ B d/\¬ (a = 0/\b = 0)/\¬ (a = c/\b = d)/\xJ a b 0 0 = xJ a b c d
 | _=>True
inductive Lg where
 | st (x y u v:Rat) | bd (a b c d e f:Rat) (w:Int)
noncomputable def lgD:Lg->D
 | .st x y u v=>.tup [.str "straight",PQ x y,PQ u v]
 | .bd a b c d e f w=>.tup [.str "bend",PQ a b,PQ c d,PQ e f,.int w]
noncomputable def gZ:Pl->Option Lg
 | .go a=>some (.st 0 0 a 0)
 | .side a b=>some (.st 0 0 a b)
 | .dot=>some (.st 0 0 0 0)
 | .quarter a=>if 0 < a then some (.bd 0 a 0 0 a a 1) else some (.bd 0 a 0 0 (-a) a (-1))
 | .half a=>some (.bd 0 a 0 0 0 (a + a) (if 0 < a then 1 else -1))
 | .arc a b c d=>some (.bd a b 0 0 c d 1)
 | _=>none
noncomputable def bD:Pl->Fm
 | .go a=>⟨a,0,0,1,1⟩
 | .side a b=>⟨a,b,0,1,1⟩
 | .skip a=>⟨a,0,0,1,1⟩
 | .dot=>⟨0,0,0,1,1⟩
 | .left=>⟨0,0,1,1,1⟩
 | .right=>⟨0,0,3,1,1⟩
 | .rnd=>⟨0,0,2,1,1⟩
 | .mirror=>⟨0,0,0,-1,1⟩
 | .grow a=>⟨0,0,0,1,a⟩
 | .quarter a=>if 0 < a then ⟨a,a,1,1,1⟩ else ⟨-a,a,3,1,1⟩
 | .half a=>⟨0,a + a,2,1,1⟩
 | .arc _ _ c d=>⟨c,d,0,1,1⟩
noncomputable def lgO:Option Lg->D
 | none=>.non
 | some l=>lgD l
noncomputable def ldL (f:Fm):Lg->Lg
 | .st x y u v=>.st (ldX f.px f.t f.h f.s x y) (ldY f.py f.t f.h f.s x y) (ldX f.px f.t f.h f.s u v) (ldY f.py f.t f.h f.s u v)
 | .bd a b c d e g w=>.bd (ldX f.px f.t f.h f.s a b) (ldY f.py f.t f.h f.s a b) (ldX f.px f.t f.h f.s c d) (ldY f.py f.t f.h f.s c d) (ldX f.px f.t f.h f.s e g) (ldY f.py f.t f.h f.s e g) (w * f.h)
noncomputable def lgB (B:Nat):Lg->Prop
 | .st x y u v=>BQ B x/\BQ B y/\BQ B u/\BQ B v
 | .bd a b c d e f w=>BQ B a/\BQ B b/\BQ B c/\BQ B d/\BQ B e/\BQ B f/\(w = 1 ∨ w = -1)
inductive Rw where
 | pl (p:Pl) | ag (n:Nat) (rs:List Rw) | kp (rs:List Rw) | ev (rs:List Rw)
mutual
noncomputable def rwD:Rw->D
 | .pl p=>plD p
 | .ag n rs=>.tup [.str "again",.int (n:Int),.tup (bI rs)]
 | .kp rs=>.tup [.str "keep",.tup (bI rs)]
 | .ev rs=>.tup [.str "ever",.tup (bI rs)]
noncomputable def bI:List Rw->List D
 | []=>[]
 | r :: rs=>rwD r :: bI rs
end
theorem fD:∀ rs:List Rw,bI rs = rs.map rwD
 | []=>rfl
 | r :: rs=>by rw [bI,fD rs,List.map_cons]
noncomputable def Dp:Nat->Rw->Prop
 | _,.pl _=>True
 | 0,_=>False
 | d + 1,.ag n rs=>(n:Int) < 2 ^ 60/\rs.length<=1000/\∀ r ∈ rs,Dp d r
 | d + 1,.kp rs=>rs.length<=1000/\∀ r ∈ rs,Dp d r
 | d + 1,.ev rs=>rs.length<=1000/\∀ r ∈ rs,Dp d r
noncomputable def DpS:Nat->List Rw->Prop
 | 0,_=>False
 | d + 1,rs=>rs.length<=1000/\∀ r ∈ rs,Dp d r
theorem vH {d n:Nat} {rs:List Rw} (h:Dp d (.ag n rs)):(n:Int) < 2 ^ 60/\DpS d rs:=by
 cases d with
 | zero=>exact h.elim
 | succ d=>exact ⟨h.1,h.2.1,h.2.2⟩
theorem yG {d:Nat} {rs:List Rw} (h:Dp d (.kp rs)):DpS d rs:=by
 cases d with
 | zero=>exact h.elim
 | succ d=>exact h
theorem aBm {d:Nat} {rs:List Rw} (h:Dp d (.ev rs)):DpS d rs:=by
 cases d with
 | zero=>exact h.elim
 | succ d=>exact h
theorem lR:∀ {d d':Nat} {r:Rw},Dp d r->d<=d'->Dp d' r
 | _,0,.pl _,_,_=>trivial
 | _,_ + 1,.pl _,_,_=>trivial
 | 0,_,.ag _ _,h,_=>h.elim
 | 0,_,.kp _,h,_=>h.elim
 | 0,_,.ev _,h,_=>h.elim
 | d + 1,0,_,_,l=>absurd l (by omega)
 | d + 1,d' + 1,.ag n rs,h,l=>⟨h.1,h.2.1,fun r hr=>lR (h.2.2 r hr) (by omega)⟩
 | d + 1,d' + 1,.kp rs,h,l=>⟨h.1,fun r hr=>lR (h.2 r hr) (by omega)⟩
 | d + 1,d' + 1,.ev rs,h,l=>⟨h.1,fun r hr=>lR (h.2 r hr) (by omega)⟩
noncomputable def inR:Rw->D
 | .pl _=>.non
 | .ag _ rs=>.tup (bI rs)
 | .kp rs=>.tup (bI rs)
 | .ev rs=>.tup (bI rs)
mutual
noncomputable def nmR:Rw->Int
 | .pl _=>1
 | .ag _ rs=>2 + nmS rs
 | .kp rs=>2 + nmS rs
 | .ev rs=>2 + nmS rs
noncomputable def nmS:List Rw->Int
 | []=>0
 | r :: rs=>nmR r + nmS rs
end
mutual
noncomputable def dnR:Rw->Nat
 | .pl _=>1
 | .ag n rs=>dnS rs * n
 | .kp rs=>dnS rs
 | .ev rs=>dnS rs
noncomputable def dnS:List Rw->Nat
 | []=>0
 | r :: rs=>dnR r + dnS rs
end
mutual
noncomputable def enR:Rw->Fm->Fm
 | .pl p,f=>f.comp (bD p)
 | .ag n rs,f=>Nat.repeat (enS rs) n f
 | .kp _,f=>f
 | .ev _,f=>f
noncomputable def enS:List Rw->Fm->Fm
 | [],f=>f
 | r :: rs,f=>enS rs (enR r f)
end
noncomputable abbrev LR:=Lg × Int × List Int
mutual
noncomputable def lgR:Rw->Int->Fm->List Int->List LR
 | .pl p,a,f,rd=>(gZ p).toList.map fun l=>(ldL f l,a,rd)
 | .ag n rs,a,f,rd=>(List.range n).flatMap fun i=>lgS rs (a + 1) (Nat.repeat (enS rs) i f) (rd ++ [(i:Int)])
 | .kp rs,a,f,rd=>lgS rs (a + 1) f rd
 | .ev _,_,_,_=>[]
noncomputable def lgS:List Rw->Int->Fm->List Int->List LR
 | [],_,_,_=>[]
 | r :: rs,a,f,rd=>lgR r a f rd ++ lgS rs (a + nmR r) (enR r f) rd
end
noncomputable def unF (f:Fm):Fm:=⟨uX f.px f.py f.t f.h f.s,uY f.px f.py f.t f.h f.s,tu f.t f.h,f.h,1 / f.s⟩
structure Ed where
 f:Fm
 a:Int
 rd:List Int
 ls:List LR
mutual
noncomputable def edR:Rw->Int->Fm->List Int->List Ed
 | .pl _,_,_,_=>[]
 | .ag n rs,a,f,rd=>(List.range n).flatMap fun i=>edS rs (a + 1) (Nat.repeat (enS rs) i f) (rd ++ [(i:Int)])
 | .kp rs,a,f,rd=>edS rs (a + 1) f rd
 | .ev rs,a,f,rd=>[⟨(enS rs f).comp (unF f),a,rd,lgS rs (a + 1) f []⟩]
noncomputable def edS:List Rw->Int->Fm->List Int->List Ed
 | [],_,_,_=>[]
 | r :: rs,a,f,rd=>edR r a f rd ++ edS rs (a + nmR r) (enR r f) rd
end
mutual
noncomputable def sfR (Sf:Fm->Pl->Prop) (Se:Fm->Fm->Prop):Rw->Fm->Prop
 | .pl p,f=>Sf f p
 | .ag n rs,f=>∀ i,i < n->sfS Sf Se rs (Nat.repeat (enS rs) i f)
 | .kp rs,f=>sfS Sf Se rs f
 | .ev rs,f=>sfS Sf Se rs f/\Se f (enS rs f)
noncomputable def sfS (Sf:Fm->Pl->Prop) (Se:Fm->Fm->Prop):List Rw->Fm->Prop
 | [],_=>True
 | r :: rs,f=>sfR Sf Se r f/\sfS Sf Se rs (enR r f)
end
theorem bW {Q:DQ} {d:D} {M:DM} (q:Q d M):Dn Q d M:=⟨M,.refl _,q⟩
theorem iX {rs:List Rw} {i:Nat} {d:D} (h:(bI rs)[i]? = some d):∃ r,rs[i]? = some r/\d = rwD r:=by
 rw [fD,List.getElem?_map] at h
 obtain ⟨r,e,z⟩:=Option.map_eq_some_iff.mp h
 exact ⟨r,e,z.symm⟩
theorem dI (rs:List Rw):(bI rs).length = rs.length:=by rw [fD,List.length_map]
theorem dR {α:Type} {rs:List α} {i:Nat} {r:α} (h:rs[i]? = some r):rs.take (i + 1) = rs.take i ++ [r]:=by
 have hl:=(List.getElem?_eq_some_iff.mp h).1
 have e:rs[i] = r:=(List.getElem?_eq_some_iff.mp h).2
 rw [List.take_succ_eq_append_getElem hl,e]
theorem fE:∀ xs ys:List Rw,dnS (xs ++ ys) = dnS xs + dnS ys
 | [],ys=>by rw [List.nil_append,dnS,Nat.zero_add]
 | x :: xs,ys=>by rw [List.cons_append,dnS,dnS,fE xs ys,Nat.add_assoc]
theorem aDe:∀ xs ys:List Rw,nmS (xs ++ ys) = nmS xs + nmS ys
 | [],ys=>by rw [List.nil_append,nmS,Int.zero_add]
 | x :: xs,ys=>by rw [List.cons_append,nmS,nmS,aDe xs ys,Int.add_assoc]
theorem aC3:∀ rs:List Rw,nmS rs = (rs.map nmR).sum
 | []=>rfl
 | r :: rs=>by rw [nmS,aC3 rs,List.map_cons,List.sum_cons]
mutual
noncomputable def evR:Rw->Nat
 | .pl _=>0
 | .ag n rs=>evS rs * n
 | .kp rs=>evS rs
 | .ev rs=>evS rs + 1
noncomputable def evS:List Rw->Nat
 | []=>0
 | r :: rs=>evR r + evS rs
end
theorem aAv:∀ xs ys:List Rw,evS (xs ++ ys) = evS xs + evS ys
 | [],ys=>by rw [List.nil_append,evS,Nat.zero_add]
 | x :: xs,ys=>by rw [List.cons_append,evS,evS,aAv xs ys,Nat.add_assoc]
theorem aAt:∀ (xs ys:List Rw) (f:Fm),enS (xs ++ ys) f = enS ys (enS xs f)
 | [],ys,f=>by rw [List.nil_append,enS]
 | x :: xs,ys,f=>by rw [List.cons_append,enS,enS,aAt xs ys]
theorem aCk:∀ (xs ys:List Rw) (a:Int) (f:Fm) (rd:List Int),lgS (xs ++ ys) a f rd = lgS xs a f rd ++ lgS ys (a + nmS xs) (enS xs f) rd
 | [],ys,a,f,rd=>by rw [List.nil_append,lgS,nmS,enS,Int.add_zero,List.nil_append]
 | x :: xs,ys,a,f,rd=>by rw [List.cons_append,lgS,lgS,nmS,enS,aCk xs ys,List.append_assoc,Int.add_assoc]
theorem aCz:∀ (xs ys:List Rw) (a:Int) (f:Fm) (rd:List Int),edS (xs ++ ys) a f rd = edS xs a f rd ++ edS ys (a + nmS xs) (enS xs f) rd
 | [],ys,a,f,rd=>by rw [List.nil_append,edS,nmS,enS,Int.add_zero,List.nil_append]
 | x :: xs,ys,a,f,rd=>by rw [List.cons_append,edS,edS,nmS,enS,aCz xs ys,List.append_assoc,Int.add_assoc]
theorem zI {Sf:Fm->Pl->Prop} {Se:Fm->Fm->Prop}:∀ (xs ys:List Rw) (f:Fm),sfS Sf Se (xs ++ ys) f ↔ sfS Sf Se xs f/\sfS Sf Se ys (enS xs f)
 | [],ys,f=>by rw [List.nil_append,sfS,enS];simp
 | x :: xs,ys,f=>by rw [List.cons_append,sfS,sfS,enS,zI xs ys,and_assoc]
mutual
theorem aAx:∀ (r:Rw) (a:Int) (f:Fm) (rd:List Int),(lgR r a f rd).length<=dnR r
 | .pl p,a,f,rd=>by
  rw [lgR,dnR,List.length_map]
  cases gZ p<;>simp
 | .ag n rs,a,f,rd=>by
  rw [lgR,dnR]
  have:∀ m,((List.range m).flatMap fun i=>lgS rs (a + 1) (Nat.repeat (enS rs) i f) (rd ++ [(i:Int)])).length<=dnS rs * m:=fun m=>by
   induction m with
   | zero=>simp
   | succ m ih =>
    rw [List.range_succ,List.flatMap_append,List.length_append,Nat.mul_succ]
    have:=kS rs (a + 1) (Nat.repeat (enS rs) m f) (rd ++ [(m:Int)])
    simp only [List.flatMap_cons,List.flatMap_nil,List.append_nil]
    omega
  exact this n
 | .kp rs,a,f,rd=>by rw [lgR,dnR];exact kS rs _ _ _
 | .ev _,_,_,_=>by rw [lgR];exact Nat.zero_le _
theorem kS:∀ (rs:List Rw) (a:Int) (f:Fm) (rd:List Int),(lgS rs a f rd).length<=dnS rs
 | [],_,_,_=>by rw [lgS];exact Nat.zero_le _
 | r :: rs,a,f,rd=>by
  rw [lgS,dnS,List.length_append]
  have h1:=aAx r a f rd
  have h2:=kS rs (a + nmR r) (enR r f) rd
  omega
end
mutual
theorem aCH:∀ (r:Rw) (a:Int) (f:Fm) (rd:List Int),(edR r a f rd).length<=evR r
 | .pl p,a,f,rd=>by rw [edR];exact Nat.zero_le _
 | .ag n rs,a,f,rd=>by
  rw [edR,evR]
  have:∀ m,((List.range m).flatMap fun i=>edS rs (a + 1) (Nat.repeat (enS rs) i f) (rd ++ [(i:Int)])).length<=evS rs * m:=fun m=>by
   induction m with
   | zero=>simp
   | succ m ih =>
    rw [List.range_succ,List.flatMap_append,List.length_append,Nat.mul_succ]
    have:=uC rs (a + 1) (Nat.repeat (enS rs) m f) (rd ++ [(m:Int)])
    simp only [List.flatMap_cons,List.flatMap_nil,List.append_nil]
    omega
  exact this n
 | .kp rs,a,f,rd=>by rw [edR,evR];exact uC rs _ _ _
 | .ev rs,_,_,_=>by rw [edR,evR];simp
theorem uC:∀ (rs:List Rw) (a:Int) (f:Fm) (rd:List Int),(edS rs a f rd).length<=evS rs
 | [],_,_,_=>by rw [edS];exact Nat.zero_le _
 | r :: rs,a,f,rd=>by
  rw [edS,evS,List.length_append]
  have h1:=aCH r a f rd
  have h2:=uC rs (a + nmR r) (enR r f) rd
  omega
end
noncomputable def lrD (x:LR):D:=.tup [lgD x.1,.int x.2.1,.tup (x.2.2.map D.int)]
noncomputable def EdR (M M':DM) (d:D) (e:Ed):Prop:=∃ q:Addr,d = .tup [FmD e.f,.int e.a,.tup (e.rd.map D.int),.ref q]/\M q = none/\M' q = some (e.ls.map lrD)
structure iG (M M':DM) (ps pe:Addr) (L Es:List D) (ls:List LR) (es:List Ed):Prop where
 s:M' ps = some (L ++ ls.map lrD)
 e:∃ Es',M' pe = some (Es ++ Es')/\Paired (EdR M M') Es' es
 o:∀ k:AK,k ≠ .l ps->k ≠ .l pe->∀ o,M k = some o->M' k = some o
theorem iG.refl {M:DM} {ps pe:Addr} {L Es:List D} (h1:M ps = some L) (h2:M pe = some Es):iG M M ps pe L Es [] [] :=
 ⟨by rw [List.map_nil,List.append_nil];exact h1,⟨[],by rw [List.append_nil];exact h2,.nil⟩,fun _ _ _ _ h=>h⟩
theorem aCp {α β:Type} {F:α->β->Prop}:∀ {l₁:List α} {l₂:List β} {m₁:List α} {m₂:List β},Paired F l₁ l₂->Paired F m₁ m₂->Paired F (l₁ ++ m₁) (l₂ ++ m₂)
 | _,_,_,_,.nil,h=>h
 | _,_,_,_,.cons h₁ t,h=>.cons h₁ (aCp t h)
theorem iG.trans {M M1 M2:DM} {ps pe:Addr} {L Es Es1:List D} {ls ls2:List LR} {es es2:List Ed} (a1:M ps = some L) (a2:M pe = some Es) (h:iG M M1 ps pe L Es ls es) (e1:M1 pe = some Es1) (h2:iG M1 M2 ps pe (L ++ ls.map lrD) Es1 ls2 es2):iG M M2 ps pe L Es (ls ++ ls2) (es ++ es2):=by
 obtain ⟨Es',e,pr⟩:=h.e
 obtain ⟨Es2,e2,pr2⟩:=h2.e
 have eq:Es1 = Es ++ Es':=by rw [e] at e1;exact (Option.some.inj e1).symm
 subst eq
 refine ⟨by rw [List.map_append,<- List.append_assoc];exact h2.s,⟨Es' ++ Es2,by rw [<- List.append_assoc];exact e2,?_⟩,fun k n1 n2 o q=>h2.o k n1 n2 o (h.o k n1 n2 o q)⟩
 refine aCp (Paired.mapP pr fun d x ⟨q,z,f,l⟩=>⟨q,z,f,?_⟩) (Paired.mapP pr2 fun d x ⟨q,z,f,l⟩=>⟨q,z,?_,l⟩)
 ·have n1:(AK.l q) ≠ .l ps:=fun z=>by rw [z,a1] at f;cases f
  have n2:(AK.l q) ≠ .l pe:=fun z=>by rw [z,a2] at f;cases f
  exact h2.o _ n1 n2 _ l
 ·cases c:M q with
  | none=>rfl
  | some o =>
   have n1:(AK.l q) ≠ .l ps:=fun z=>by rw [z,h.s] at f;cases f
   have n2:(AK.l q) ≠ .l pe:=fun z=>by rw [z,e] at f;cases f
   have:=h.o _ n1 n2 _ c
   rw [f] at this;cases this
theorem iG.le {M M':DM} {ps pe:Addr} {L Es:List D} {ls:List LR} {es:List Ed} (h:iG M M' ps pe L Es ls es):∃ Es1,M' pe = some Es1/\Es1.length = Es.length + es.length:=by
 obtain ⟨Es',e,pr⟩:=h.e
 exact ⟨_,e,by rw [List.length_append,pr.length]⟩
noncomputable def uW (M:DM) (x:D) (rs:List Rw):Prop:=x = .tup (bI rs) ∨ ∃ a:Addr,x = .ref a/\M a = some (bI rs)
theorem rY {i:Nat} {x:D} {rs:List Rw} {g:DG} {tb:DS} {E:fO} {ρ:cF} {M:DM} (h:ρ[i]? = some (some x)) (ra:uW M x rs) (q:∀ at':Option Addr,(∀ a,at' = some a->M a = some (bI rs))->dIt at' (bI rs) g tb E ρ M):aAY (aAE i) g tb E ρ M:=by
 rcases ra with rfl | ⟨a,rfl,ha⟩
 ·exact aEf h (q none fun a e=>by cases e)
 ·exact aEE h ha (q (some a) fun b e=>by cases e;exact ha)
theorem aCl (p:Pl):∃ w cJ,plD p = .tup (.str w :: cJ)/\w ≠ "again"/\w ≠ "keep"/\w ≠ "ever":=by
 cases p<;>exact ⟨_,_,rfl,by decide,by decide,by decide⟩
theorem aCb {d:D} {r:List D}:atI (d :: r) 0 = some d:=by
 unfold atI ixN
 rw [if_pos (by decide),if_pos (by rw [List.length_cons];omega)]
 rfl
noncomputable def hW (d:Nat):DSp:=fun ds M Q=>∃ x rs,ds = [x]/\uW M x rs/\DpS d rs/\Q (.int (dnS rs:Int)) M
noncomputable abbrev qA:Stmt:=top 65
theorem eY:aS ["_law_rows","_law_many","_law_row_here"] ["_law_rows"] (aK qA):=⟨rfl,rfl,rfl,by decide +kernel,rfl,by decide +kernel,by decide +kernel⟩
theorem aAq (hF:cA K mg "_law_done" qA ["_law_rows"]):Has P w K mg base 118 "_law_done" ["_law_rows"] (hW 8):=by
 have all:∀ d,Has P w K mg base (110 + d) "_law_done" ["_law_rows"] (hW d):=fun d=>by
  induction d with
  | zero=>exact (Has.never hF eY 109).imp fun ds M Q ⟨_,rs,_,_,z,_⟩=>z
  | succ d dA =>
   refine Has.mkZ (k:=110 + d) hF eY (fun ds M Q ⟨a,_,z,_⟩=>by rw [z];rfl) fun f cdv A outer s H ds M Q E hr h=>?_
   obtain ⟨x,rs,rfl,ra,dp,q⟩:=h
   refine ⟨_,(aE (aM (i:=1) eY.nd aC)
  (aE (wP PassesOwn.never rfl (aB 0) (aR (i:=2) eY.nd) (aG (bC (aQ (cN hr) (aH (aB 2) aC) aL) (aG (aM (i:=1) eY.nd (aN cP (aB 1) (aN cB (aH (aB 2) aC) (aF dA hr (by omega) (aA (aH (aB 2) aC) aD)))))) (aG (bC (aQ wX (aH (aB 2) aC) (bA (aA aL (aA aL aD))) rfl) (aG (aM (i:=1) eY.nd (aN cP (aB 1) (aF dA hr (by omega) (aA (aH (aB 2) aC) aD))))) (aG (aM (i:=1) eY.nd (aN cP (aB 1) aC))))))))
  (aG (aP (aB 1))))),?_⟩
   decreasing_tactic
   refine rY rfl ra fun at' hat=>?_
   refine ⟨fun i ρ M'=>aX M M'/\∃ o1,ρ = [some x,some (.int (dnS (rs.take i):Int)),o1],⟨.refl _,_,rfl⟩,fun i ρ M' _ h a e=>h.1 _ _ (hat a e),?_,?_⟩
   ·rintro i d1 ρ M1 hd ⟨sub,o1,rfl⟩
    obtain ⟨r,hr',rfl⟩:=iX hd
    have dr:=dp.2 r (List.mem_of_getElem? hr')
    decreasing_tactic
    have fin:dnS (rs.take (i + 1)) = dnS (rs.take i) + dnR r:=by rw [dR hr',fE,dnS,dnS,Nat.add_zero]
    rw [fin]
    cases r with
    | pl p =>
     obtain ⟨w0,cJ,e,w1,w2,w3⟩:=aCl p
     dsimp only [dnR,rwD]
     rw [e]
     decreasing_tactic
     rw [aCb]
     decreasing_tactic
     rw [aO]
     refine ifF (decide_eq_false w1) ⟨by decide,fun a ha=>⟨["keep","ever"],aJ,ifF (by simp [Ne.symm w2,Ne.symm w3]) ?_⟩⟩
     exact ⟨sub.trans (aX.new ha _),_,rfl⟩
    | ag n ws =>
     obtain ⟨hn,dw⟩:=vH dr
     dsimp only [dnR,rwD]
     decreasing_tactic
     rw [aO]
     refine ifT (by decide) ⟨_,ws,rfl,.inl rfl,dw,eX (by unfold Bd;omega),?_⟩
     rw [Int.natCast_add,Int.natCast_mul,Int.mul_comm (dnS ws:Int)]
     exact ⟨sub,_,rfl⟩
    | kp ws =>
     have dw:=yG dr
     dsimp only [dnR,rwD]
     decreasing_tactic
     rw [aO]
     refine ifF (by decide) ⟨by decide,fun a ha=>⟨["keep","ever"],aJ,ifT (by decide) ⟨_,ws,rfl,.inl rfl,dw,?_⟩⟩⟩
     exact ⟨sub.trans (aX.new ha _),_,rfl⟩
    | ev ws =>
     have dw:=aBm dr
     dsimp only [dnR,rwD]
     decreasing_tactic
     rw [aO]
     refine ifF (by decide) ⟨by decide,fun a ha=>⟨["keep","ever"],aJ,ifT (by decide) ⟨_,ws,rfl,.inl rfl,dw,?_⟩⟩⟩
     exact ⟨sub.trans (aX.new ha _),_,rfl⟩
   ·rintro ρ M' ⟨sub,o1,rfl⟩
    rw [dI,List.take_length]
    exact ⟨M,sub,q⟩
 exact all 8
mutual
noncomputable def drR:Rw->Bool
 | .pl p=>(gZ p).isSome
 | .ag n rs=>n != 0 && drS rs
 | .kp rs=>drS rs
 | .ev rs=>drS rs
noncomputable def drS:List Rw->Bool
 | []=>false
 | r :: rs=>drR r || drS rs
end
theorem aCt:∀ xs ys:List Rw,drS (xs ++ ys) = (drS xs || drS ys)
 | [],ys=>by rw [List.nil_append,drS,Bool.false_or]
 | x :: xs,ys=>by rw [List.cons_append,drS,drS,aCt xs ys,Bool.or_assoc]
theorem aHd (p:Pl) (n:Nat):bH (n + 3) (plD p) = true:=by cases p<;>rfl
theorem uH:∀ (d:Nat) (r:Rw) (k:Nat),Dp d r->bH (k + 2 * d + 3) (rwD r) = true
 | _,.pl p,k,_=>by rw [rwD];exact aHd p _
 | d + 1,.ag n ws,k,h=>by
  have hw:∀ x ∈ bI ws,bH (k + 2 * d + 3) x = true:=fun x hx=>by
   rw [fD] at hx
   obtain ⟨r,hr,rfl⟩:=List.mem_map.mp hx
   exact uH d r k (h.2.2 r hr)
  rw [rwD,show k + 2 * (d + 1) + 3 = (k + 2 * d + 3) + 1 + 1 by omega]
  show ([D.str "again",.int (n:Int),.tup (bI ws)].all (bH (k + 2 * d + 3 + 1))) = true
  rw [List.all_cons,List.all_cons,List.all_cons]
  show (true && (true && (((bI ws).all (bH (k + 2 * d + 3))) && true))) = true
  rw [List.all_eq_true.mpr hw];rfl
 | d + 1,.kp ws,k,h=>by
  have hw:∀ x ∈ bI ws,bH (k + 2 * d + 3) x = true:=fun x hx=>by
   rw [fD] at hx
   obtain ⟨r,hr,rfl⟩:=List.mem_map.mp hx
   exact uH d r k (h.2 r hr)
  rw [rwD,show k + 2 * (d + 1) + 3 = (k + 2 * d + 3) + 1 + 1 by omega]
  show ([D.str "keep",.tup (bI ws)].all (bH (k + 2 * d + 3 + 1))) = true
  rw [List.all_cons,List.all_cons]
  show (true && (((bI ws).all (bH (k + 2 * d + 3))) && true)) = true
  rw [List.all_eq_true.mpr hw];rfl
 | d + 1,.ev ws,k,h=>by
  have hw:∀ x ∈ bI ws,bH (k + 2 * d + 3) x = true:=fun x hx=>by
   rw [fD] at hx
   obtain ⟨r,hr,rfl⟩:=List.mem_map.mp hx
   exact uH d r k (h.2 r hr)
  rw [rwD,show k + 2 * (d + 1) + 3 = (k + 2 * d + 3) + 1 + 1 by omega]
  show ([D.str "ever",.tup (bI ws)].all (bH (k + 2 * d + 3 + 1))) = true
  rw [List.all_cons,List.all_cons]
  show (true && (((bI ws).all (bH (k + 2 * d + 3))) && true)) = true
  rw [List.all_eq_true.mpr hw];rfl
theorem aBB {d:Nat} {ws:List Rw} (h:DpS d ws) (l:d<=9):bH 60 (.tup (bI ws)) = true:=by
 cases d with
 | zero=>exact h.elim
 | succ d =>
  show (bI ws).all (bH 59) = true
  rw [List.all_eq_true]
  intro x hx
  rw [fD] at hx
  obtain ⟨r,hr,rfl⟩:=List.mem_map.mp hx
  have:=uH d r (56 - 2 * d) (h.2 r hr)
  rw [show 56 - 2 * d + 2 * d + 3 = 59 by omega] at this
  exact this
theorem aDZ (p:Pl):∃ w cJ,plD p = .tup (.str w :: cJ)/\(w ≠ "again"/\w ≠ "keep"/\w ≠ "ever")/\id ((["go","side","dot","quarter","half","arc"]:List Str).any fun x=>x == w) = (gZ p).isSome:=by
 cases p with
 | quarter a=>exact ⟨_,_,rfl,by decide,by dsimp only [gZ];split<;>rfl⟩
 | _=>exact ⟨_,_,rfl,by decide,by first | rfl | (dsimp only [gZ];decide)⟩
theorem aD4 {w:Str} (h:w ≠ "again"/\w ≠ "keep"/\w ≠ "ever"):id ((["again","keep","ever"]:List Str).any fun x=>x == w) = false:=by
 simp [Ne.symm h.1,Ne.symm h.2.1,Ne.symm h.2.2]
noncomputable def iK (d:Nat):DSp:=fun ds M Q=>∃ x rs,ds = [x]/\uW M x rs/\DpS d rs/\Q (.bl (drS rs)) M
noncomputable abbrev mT:Stmt:=top 63
theorem fL:aS ["_law_rows","_law_many","_law_row_here"] ["_law_rows"] (aK mT):=⟨rfl,rfl,rfl,by decide +kernel,rfl,by decide +kernel,by decide +kernel⟩
theorem xR (hF:cA K mg "_law_draws" mT ["_law_rows"]):Has P w K mg base 118 "_law_draws" ["_law_rows"] (iK 8):=by
 have all:∀ d,d<=8->Has P w K mg base (110 + d) "_law_draws" ["_law_rows"] (iK d):=fun d=>by
  induction d with
  | zero=>exact fun _=>(Has.never hF fL 109).imp fun ds M Q ⟨_,rs,_,_,z,_⟩=>z
  | succ d ih =>
   intro ld
   have eE:=ih (by omega)
   refine Has.mkZ (k:=110 + d) hF fL (fun ds M Q ⟨a,_,z,_⟩=>by rw [z];rfl) fun f cdv A outer s H ds M Q E hr h=>?_
   obtain ⟨x,rs,rfl,ra,dp,q⟩:=h
   refine ⟨_,(aE (aM (i:=1) fL.nd aC)
  (aE (wP PassesOwn.never rfl (aB 0) (aR (i:=2) fL.nd) (aE (bC (aQ wX (aH (aB 2) aC) (bA (aA aL (aA aL (aA aL (aA aL (aA aL (aA aL aD))))))) rfl) (aG (aM (i:=1) fL.nd (aN cP (aB 1) aC))) aW)
  (aG (bC (mJ (lQ (aQ wX (aH (aB 2) aC) (bA (aA aL (aA aL (aA aL aD)))) rfl) (lQ (aQ (rB hr) (aH (aB 2) aC) aC) (kK (zR (aF eE hr (by omega) (aA (aH (aB 2) (cQ aC)) aD))))))) (aG (aM (i:=1) fL.nd (aN cP (aB 1) aC))) aW))))
  (aG (aP (gF jP (aB 1) aC))))),?_⟩
   decreasing_tactic
   refine rY rfl ra fun at' hat=>?_
   refine ⟨fun i ρ M'=>aX M M'/\∃ (c:Nat) (o1:Option D),(0 < c ↔ drS (rs.take i) = true)/\ρ = [some x,some (.int (c:Int)),o1],⟨.refl _,0,_,by rw [List.take_zero,drS];simp,rfl⟩,fun i ρ M' _ h a e=>h.1 _ _ (hat a e),?_,?_⟩
   ·rintro i d1 ρ M1 hd ⟨sub,c,o1,hc,rfl⟩
    obtain ⟨r,hr',rfl⟩:=iX hd
    have dr:=dp.2 r (List.mem_of_getElem? hr')
    decreasing_tactic
    have fin:drS (rs.take (i + 1)) = (drS (rs.take i) || drR r):=by rw [dR hr',aCt,drS,drS,Bool.or_false]
    rw [fin]
    cases r with
    | pl p =>
     obtain ⟨w0,cJ,e,wb,wl⟩:=aDZ p
     dsimp only [drR,rwD]
     rw [e]
     decreasing_tactic
     rw [aCb]
     decreasing_tactic
     refine ⟨by decide,fun a ha=>⟨["go","side","dot","quarter","half","arc"],aJ,?_⟩⟩
     rw [wl]
     have s1:=sub.trans (aX.new ha [D.str "go",.str "side",.str "dot",.str "quarter",.str "half",.str "arc"])
     generalize bE M1 a _ = M2 at s1 ⊢
     cases hg:(gZ p).isSome with
     | true =>
      refine ifT rfl ⟨by decide,fun a2 ha2=>⟨["again","keep","ever"],aJ,ifF (aD4 wb) ?_⟩⟩
      exact ⟨s1.trans (aX.new ha2 _),c + 1,_,by simp,rfl⟩
     | false =>
      refine ifF rfl ⟨by decide,fun a2 ha2=>⟨["again","keep","ever"],aJ,ifF (aD4 wb) ?_⟩⟩
      exact ⟨s1.trans (aX.new ha2 _),c,_,by simpa using hc,rfl⟩
    | ag n ws =>
     have dw:=(vH dr).2
     dsimp only [drR,rwD]
     decreasing_tactic
     refine ⟨by decide,fun a ha=>⟨["go","side","dot","quarter","half","arc"],aJ,ifF (by decide) ?_⟩⟩
     have s1:=sub.trans (aX.new ha [D.str "go",.str "side",.str "dot",.str "quarter",.str "half",.str "arc"])
     generalize bE M1 a _ = M2 at s1 ⊢
     refine ⟨by decide,fun a2 ha2=>⟨["again","keep","ever"],aJ,ifT (by decide) ?_⟩⟩
     have s2:=s1.trans (aX.new ha2 [D.str "again",.str "keep",.str "ever"])
     generalize bE M2 a2 _ = M3 at s2 ⊢
     rw [iI]
     by_cases n0:n = 0
     ·subst n0
      refine ifF rfl (ifF rfl ⟨s2,c,_,by simpa using hc,rfl⟩)
     ·refine ifT (by rw [decide_eq_false (by omega)];rfl) ⟨_,ws,rfl,.inl rfl,dw,?_⟩
      cases hg:drS ws with
      | true=>exact ifT rfl ⟨s2,c + 1,_,by simp [n0],rfl⟩
      | false=>exact ifF rfl ⟨s2,c,_,by simpa using hc,rfl⟩
    | kp ws =>
     have dw:=yG dr
     dsimp only [drR,rwD]
     decreasing_tactic
     refine ⟨by decide,fun a ha=>⟨["go","side","dot","quarter","half","arc"],aJ,ifF (by decide) ?_⟩⟩
     have s1:=sub.trans (aX.new ha [D.str "go",.str "side",.str "dot",.str "quarter",.str "half",.str "arc"])
     generalize bE M1 a _ = M2 at s1 ⊢
     refine ⟨by decide,fun a2 ha2=>⟨["again","keep","ever"],aJ,ifT (by decide) ?_⟩⟩
     have s2:=s1.trans (aX.new ha2 [D.str "again",.str "keep",.str "ever"])
     generalize bE M2 a2 _ = M3 at s2 ⊢
     refine ⟨aBB dw (by omega),rfl,?_⟩
     refine ifT rfl ⟨_,ws,rfl,.inl rfl,dw,?_⟩
     cases hg:drS ws with
     | true=>exact ifT rfl ⟨s2,c + 1,_,by simp,rfl⟩
     | false=>exact ifF rfl ⟨s2,c,_,by simpa using hc,rfl⟩
    | ev ws =>
     have dw:=aBm dr
     dsimp only [drR,rwD]
     decreasing_tactic
     refine ⟨by decide,fun a ha=>⟨["go","side","dot","quarter","half","arc"],aJ,ifF (by decide) ?_⟩⟩
     have s1:=sub.trans (aX.new ha [D.str "go",.str "side",.str "dot",.str "quarter",.str "half",.str "arc"])
     generalize bE M1 a _ = M2 at s1 ⊢
     refine ⟨by decide,fun a2 ha2=>⟨["again","keep","ever"],aJ,ifT (by decide) ?_⟩⟩
     have s2:=s1.trans (aX.new ha2 [D.str "again",.str "keep",.str "ever"])
     generalize bE M2 a2 _ = M3 at s2 ⊢
     refine ⟨aBB dw (by omega),rfl,?_⟩
     refine ifT rfl ⟨_,ws,rfl,.inl rfl,dw,?_⟩
     cases hg:drS ws with
     | true=>exact ifT rfl ⟨s2,c + 1,_,by simp,rfl⟩
     | false=>exact ifF rfl ⟨s2,c,_,by simpa using hc,rfl⟩
   ·rintro ρ M' ⟨sub,c,o1,hc,rfl⟩
    rw [dI,List.take_length] at hc
    decreasing_tactic
    have e:decide ((0:Int) < (c:Int)) = drS rs:=by
     cases hg:drS rs with
     | true=>exact decide_eq_true (by have:=hc.mpr hg;omega)
     | false=>exact decide_eq_false fun z=>by rw [hc.mp (by omega)] at hg;cases hg
    rw [e]
    exact ⟨M,sub,q⟩
 exact all 8 (by decide)
noncomputable def Sz (k:Nat) (x:Rat):Prop:=∃ t b:Nat,(0 < t/\t<=12 ^ k)/\(0 < b/\b<=12 ^ k)/\x * (b:Rat) = (t:Rat)
theorem Sz.one:Sz 0 1:=⟨1,1,by decide,by decide,Rat.one_mul _⟩
theorem Sz.mul {j k:Nat} {x y:Rat} (h:Sz j x) (h2:Sz k y):Sz (j + k) (x * y):=by
 obtain ⟨t,b,⟨t0,t1⟩,⟨b0,b1⟩,e⟩:=h
 obtain ⟨u,c,⟨u0,u1⟩,⟨c0,c1⟩,e2⟩:=h2
 refine ⟨t * u,b * c,⟨Nat.mul_pos t0 u0,?_⟩,⟨Nat.mul_pos b0 c0,?_⟩,?_⟩
 ·rw [Nat.pow_add];exact Nat.mul_le_mul t1 u1
 ·rw [Nat.pow_add];exact Nat.mul_le_mul b1 c1
 ·rw [Rat.natCast_mul,Rat.natCast_mul,<- e,<- e2];grind
theorem Sz.mono {j k:Nat} {x:Rat} (h:Sz j x) (l:j<=k):Sz k x:=by
 obtain ⟨t,b,⟨t0,t1⟩,⟨b0,b1⟩,e⟩:=h
 have:=Nat.pow_le_pow_right (n:=12) (by decide) l
 exact ⟨t,b,⟨t0,by omega⟩,⟨b0,by omega⟩,e⟩
theorem Sz.pow {j:Nat} {x:Rat} (h:Sz j x):∀ n,Sz (j * n) (x ^ n)
 | 0=>by rw [Rat.pow_zero];exact Sz.one
 | n + 1=>by rw [Rat.pow_succ,Nat.mul_succ];exact (h.pow n).mul h
theorem Sz.bq {k:Nat} {x:Rat} (h:Sz k x):BQ (4 * k + 1) x:=by
 obtain ⟨t,b,⟨t0,t1⟩,⟨b0,b1⟩,e⟩:=h
 have p1:12 ^ k<=16 ^ k:=Nat.pow_le_pow_left (by decide) k
 have p2:16 ^ k = 2 ^ (4 * k):=by rw [Nat.pow_mul]
 have p3:2 ^ (4 * k) < 2 ^ (4 * k + 1):=Nat.pow_lt_pow_right (by decide) (by omega)
 have n0:((b:Int):Rat) ≠ 0:=by
  have:=yF (show (0:Int) < (b:Int) by omega)
  grind
 have es:x = ((t:Int):Rat) / ((b:Int):Rat):=by
  simp only [Rat.intCast_natCast] at n0 ⊢
  grind
 rw [es]
 exact .make (by omega) (by unfold Bd;show t < _;omega) (by unfold Bd;show b < _;omega)
mutual
noncomputable def szR:Rw->Rat
 | .pl (.grow a)=>a
 | .pl _=>1
 | .ag n rs=>szS rs ^ n
 | .kp _=>1
 | .ev _=>1
noncomputable def szS:List Rw->Rat
 | []=>1
 | r :: rs=>szR r * szS rs
end
theorem aDd:∀ xs ys:List Rw,szS (xs ++ ys) = szS xs * szS ys
 | [],ys=>by rw [List.nil_append,szS,Rat.one_mul]
 | x :: xs,ys=>by rw [List.cons_append,szS,szS,aDd xs ys,Rat.mul_assoc]
mutual
noncomputable def gwR (N:Nat):Rw->Prop
 | .pl (.grow a)=>Sz 1 a
 | .pl _=>True
 | .ag _ rs=>dnS rs<=N/\gwS N rs
 | .kp rs=>dnS rs<=N/\gwS N rs
 | .ev rs=>(1<=dnS rs/\dnS rs<=N)/\gwS N rs
noncomputable def gwS (N:Nat):List Rw->Prop
 | []=>True
 | r :: rs=>gwR N r/\gwS N rs
end
theorem aC9 {N:Nat}:∀ {rs:List Rw} {r:Rw},gwS N rs->r ∈ rs->gwR N r
 | x :: xs,r,h,m=>by
  rw [gwS] at h
  rcases List.mem_cons.mp m with rfl | z
  ·exact h.1
  ·exact aC9 h.2 z
theorem iN {N:Nat}:∀ {xs ys:List Rw},gwS N (xs ++ ys) ↔ gwS N xs/\gwS N ys
 | [],ys=>by rw [List.nil_append,gwS];simp
 | x :: xs,ys=>by rw [List.cons_append,gwS,gwS,iN,and_assoc]
mutual
theorem aDW {N:Nat}:∀ r:Rw,gwR N r->Sz (dnR r) (szR r)
 | .pl p,h=>by
  cases p with
  | grow a=>rw [gwR] at h;rw [dnR,szR];exact h
  | _ =>
      rw [dnR,szR];· exact Sz.one.mono (by decide)
      all_goals (intro _ z;cases z)
 | .ag n rs,h=>by rw [gwR] at h;rw [dnR,szR];exact (aAN rs h.2).pow n
 | .kp rs,h=>by rw [szR];exact Sz.one.mono (Nat.zero_le _)
 | .ev rs,h=>by rw [szR];exact Sz.one.mono (Nat.zero_le _)
theorem aAN {N:Nat}:∀ rs:List Rw,gwS N rs->Sz (dnS rs) (szS rs)
 | [],_=>by rw [dnS,szS];exact Sz.one
 | r :: rs,h=>by rw [gwS] at h;rw [dnS,szS];exact (aDW r h.1).mul (aAN rs h.2)
end
theorem aGJ (p:Pl):(∃ a,p = .grow a) ∨ ∃ w cJ,plD p = .tup (.str w :: cJ)/\w ≠ "grow"/\w ≠ "again"/\szR (.pl p) = 1:=by
 cases p with
 | grow a=>exact .inl ⟨a,rfl⟩
 | _=>refine .inr ⟨_,_,rfl,by decide,by decide,?_⟩;rw [szR];intro _ z;cases z
noncomputable def nU (d:Nat):DSp:=fun ds M Q=>∃ x rs,ds = [x]/\uW M x rs/\DpS d rs/\dnS rs<=704/\gwS 704 rs/\Q (FQ (szS rs)) M
theorem aHu {p r:Rat} {j k:Nat} {M:DM} {Q:DQ} (h1:Sz j p) (h2:Sz k r) (l:j + k<=2200) (q:Q (FQ (p * r)) M):cK [FQ p,FQ r] M Q:=⟨_,_,_,_,rfl,trivial,h1.bq,h2.bq,by omega,q⟩
noncomputable abbrev pS:Stmt:=top 62
theorem eI:aS ["_law_rows","_law_size_here","_law_row_here","_law_once","_law_turn"] ["_law_rows"] (aK pS):=⟨rfl,rfl,rfl,by decide +kernel,rfl,by decide +kernel,by decide +kernel⟩
theorem aAm (hF:cA K mg "_law_size" pS ["_law_rows"]) (eT:mg "range" = none) (aZ:Has P w K mg base 102 "_law_times" ["_law_one","_law_other"] cK):Has P w K mg base 118 "_law_size" ["_law_rows"] (nU 8):=by
 have all:∀ d,Has P w K mg base (110 + d) "_law_size" ["_law_rows"] (nU d):=fun d=>by
  induction d with
  | zero=>exact (Has.never hF eI 109).imp fun ds M Q ⟨_,rs,_,_,z,_⟩=>z
  | succ d iY =>
   refine Has.mkZ (k:=110 + d) hF eI (fun ds M Q ⟨a,_,z,_⟩=>by rw [z];rfl) fun f cdv A outer s H ds M Q E hr h=>?_
   obtain ⟨x,rs,rfl,ra,dp,dn,gw,q⟩:=h
   refine ⟨_,(aE (aM (i:=1) eI.nd (aI (aA aC (aA aC aD))))
  (aE (wP PassesOwn.never rfl (aB 0) (aR (i:=2) eI.nd) (aE (bC (aQ (cN hr) (aH (aB 2) aC) aL) (aG (aM (i:=1) eI.nd (aF aZ hr (by omega) (aA (aB 1) (aA (aH (aB 2) aC) aD))))) aW)
  (aG (bC (aQ (cN hr) (aH (aB 2) aC) aL) (aE (aM (i:=3) eI.nd (aF iY hr (by omega) (aA (aH (aB 2) aC) aD)))
  (aG (qO PassesOwn.never rfl eT (aA (aH (aB 2) aC) aD) (aR (i:=4) eI.nd) (aG (aM (i:=1) eI.nd (aF aZ hr (by omega) (aA (aB 1) (aA (aB 3) aD)))))))) aW))))
  (aG (aP (aB 1))))),?_⟩
   decreasing_tactic
   refine ⟨by decide,?_⟩
   refine rY rfl ra fun at' hat=>?_
   refine ⟨fun i ρ M'=>M' = M/\∃ o1 o2 o3,ρ = [some x,some (FQ (szS (rs.take i))),o1,o2,o3],⟨rfl,_,_,_,rfl⟩,fun i ρ M' _ h a e=>by rw [h.1];exact hat a e,?_,?_⟩
   ·rintro i d1 ρ M1 hd ⟨rfl,o1,o2,o3,rfl⟩
    obtain ⟨r,hr',rfl⟩:=iX hd
    have dr:=dp.2 r (List.mem_of_getElem? hr')
    have gr:=aC9 gw (List.mem_of_getElem? hr')
    have gt:gwS 704 (rs.take i):=(iN.mp (by rw [List.take_append_drop];exact gw)).1
    have zt:=aAN _ gt
    have zr:=aDW r gr
    have fin:szS (rs.take (i + 1)) = szS (rs.take i) * szR r:=by rw [dR hr',aDd,szS,szS,Rat.mul_one]
    have fdn:dnS (rs.take (i + 1)) = dnS (rs.take i) + dnR r:=by rw [dR hr',fE,dnS,dnS,Nat.add_zero]
    have ldn:dnS (rs.take (i + 1))<=dnS rs:=by
     have:=fE (rs.take (i + 1)) (rs.drop (i + 1))
     rw [List.take_append_drop] at this
     omega
    decreasing_tactic
    rw [fin]
    cases r with
    | pl p =>
     rcases aGJ p with ⟨a,rfl⟩ | ⟨w0,cJ,e,w1,w2,e1⟩
     ·dsimp only [rwD,plD]
      rw [dnR,szR] at zr
      rw [szR]
      rw [dnR] at fdn
      decreasing_tactic
      rw [aO]
      refine ifT (by decide) (aHu zt zr (by omega) ?_)
      decreasing_tactic
      rw [aO]
      exact ifF (by decide) ⟨rfl,_,_,_,rfl⟩
     ·dsimp only [rwD]
      rw [e,e1,Rat.mul_one]
      decreasing_tactic
      rw [aCb]
      decreasing_tactic
      rw [aO]
      refine ifF (decide_eq_false w1) ?_
      rw [aO]
      exact ifF (decide_eq_false w2) ⟨rfl,_,_,_,rfl⟩
    | ag n ws =>
     obtain ⟨hn,dw⟩:=vH dr
     rw [gwR] at gr
     have zw:=aAN _ gr.2
     rw [dnR] at fdn
     rw [szR]
     dsimp only [rwD]
     decreasing_tactic
     rw [aO]
     refine ifF (by decide) ?_
     rw [aO]
     refine ifT (by decide) ⟨_,ws,rfl,.inl rfl,dw,gr.1,gr.2,?_⟩
     decreasing_tactic
     refine ⟨⟨by omega,by omega⟩,?_⟩
     rw [Int.toNat_natCast]
     refine ⟨fun j ρ M'=>M' = M1/\∃ o3,ρ = [some x,some (FQ (szS (rs.take i) * szS ws ^ j)),some (.tup [.str "again",.int (n:Int),.tup (bI ws)]),some (FQ (szS ws)),o3],⟨rfl,_,by rw [Rat.pow_zero,Rat.mul_one]⟩,?_,?_⟩
     ·rintro j ρ M' hj ⟨rfl,o3,rfl⟩
      decreasing_tactic
      have m1:dnS ws * (j + 1)<=dnS ws * n:=Nat.mul_le_mul_left _ hj
      rw [Nat.mul_succ] at m1
      have e:szS (rs.take i) * szS ws ^ (j + 1) = szS (rs.take i) * szS ws ^ j * szS ws:=by rw [Rat.pow_succ,Rat.mul_assoc]
      refine aHu (zt.mul (zw.pow j)) zw (by omega) ?_
      rw [<- e]
      exact ⟨rfl,_,rfl⟩
     ·rintro ρ M' ⟨rfl,o3,rfl⟩
      exact ⟨rfl,_,_,_,rfl⟩
    | kp ws =>
     rw [szR,Rat.mul_one]
     dsimp only [rwD]
     decreasing_tactic
     rw [aO]
     refine ifF (by decide) ?_
     rw [aO]
     exact ifF (by decide) ⟨rfl,_,_,_,rfl⟩
    | ev ws =>
     rw [szR,Rat.mul_one]
     dsimp only [rwD]
     decreasing_tactic
     rw [aO]
     refine ifF (by decide) ?_
     rw [aO]
     exact ifF (by decide) ⟨rfl,_,_,_,rfl⟩
   ·rintro ρ M' ⟨rfl,o1,o2,o3,rfl⟩
    rw [dI,List.take_length]
    exact bW q
 exact all 8
noncomputable def enB (rs:List Rw):Bool:=decide (dnS rs<=300) && ((decide (szS rs = 1) || decide (4 * (szS rs).num<=3 * ((szS rs).den:Int))) && drS rs)
noncomputable def jK:DSp:=fun ds M Q=>∃ x rs,ds = [x]/\uW M x rs/\DpS 8 rs/\gwS 704 rs/\Q (.bl (enB rs)) M
noncomputable abbrev gP:Stmt:=top 64
theorem jO:aS ["_law_rows","_law_size_here"] ["_law_rows"] (aK gP):=⟨rfl,rfl,rfl,by decide +kernel,rfl,by decide +kernel,by decide +kernel⟩
theorem pH (hF:cA K mg "_law_is_endless" gP ["_law_rows"]) (dA:Has P w K mg base 118 "_law_done" ["_law_rows"] (hW 8)) (iY:Has P w K mg base 118 "_law_size" ["_law_rows"] (nU 8)) (eE:Has P w K mg base 118 "_law_draws" ["_law_rows"] (iK 8)):Has P w K mg base 119 "_law_is_endless" ["_law_rows"] jK:=by
 refine Has.mkZ hF jO (fun ds M Q ⟨_,_,z,_⟩=>by rw [z];rfl) fun f cdv A outer s H ds M Q E hr h=>?_
 obtain ⟨x,rs,rfl,ra,dp,gw,q⟩:=h
 refine ⟨_,(aE (bC (aQ jP (aF dA hr (by decide) (aA (aB 0) aD)) aC) (aG (aP uT)) aW)
  (aE (aM (i:=1) jO.nd (aF iY hr (by decide) (aA (aB 0) aD)))
  (aG (aP (aAD (aI1 (gF (cN hr) (aB 1) (aI (aA aC (aA aC aD)))) (uG (gF aLs (aN cB aC (aH (aB 1) aC)) (aN cB aC (aH (aB 1) aC))))) (uG (aF eE hr (by decide) (aA (aB 0) aD)))))))),?_⟩
 decreasing_tactic
 refine ⟨x,rs,rfl,ra,dp,?_⟩
 decreasing_tactic
 unfold enB at q
 by_cases c:dnS rs<=300
 ·refine ifF (decide_eq_false (by omega)) ⟨x,rs,rfl,ra,dp,by omega,gw,?_⟩
  rw [decide_eq_true c,Bool.true_and] at q
  decreasing_tactic
  refine ⟨by decide,?_⟩
  rw [show (D.tup [.int 1,.int 1]) = FQ 1 from rfl,aE0]
  by_cases c1:szS rs = 1
  ·rw [decide_eq_true c1,Bool.true_or,Bool.true_and] at q
   refine ifT (decide_eq_true c1) (ifT rfl ⟨x,rs,rfl,ra,dp,bW q⟩)
  ·rw [decide_eq_false c1,Bool.false_or] at q
   refine ifF (decide_eq_false c1) ⟨eX (by unfold Bd;decide),eX (by unfold Bd;decide),?_⟩
   by_cases c2:4 * (szS rs).num<=3 * ((szS rs).den:Int)
   ·rw [decide_eq_true c2,Bool.true_and] at q
    exact ifT (decide_eq_true c2) ⟨x,rs,rfl,ra,dp,bW q⟩
   ·rw [decide_eq_false c2,Bool.false_and] at q
    exact ifF (decide_eq_false c2) (bW q)
 ·refine ifT (decide_eq_true (by omega)) ?_
  rw [decide_eq_false c,Bool.false_and] at q
  exact bW q
structure En where
 wd:Str
 n:Nat
 a:Addr
 rs:List Rw
noncomputable def enD (e:En):D:=.tup [.str e.wd,.int (e.n:Int),.ref e.a]
noncomputable def dN (M M':DM) (as:List Addr):Prop:=∀ k:AK,(∀ a ∈ as,k ≠ .l a)->∀ x,M k = some x->M' k = some x
theorem dN.refl {M:DM} {as:List Addr}:dN M M as:=fun _ _ _ e=>e
theorem dN.sub {M M' M'':DM} {as:List Addr} (h:dN M M' as) (s:aX M' M''):dN M M'' as:=fun k n x e=>s _ _ (h k n x e)
theorem dN.put {M M':DM} {as:List Addr} {a:Addr} {L:List D} (h:dN M M' as) (m:a ∈ as):dN M (bE M' a L) as:=fun k n x e=>by rw [gD (n a m)];exact h k n x e
theorem dN.mono {M M':DM} {as bs:List Addr} (h:dN M M' as) (s:∀ a ∈ as,a ∈ bs):dN M M' bs:=fun k n x e=>h k (fun a m=>n a (s a m)) x e
noncomputable def dU (rs:List Rw):List Rw:=rs ++ List.replicate (if drS rs then 0 else 1) (.pl .dot)
noncomputable def cT (rs:List Rw):List Rw:=dU rs ++ List.replicate (if enB (dU rs) then 0 else 1) (.pl (.grow (1 / 12)))
noncomputable def clE (wd:Str) (n:Nat) (rs:List Rw):Rw:=if wd = "again" then .ag (if 90 < n * dnS rs then 1 else n) rs else if wd = "ever" then (if enB (cT rs) then .ev (cT rs) else .kp (cT rs)) else .kp rs
theorem Dp.up:∀ {d:Nat} {r:Rw},Dp d r->Dp (d + 1) r
 | _,.pl _,_=>trivial
 | d + 1,.ag n rs,h=>⟨h.1,h.2.1,fun r hr=>Dp.up (h.2.2 r hr)⟩
 | d + 1,.kp rs,h=>⟨h.1,fun r hr=>Dp.up (h.2 r hr)⟩
 | d + 1,.ev rs,h=>⟨h.1,fun r hr=>Dp.up (h.2 r hr)⟩
theorem DpS.up {d:Nat} {rs:List Rw} (h:DpS d rs):DpS (d + 1) rs:=by
 cases d with
 | zero=>exact h.elim
 | succ d=>exact ⟨h.1,fun r hr=>Dp.up (h.2 r hr)⟩
theorem iP (xs ys:List Rw):bI (xs ++ ys) = bI xs ++ bI ys:=by rw [fD,fD,fD,List.map_append]
theorem yZ (r:Rw) (n:Nat):bI (List.replicate n r) = List.replicate n (rwD r):=by rw [fD,List.map_replicate]
theorem aMw:rwD (.pl (.grow (1 / 12))) = D.tup [.str "grow",.tup [.int 1,.int 12]]:=by
 show D.tup [.str "grow",FQ (1 / 12)] = _
 unfold FQ
 rw [show (1 / 12:Rat).num = 1 by decide +kernel,show (1 / 12:Rat).den = 12 by decide +kernel];rfl
theorem aKz {p:Addr} {d:D} {r:Rw} {b:Bool} {M:DM} {Q:DQ} (hp:M p = some [d]) (hr:rwD r = d) (q:∀ p2:Addr,M p2 = none->Q (.ref p2) (bE M p2 (bI (List.replicate (if b then 0 else 1) r)))):aHM (.ref p) (.int (if (!b) = true then 1 else 0)) M Q:=by
 refine ⟨_,hp,by simp,by split<;>decide,by split<;>decide,by split<;>simp,fun p2 hp2=>?_⟩
 have:=q p2 hp2
 rw [yZ,hr] at this
 cases b with
 | true=>exact this
 | false=>exact this
theorem aAg {N n:Nat} {r:Rw} (h:gwR N r):gwS N (List.replicate n r):=by
 induction n with
 | zero=>rw [List.replicate_zero,gwS];trivial
 | succ n ih=>rw [List.replicate_succ,gwS];exact ⟨h,ih⟩
theorem aCC {d N:Nat} {xs ys:List Rw} (h:DpS (d + 1) xs) (l:(xs ++ ys).length<=N) (hy:∀ r ∈ ys,Dp d r) (lN:N<=1000:=by decide):DpS (d + 1) (xs ++ ys) :=
 ⟨by omega,fun r hr=>(List.mem_append.mp hr).elim (h.2 r) (hy r)⟩
theorem sK {xs:List D} {d:D}:atI (xs ++ [d]) (-1) = some d:=by
 unfold atI ixN
 rw [if_neg (by decide),if_pos (by rw [List.length_append,List.length_cons,List.length_nil];omega)]
 rw [List.length_append,List.length_cons,List.length_nil]
 show (xs ++ [d])[((-1:Int) + ((xs.length + (0 + 1):Nat):Int)).toNat]? = some d
 rw [show ((-1:Int) + ((xs.length + (0 + 1):Nat):Int)).toNat = xs.length by omega]
 simp
noncomputable def lU:DSp:=fun ds M Q=>∃ (st:Addr) (es:List En) (u e:En),ds = [.ref st]/\M st = some ((es ++ [u,e]).map enD)/\es.length<=20/\(st ≠ u.a/\st ≠ e.a/\u.a ≠ e.a)/\M u.a = some (bI u.rs)/\M e.a = some (bI e.rs)/\(e.wd = "again" ∨ e.wd = "keep" ∨ e.wd = "ever")/\e.n<=12/\DpS 7 e.rs/\gwS 704 e.rs/\u.rs.length<=900/\e.rs.length<=900/\dnS e.rs<=2000 /\
 ∀ M',M' st = some ((es ++ [u]).map enD)->M' u.a = some (bI (u.rs ++ [clE e.wd e.n e.rs]))->dN M M' [st,u.a]->Q .non M'
noncomputable abbrev nN:Stmt:=top 66
theorem dD:aS ["_law_stack","_law_word","_law_many","_law_rows","_law_block"] ["_law_stack"] (aK nN):=⟨rfl,rfl,rfl,by decide +kernel,rfl,by decide +kernel,by decide +kernel⟩
theorem xT (hF:cA K mg "_law_close" nN ["_law_stack"]) (hG:mg "int" = none) (gS:mg "tuple" = none) (dA:Has P w K mg base 118 "_law_done" ["_law_rows"] (hW 8)) (fH:Has P w K mg base 119 "_law_is_endless" ["_law_rows"] jK) (eE:Has P w K mg base 118 "_law_draws" ["_law_rows"] (iK 8)):Has P w K mg base 120 "_law_close" ["_law_stack"] lU:=by
 refine Has.mkZ hF dD (fun ds M Q ⟨_,_,_,_,z,_⟩=>by rw [z];rfl) fun f cdv A outer s H ds M Q E hr h=>?_
 obtain ⟨st,es,u,e,rfl,hst,les,⟨n1,n2,n3⟩,hu,he,hw,hn,dp,gw,lu,le,dn,q⟩:=h
 refine ⟨_,(aE (eS (aCD (aB 0)) (eQ (n:=3) rfl (aU (aR (i:=1) dD.nd) (aU (aR (i:=2) dD.nd) (aU (aR (i:=3) dD.nd) dO)))))
  (kM (bC (aQ (cN hr) (aB 1) aL) (aE (aM (i:=3) dD.nd (aN cP (aB 3) (aN aCE (bA (aA (aI (aA aL aD)) aD)) (cU kW hG (aA (aCR (aF eE hr (by decide) (aA (aB 3) aD))) aD)))))
  (aE (aM (i:=3) dD.nd (aN cP (aB 3) (aN aCE (bA (aA (aI (aA aL (aA (aI (aA aC (aA aC aD))) aD))) aD)) (cU kW hG (aA (aCR (aF fH hr (by decide) (aA (aB 3) aD))) aD)))))
  (aG (aM (i:=1) dD.nd (aH (bA (aA aL (aA aL aD))) (cU kW hG (aA (aF fH hr (by decide) (aA (aB 3) aD)) aD))))))) aW)
  (aE (aM (i:=4) dD.nd (aI (aA (aB 1) (aA (cU rM gS (aA (aB 3) aD)) aD))))
  (kM (bC (aQ (cN hr) (aB 1) aL) (aG (aM (i:=4) dD.nd (aI (aA (aB 1) (aA (aH (bA (aA (aB 2) (aA aC aD))) (cU kW hG (aA (gF jP (aN cB (aB 2) (aF dA hr (by decide) (aA (aB 3) aD))) aC) aD))) (aA (cU rM gS (aA (aB 3) aD)) aD)))))) aW)
  (aG (bZ (cG (aH (aH (aB 0) (cQ aC)) aC) (aB 4)))))))),?_⟩
 decreasing_tactic
 have el:((es ++ [u,e]).map enD) = (es ++ [u]).map enD ++ [enD e]:=by simp
 have ll:((es ++ [u,e]).map enD)[((es ++ [u,e]).map enD).length - 1]? = some (enD e):=by rw [el];simp
 have ld:((es ++ [u,e]).map enD).dropLast = (es ++ [u]).map enD:=by rw [el];simp
 refine ⟨_,_,hst,ll,?_⟩
 rw [ld]
 rw [show enD e = .tup [.str e.wd,.int (e.n:Int),.ref e.a] from rfl]
 decreasing_tactic
 have k0:dN M (bE M st ((es ++ [u]).map enD)) [st]:=dN.refl.put (List.mem_singleton.mpr rfl)
 have st0:bE M st ((es ++ [u]).map enD) st = some ((es ++ [u]).map enD):=aJ
 have he0:bE M st ((es ++ [u]).map enD) e.a = some (bI e.rs):=by rw [bS (Ne.symm n2)];exact he
 have hu0:bE M st ((es ++ [u]).map enD) u.a = some (bI u.rs):=by rw [bS (Ne.symm n1)];exact hu
 generalize bE M st ((es ++ [u]).map enD) = M0 at k0 st0 he0 hu0
 refine ⟨rfl,fun ρ' M'=>∃ (wd2:Str) (la:Addr) (rs2:List Rw),ρ' = [some (.ref st),some (.str wd2),some (.int (e.n:Int)),some (.ref la),none]/\M' la = some (bI rs2)/\M' st = some ((es ++ [u]).map enD)/\M' u.a = some (bI u.rs)/\dN M M' [st]/\(e.wd = "ever"->rs2 = cT e.rs/\wd2 = if enB (cT e.rs) then ("ever":Str) else "keep")/\(e.wd ≠ "ever"->rs2 = e.rs/\wd2 = e.wd),?_,?_⟩
 ·rw [aO]
  by_cases ce:e.wd = "ever"
  ·refine ifT (decide_eq_true ce) ⟨by decide,by decide,fun p hp=>?_⟩
   have s1:=aX.new hp [D.tup [D.str "dot"]]
   refine ⟨_,e.rs,rfl,.inr ⟨_,rfl,s1 _ _ he0⟩,DpS.up dp,?_⟩
   decreasing_tactic
   refine aKz aJ (r:=.pl .dot) rfl fun p2 hp2=>?_
   have s2:=s1.trans (aX.new hp2 (bI (List.replicate (if drS e.rs then 0 else 1) (.pl .dot))))
   have hp2':bE (bE M0 p [D.tup [D.str "dot"]]) p2 (bI (List.replicate (if drS e.rs then 0 else 1) (.pl .dot))) p2 = some (bI (List.replicate (if drS e.rs then 0 else 1) (.pl .dot))):=aJ
   generalize bE (bE M0 p [D.tup [D.str "dot"]]) p2 _ = M2 at s2 hp2' ⊢
   decreasing_tactic
   have l1:(dU e.rs).length<=901:=by
    unfold dU
    rw [List.length_append,List.length_replicate]
    split<;>omega
   refine ⟨_,_,s2 _ _ he0,hp2',by rw [dI,dI,List.length_replicate];split<;>omega,fun p3 hp3=>?_⟩
   rw [<- iP,show e.rs ++ List.replicate (if drS e.rs then 0 else 1) (.pl .dot) = dU e.rs from rfl]
   have s3:=s2.trans (aX.new hp3 (bI (dU e.rs)))
   have h3:bE M2 p3 (bI (dU e.rs)) p3 = some (bI (dU e.rs)):=aJ
   generalize bE M2 p3 _ = M3 at s3 h3 ⊢
   refine ⟨by decide,by decide,by decide,fun p4 hp4=>?_⟩
   have s4:=aX.new hp4 [D.tup [D.str "grow",D.tup [D.int 1,D.int 12]]]
   have d1:DpS 8 (dU e.rs):=aCC (DpS.up dp) l1 fun r hr=>by
    rw [(List.mem_replicate.mp hr).2];trivial
   have g1:gwS 704 (dU e.rs):=iN.mpr ⟨gw,aAg (by rw [gwR];trivial;intro _ z;cases z)⟩
   refine ⟨_,dU e.rs,rfl,.inr ⟨_,rfl,s4 _ _ h3⟩,d1,g1,?_⟩
   decreasing_tactic
   refine aKz aJ (r:=.pl (.grow (1 / 12))) aMw fun p5 hp5=>?_
   have s5:=s4.trans (aX.new hp5 (bI (List.replicate (if enB (dU e.rs) then 0 else 1) (.pl (.grow (1 / 12))))))
   have h5:bE (bE M3 p4 [D.tup [D.str "grow",D.tup [D.int 1,D.int 12]]]) p5 (bI (List.replicate (if enB (dU e.rs) then 0 else 1) (.pl (.grow (1 / 12))))) p5 = some (bI (List.replicate (if enB (dU e.rs) then 0 else 1) (.pl (.grow (1 / 12))))):=aJ
   generalize bE (bE M3 p4 [D.tup [D.str "grow",D.tup [D.int 1,D.int 12]]]) p5 _ = M5 at s5 h5 ⊢
   decreasing_tactic
   have l2:(cT e.rs).length<=902:=by
    unfold cT
    rw [List.length_append,List.length_replicate]
    split<;>omega
   refine ⟨_,_,s5 _ _ h3,h5,by rw [dI,dI,List.length_replicate];split<;>omega,fun p6 hp6=>?_⟩
   rw [<- iP,show dU e.rs ++ List.replicate (if enB (dU e.rs) then 0 else 1) (.pl (.grow (1 / 12))) = cT e.rs from rfl]
   have s6:=s5.trans (aX.new hp6 (bI (cT e.rs)))
   have h6:bE M5 p6 (bI (cT e.rs)) p6 = some (bI (cT e.rs)):=aJ
   generalize bE M5 p6 _ = M6 at s6 h6 ⊢
   refine ⟨by decide,fun p7 hp7=>?_⟩
   have s7:=aX.new hp7 [D.str "keep",D.str "ever"]
   have h7:bE M6 p7 [D.str "keep",D.str "ever"] p7 = some [D.str "keep",D.str "ever"]:=aJ
   generalize bE M6 p7 _ = M7 at s7 h7 ⊢
   have d2:DpS 8 (cT e.rs):=aCC d1 l2 fun r hr=>by
    rw [(List.mem_replicate.mp hr).2];trivial
   have g2:gwS 704 (cT e.rs):=iN.mpr ⟨g1,aAg (by rw [gwR];exact ⟨1,12,by decide,by decide,by decide +kernel⟩)⟩
   refine ⟨_,cT e.rs,rfl,.inr ⟨_,rfl,s7 _ _ h6⟩,d2,g2,?_⟩
   decreasing_tactic
   have fs:aX M0 M7:=(s3.trans s6).trans s7
   cases hb:enB (cT e.rs) with
   | true=>exact ⟨_,_,h7,rfl,_,_,_,rfl,s7 _ _ h6,fs _ _ st0,fs _ _ hu0,k0.sub fs,fun _=>⟨rfl,by rw [if_pos rfl]⟩,fun z=>absurd ce z⟩
   | false=>exact ⟨_,_,h7,rfl,_,_,_,rfl,s7 _ _ h6,fs _ _ st0,fs _ _ hu0,k0.sub fs,fun _=>⟨rfl,by rw [if_neg (by decide)]⟩,fun z=>absurd ce z⟩
  ·exact ifF (decide_eq_false ce) ⟨_,_,_,rfl,he0,st0,hu0,k0,fun z=>absurd z ce,fun _=>⟨rfl,rfl⟩⟩
 rintro ρ' M1 ⟨wd2,la,rs2,rfl,hla,hst1,hu1,k1,ev1,ne1⟩
 decreasing_tactic
 refine ⟨_,hla,by decide,fun ρ' M'=>∃ o1 o2 o3 b,ρ' = [some (.ref st),o1,o2,o3,some b]/\b = rwD (clE e.wd e.n e.rs)/\M' st = some ((es ++ [u]).map enD)/\M' u.a = some (bI u.rs)/\dN M M' [st],?_,?_⟩
 ·rw [aO]
  by_cases ca:wd2 = "again"
  ·have ea:e.wd = "again":=by
    by_cases ce:e.wd = "ever"
    ·have:=(ev1 ce).2
     rw [ca] at this
     cases hb:enB (cT e.rs)<;>rw [hb] at this<;>exact absurd this (by decide)
    ·rw [<- (ne1 ce).2];exact ca
   obtain ⟨rfl,_⟩:=ne1 (by rw [ea];decide)
   refine ifT (decide_eq_true ca) ⟨by decide,fun p hp=>?_⟩
   have s1:=aX.new hp [D.int (e.n:Int),.int 1]
   refine ⟨_,e.rs,rfl,.inr ⟨_,rfl,s1 _ _ hla⟩,DpS.up dp,eX (by unfold Bd;omega),?_⟩
   have ec:clE e.wd e.n e.rs = .ag (if 90 < e.n * dnS e.rs then 1 else e.n) e.rs:=by unfold clE;rw [if_pos ea]
   have em:(90:Int) < (e.n:Int) * (dnS e.rs:Int) ↔ 90 < e.n * dnS e.rs:=by
    have:((e.n * dnS e.rs:Nat):Int) = (e.n:Int) * (dnS e.rs:Int):=Int.natCast_mul _ _
    omega
   by_cases c:90 < e.n * dnS e.rs
   ·rw [if_pos (decide_eq_true (em.mpr c))]
    refine ⟨_,_,aJ,rfl,_,s1 _ _ hla,by decide,_,_,_,_,rfl,?_,s1 _ _ hst1,s1 _ _ hu1,k1.sub s1⟩
    rw [ec,if_pos c,ca];rfl
   ·rw [if_neg (by rw [decide_eq_false fun z=>c (em.mp z)];decide)]
    refine ⟨_,_,aJ,rfl,_,s1 _ _ hla,by decide,_,_,_,_,rfl,?_,s1 _ _ hst1,s1 _ _ hu1,k1.sub s1⟩
    rw [ec,if_neg c,ca];rfl
  ·refine ifF (decide_eq_false ca) ⟨_,_,_,_,rfl,?_,hst1,hu1,k1⟩
   by_cases ce:e.wd = "ever"
   ·obtain ⟨rfl,rfl⟩:=ev1 ce
    have ec:clE e.wd e.n e.rs = if enB (cT e.rs) then .ev (cT e.rs) else .kp (cT e.rs):=by
     unfold clE
     rw [if_neg (show ¬ e.wd = "again" by rw [ce];decide),if_pos ce]
    rw [ec]
    cases hb:enB (cT e.rs)<;>rfl
   ·obtain ⟨rfl,rfl⟩:=ne1 ce
    have ek:e.wd = "keep":=by
     rcases hw with z | z | z
     ·exact absurd z ca
     ·exact z
     ·exact absurd z ce
    unfold clE
    rw [if_neg ca,if_neg ce,ek];rfl
 ·rintro ρ' M2 ⟨o1,o2,o3,_,rfl,rfl,h1,h2,k2⟩
  decreasing_tactic
  have al:atI ((es ++ [u]).map enD) (-1) = some (enD u):=by rw [List.map_append];exact sK
  refine ⟨_,_,h1,al,?_⟩
  rw [show enD u = .tup [.str u.wd,.int (u.n:Int),.ref u.a] from rfl]
  decreasing_tactic
  refine ⟨⟨_,h2⟩,_,_,rfl,h2,by rw [dI];omega,bW (q _ ?_ ?_ ?_)⟩
  ·rw [bS n1];exact h1
  ·rw [iP];exact aJ
  ·exact (k2.mono fun a m=>by rw [List.mem_singleton.mp m];exact List.mem_cons_self ..).put (List.mem_cons_of_mem _ (List.mem_singleton.mpr rfl))
noncomputable def Fc (m:Nat):Nat:=if m<=2 then m else if m = 3 then 12 else if m = 4 then 24 else 18 * m
theorem aGw {m n:Nat} (h:m<=n):Fc m<=Fc n:=by
 unfold Fc
 repeat' split
 all_goals omega
theorem aFg (m n:Nat):Fc m + Fc n<=Fc (m + n):=by
 unfold Fc
 repeat' split
 all_goals omega
theorem aKi (m:Nat):Fc m + 2<=Fc (m + 2):=by
 unfold Fc
 repeat' split
 all_goals omega
theorem aHw {m:Nat}:Fc m<=18 * m:=by
 unfold Fc
 repeat' split
 all_goals omega
theorem aFt {m n d:Nat} (hd:d<=Fc m) (hn:n<=12) (h:n * d<=90):n * d<=Fc (m + 2):=by
 have h1:n * d<=12 * d:=Nat.mul_le_mul_right _ hn
 unfold Fc at *
 repeat' split
 all_goals (try omega)
 all_goals (repeat' split at hd)
 all_goals omega
mutual
noncomputable def alR (F:Pl->Prop):Rw->Prop
 | .pl p=>F p
 | .ag _ rs=>alS F rs
 | .kp rs=>alS F rs
 | .ev rs=>alS F rs
noncomputable def alS (F:Pl->Prop):List Rw->Prop
 | []=>True
 | r :: rs=>alR F r/\alS F rs
end
theorem lP {F:Pl->Prop}:∀ {xs ys:List Rw},alS F (xs ++ ys) ↔ alS F xs/\alS F ys
 | [],ys=>by rw [List.nil_append,alS];simp
 | x :: xs,ys=>by rw [List.cons_append,alS,alS,lP,and_assoc]
mutual
theorem aF0 {F G:Pl->Prop} (k:∀ p,F p->G p):∀ r:Rw,alR F r->alR G r
 | .pl p,h=>by rw [alR] at *;exact k p h
 | .ag _ rs,h=>by rw [alR] at *;exact qR k rs h
 | .kp rs,h=>by rw [alR] at *;exact qR k rs h
 | .ev rs,h=>by rw [alR] at *;exact qR k rs h
theorem qR {F G:Pl->Prop} (k:∀ p,F p->G p):∀ rs:List Rw,alS F rs->alS G rs
 | [],_=>by rw [alS];trivial
 | r :: rs,h=>by rw [alS] at *;exact ⟨aF0 k r h.1,qR k rs h.2⟩
end
structure xV (F:Pl->Prop) (i m:Nat) (rs:List Rw):Prop where
 dp:∀ r ∈ rs,Dp (4 - i) r
 len:rs.length<=m
 dn:dnS rs<=Fc m
 gw:gwS 704 rs
 al:alS F rs
theorem xV.row {F:Pl->Prop} {i m:Nat} {rs:List Rw} (h:xV F i m rs) {p:Pl} (hp:F p) (hg:gwR 704 (.pl p)):xV F i (m + 1) (rs ++ [.pl p]):=by
 refine ⟨fun r hr=>?_,by rw [List.length_append];have:=h.len;show rs.length + 1<=m + 1;omega,?_,iN.mpr ⟨h.gw,by rw [gwS,gwS];exact ⟨hg,trivial⟩⟩,lP.mpr ⟨h.al,by rw [alS,alS,alR];exact ⟨hp,trivial⟩⟩⟩
 ·rcases List.mem_append.mp hr with z | z
  ·exact h.dp r z
  ·rw [List.mem_singleton.mp z];unfold Dp;trivial
 ·rw [fE,dnS,dnS,dnR]
  have:=h.dn
  have:=aFg m 1
  have:Fc 1 = 1:=rfl
  omega
theorem aB5 {F:Pl->Prop} {n:Nat} {r:Rw} (h:alR F r):alS F (List.replicate n r):=by
 induction n with
 | zero=>rw [List.replicate_zero,alS];trivial
 | succ n ih=>rw [List.replicate_succ,alS];exact ⟨h,ih⟩
theorem aBW {n:Nat} {p:Pl}:dnS (List.replicate n (.pl p)) = n:=by
 induction n with
 | zero=>rw [List.replicate_zero,dnS]
 | succ n ih=>rw [List.replicate_succ,dnS,ih,dnR];omega
mutual
theorem aJO:∀ r:Rw,drR r = true->1<=dnR r
 | .pl p,_=>by rw [dnR];exact Nat.le_refl _
 | .ag n rs,h=>by
  rw [drR,Bool.and_eq_true] at h
  have:=xI rs h.2
  have n0:0 < n:=by have:=h.1;simp at this;omega
  rw [dnR];exact Nat.mul_pos this n0
 | .kp rs,h=>by rw [drR] at h;rw [dnR];exact xI rs h
 | .ev rs,h=>by rw [drR] at h;rw [dnR];exact xI rs h
theorem xI:∀ rs:List Rw,drS rs = true->1<=dnS rs
 | [],h=>by rw [drS] at h;cases h
 | r :: rs,h=>by
  rw [drS,Bool.or_eq_true] at h
  rw [dnS]
  rcases h with z | z
  ·have:=aJO r z;omega
  ·have:=xI rs z;omega
end
theorem aHY {rs:List Rw} (h:enB rs = true):drS rs = true:=by
 unfold enB at h
 rw [Bool.and_eq_true,Bool.and_eq_true] at h
 exact h.2.2
theorem aGP {F:Pl->Prop} {i m:Nat} {rs:List Rw} (h:xV F i m rs) (fd:F .dot) (fg:F (.grow (1 / 12))):(∀ r ∈ cT rs,Dp (4 - i) r)/\(cT rs).length<=m + 2/\dnS (cT rs)<=Fc m + 2/\gwS 704 (cT rs)/\alS F (cT rs):=by
 have one:∀ b:Bool,(if b = true then 0 else 1)<=1:=fun b=>by cases b<;>decide
 have pl:∀ {d:Nat} {p:Pl},Dp d (.pl p):=fun {d p}=>by unfold Dp;trivial
 unfold cT dU
 have o1:=one (drS rs)
 generalize (if drS rs = true then 0 else 1) = k1 at o1 ⊢
 have o2:=one (enB (rs ++ List.replicate k1 (.pl .dot)))
 generalize (if enB (rs ++ List.replicate k1 (.pl .dot)) = true then 0 else 1) = k2 at o2 ⊢
 refine ⟨fun r hr=>?_,?_,?_,iN.mpr ⟨iN.mpr ⟨h.gw,aAg (by rw [gwR];trivial;intro _ z;cases z)⟩,aAg (by rw [gwR];exact ⟨1,12,by decide,by decide,by decide +kernel⟩)⟩,lP.mpr ⟨lP.mpr ⟨h.al,aB5 (by rw [alR];exact fd)⟩,aB5 (by rw [alR];exact fg)⟩⟩
 ·rcases List.mem_append.mp hr with z | z
  ·rcases List.mem_append.mp z with y | y
   ·exact h.dp r y
   ·rw [(List.mem_replicate.mp y).2];exact pl
  ·rw [(List.mem_replicate.mp z).2];exact pl
 ·rw [List.length_append,List.length_append,List.length_replicate,List.length_replicate]
  have:=h.len
  omega
 ·rw [fE,fE,aBW,aBW]
  have:=h.dn
  omega
theorem aKv {F:Pl->Prop} {i m n:Nat} {rs:List Rw} {wd:Str} (h:xV F (i + 1) m rs) (hi:i + 1<=4) (hm:m<=39) (hn:n<=12) (fd:F .dot) (fg:F (.grow (1 / 12))):Dp (4 - i) (clE wd n rs)/\dnR (clE wd n rs)<=Fc (m + 2)/\gwR 704 (clE wd n rs)/\alR F (clE wd n rs):=by
 obtain ⟨e1,e2,e3,e4,e5⟩:=aGP h fd fg
 have d4:4 - i = (4 - (i + 1)) + 1:=by omega
 have f2:=aKi m
 have fl:=aHw (m:=m)
 have hl:=h.len
 have hd:=h.dn
 have fm:=aGw (show m<=m + 2 by omega)
 unfold clE
 rw [d4]
 by_cases c1:wd = "again"
 ·rw [if_pos c1]
  refine ⟨⟨?_,by omega,h.dp⟩,?_,by rw [gwR];exact ⟨by omega,h.gw⟩,by rw [alR];exact h.al⟩
  ·split<;>omega
  ·rw [dnR]
   by_cases c:90 < n * dnS rs
   ·rw [if_pos c];omega
   ·rw [if_neg c,Nat.mul_comm];exact aFt hd hn (by omega)
 ·rw [if_neg c1]
  by_cases c2:wd = "ever"
  ·rw [if_pos c2]
   cases hb:enB (cT rs) with
   | true=>exact ⟨⟨by omega,e1⟩,by show dnR (.ev _)<=_;rw [dnR];omega,by show gwR _ (.ev _);rw [gwR];exact ⟨⟨xI _ (aHY hb),by omega⟩,e4⟩,by show alR _ (.ev _);rw [alR];exact e5⟩
   | false=>exact ⟨⟨by omega,e1⟩,by show dnR (.kp _)<=_;rw [dnR];omega,by show gwR _ (.kp _);rw [gwR];exact ⟨by omega,e4⟩,by show alR _ (.kp _);rw [alR];exact e5⟩
  ·rw [if_neg c2]
   exact ⟨⟨by omega,h.dp⟩,by rw [dnR];omega,by rw [gwR];exact ⟨by omega,h.gw⟩,by rw [alR];exact h.al⟩
theorem xV.blk {F:Pl->Prop} {i m k:Nat} {us:List Rw} {r:Rw} (h:xV F i m us) (k0:0 < k) (b1:Dp (4 - i) r) (b2:dnR r<=Fc k) (b3:gwR 704 r) (b4:alR F r):xV F i (m + k) (us ++ [r]):=by
 refine ⟨fun x hx=>?_,by rw [List.length_append];have:=h.len;show us.length + 1<=m + k;omega,?_,iN.mpr ⟨h.gw,by rw [gwS,gwS];exact ⟨b3,trivial⟩⟩,lP.mpr ⟨h.al,by rw [alS,alS];exact ⟨b4,trivial⟩⟩⟩
 ·rcases List.mem_append.mp hx with z | z
  ·exact h.dp x z
  ·rw [List.mem_singleton.mp z];exact b1
 ·rw [fE,dnS,dnS]
  have:=h.dn
  have:=aFg m k
  omega
noncomputable abbrev Es:=List (En × Nat)
noncomputable def esD (es:Es):List D:=es.map fun x=>enD x.1
noncomputable def wd3 (w:Str):Prop:=w = "again" ∨ w = "keep" ∨ w = "ever"
structure SI (F:Pl->Prop) (B M:DM) (st:Addr) (es:Es) (c:Nat):Prop where
 sub:aX B M
 new:B st = none
 hst:M st = some (esD es)
 len:es.length<=5
 sum:(es.map (·.2)).sum + es.length<=c + 1
 ent:∀ (i:Nat) x,es[i]? = some x->(xV F i x.2 x.1.rs/\M x.1.a = some (bI x.1.rs)/\B x.1.a = none)/\st ≠ x.1.a/\x.1.n<=12/\(0 < i->wd3 x.1.wd)
 nod:(es.map (·.1.a)).Nodup
theorem gG {B M M':DM} {as:List Addr} (s:aX B M) (k:dN M M' as) (n:∀ a ∈ as,B a = none):aX B M':=fun a x e=>k a (fun b hb z=>by rw [z,n b hb] at e;cases e) x (s _ _ e)
theorem hZ {α:Type} {xs:List α} {y:α} {i:Nat} {x:α} (h:(xs ++ [y])[i]? = some x):xs[i]? = some x ∨ (i = xs.length/\x = y):=by
 rw [List.getElem?_append] at h
 split at h
 ·exact .inl h
 ·rename_i l
  have:i - xs.length = 0:=by
   cases hk:i - xs.length with
   | zero=>rfl
   | succ k=>rw [hk] at h;simp at h
  rw [this] at h
  simp at h
  exact .inr ⟨by omega,h.symm⟩
theorem SI.top {F:Pl->Prop} {B M M':DM} {st:Addr} {es:Es} {u:En} {m m' c c':Nat} {rs':List Rw} (h:SI F B M st (es ++ [(u,m)]) c) (hs:M' st = some (esD (es ++ [(u,m)]))) (hu:M' u.a = some (bI rs')) (k:dN M M' [st,u.a]) (ok:xV F es.length m' rs') (hc:(es.map (·.2)).sum + m' + es.length<=c'):SI F B M' st (es ++ [({ u with rs:=rs' },m')]) c':=by
 have hend:(es ++ [(u,m)])[es.length]? = some (u,m):=by rw [List.getElem?_append_right (Nat.le_refl _)];simp
 have hu0:=h.ent _ _ hend
 refine ⟨gG h.sub k fun a ha=>?_,h.new,?_,?_,?_,fun i x hx=>?_,?_⟩
 ·rcases List.mem_cons.mp ha with rfl | z
  ·exact h.new
  ·rw [List.mem_singleton.mp z];exact hu0.1.2.2
 ·rw [hs];unfold esD;rw [List.map_append,List.map_append];rfl
 ·have:=h.len
  rw [List.length_append] at *;exact this
 ·rw [List.map_append,List.sum_append,List.length_append]
  simp
  omega
 ·rcases hZ hx with z | ⟨rfl,rfl⟩
  ·have hi:=(List.getElem?_eq_some_iff.mp z).1
   have hx0:(es ++ [(u,m)])[i]? = some x:=by rw [List.getElem?_append_left hi];exact z
   obtain ⟨⟨a1,a2,a3⟩,a4,a5⟩:=h.ent i x hx0
   refine ⟨⟨a1,k _ (fun b hb y=>?_) _ a2,a3⟩,a4,a5⟩
   rcases List.mem_cons.mp hb with rfl | z2
   ·cases y;exact a4 rfl
   ·rw [List.mem_singleton.mp z2] at y
    have nd:=h.nod
    rw [List.map_append,List.nodup_append] at nd
    have:=nd.2.2 x.1.a (List.mem_map.mpr ⟨x,List.mem_of_getElem? z,rfl⟩) u.a (by simp)
    exact this (by injection y)
  ·exact ⟨⟨ok,hu,hu0.1.2.2⟩,hu0.2.1,hu0.2.2.1,hu0.2.2.2⟩
 ·have nd:=h.nod
  rw [List.map_append] at *;exact nd
theorem SI.push {F:Pl->Prop} {B M M':DM} {st a:Addr} {es:Es} {wd:Str} {n c c':Nat} (h:SI F B M st es c) (hl:es.length < 5) (ha:M a = none) (hs:M' st = some (esD (es ++ [(⟨wd,n,a,[]⟩,0)]))) (hu:M' a = some []) (k:dN M M' [st,a]) (hw:wd3 wd) (hn:n<=12) (hc:c + 1<=c'):SI F B M' st (es ++ [(⟨wd,n,a,[]⟩,0)]) c':=by
 have fresh:∀ b:Addr,(∃ x,M b = some x)->b ≠ a:=fun b ⟨x,e⟩ z=>by rw [z,ha] at e;cases e
 have ba:B a = none:=by
  cases e:B a with
  | none=>rfl
  | some x=>rw [h.sub _ _ e] at ha;cases ha
 refine ⟨gG h.sub k fun b hb=>?_,h.new,hs,by rw [List.length_append];exact hl,?_,fun i x hx=>?_,?_⟩
 ·rcases List.mem_cons.mp hb with rfl | z
  ·exact h.new
  ·rw [List.mem_singleton.mp z];exact ba
 ·have:=h.sum
  rw [List.map_append,List.sum_append,List.length_append]
  simp
  omega
 ·rcases hZ hx with z | ⟨rfl,rfl⟩
  ·obtain ⟨⟨a1,a2,a3⟩,a4,a5⟩:=h.ent i x z
   refine ⟨⟨a1,k _ (fun b hb y=>?_) _ a2,a3⟩,a4,a5⟩
   rcases List.mem_cons.mp hb with rfl | z2
   ·exact a4 (by injection y with y;exact y.symm)
   ·rw [List.mem_singleton.mp z2] at y
    exact fresh _ ⟨_,a2⟩ (by injection y)
  ·refine ⟨⟨⟨(fun r hr=>nomatch hr),Nat.le_refl _,(by show dnS []<=_;rw [dnS];exact Nat.zero_le _),(by show gwS _ [];rw [gwS];trivial),(by show alS _ [];rw [alS];trivial)⟩,hu,ba⟩,fresh _ ⟨_,h.hst⟩,hn,fun _=>hw⟩
 ·rw [List.map_append,List.nodup_append]
  refine ⟨h.nod,by simp,fun b hb d hd=>?_⟩
  rw [List.mem_singleton.mp hd]
  obtain ⟨x,hx,rfl⟩:=List.mem_map.mp hb
  obtain ⟨i,hi⟩:=List.mem_iff_getElem?.mp hx
  exact fresh _ ⟨_,(h.ent i x hi).1.2.1⟩
theorem SI.close {F:Pl->Prop} {B M M':DM} {st:Addr} {es:Es} {u e:En} {m m' c:Nat} (h:SI F B M st (es ++ [(u,m),(e,m')]) c) (hs:M' st = some (esD (es ++ [(u,m)]))) (hu:M' u.a = some (bI (u.rs ++ [clE e.wd e.n e.rs]))) (kp:dN M M' [st,u.a]) (fd:F .dot) (fg:F (.grow (1 / 12))) (hc:c<=40):SI F B M' st (es ++ [({ u with rs:=u.rs ++ [clE e.wd e.n e.rs] },m + (m' + 2))]) (c + 1):=by
 have spl:es ++ [(u,m),(e,m')] = (es ++ [(u,m)]) ++ [(e,m')]:=by simp
 rw [spl] at h
 have he:((es ++ [(u,m)]) ++ [(e,m')])[(es ++ [(u,m)]).length]? = some (e,m'):=by rw [List.getElem?_append_right (Nat.le_refl _)];simp
 have he0:=h.ent _ _ he
 have hun:((es ++ [(u,m)]) ++ [(e,m')])[es.length]? = some (u,m):=by
  rw [List.getElem?_append_left (by rw [List.length_append];show _ < _ + 1;omega),List.getElem?_append_right (Nat.le_refl _)];simp
 have hu0:=h.ent _ _ hun
 have sm:=h.sum
 have ln:=h.len
 rw [List.map_append,List.map_append,List.sum_append,List.sum_append,List.length_append,List.length_append] at sm
 simp at sm
 rw [List.length_append,List.length_append] at ln
 simp at ln
 have l1:(es ++ [(u,m)]).length = es.length + 1:=by rw [List.length_append];rfl
 rw [l1] at he0
 obtain ⟨b1,b2,b3,b4⟩:=aKv (wd:=e.wd) (n:=e.n) he0.1.1 (by omega) (by show m'<=39;omega) he0.2.2.1 fd fg
 have ok:=hu0.1.1.blk (k:=m' + 2) (by omega) b1 b2 b3 b4
 refine ⟨gG h.sub kp fun a ha=>?_,h.new,?_,by rw [List.length_append];show es.length + 1<=5;omega,?_,fun i x hx=>?_,?_⟩
 ·rcases List.mem_cons.mp ha with rfl | z
  ·exact h.new
  ·rw [List.mem_singleton.mp z];exact hu0.1.2.2
 ·rw [hs];unfold esD;rw [List.map_append,List.map_append];rfl
 ·rw [List.map_append,List.sum_append,List.length_append]
  simp
  omega
 ·rcases hZ hx with z | ⟨rfl,rfl⟩
  ·have hi:=(List.getElem?_eq_some_iff.mp z).1
   have hx0:((es ++ [(u,m)]) ++ [(e,m')])[i]? = some x:=by
    rw [List.getElem?_append_left (by rw [l1];omega),List.getElem?_append_left hi];exact z
   obtain ⟨⟨a1,a2,a3⟩,a4,a5⟩:=h.ent i x hx0
   refine ⟨⟨a1,kp _ (fun b hb y=>?_) _ a2,a3⟩,a4,a5⟩
   rcases List.mem_cons.mp hb with rfl | z2
   ·exact a4 (by injection y with y;exact y.symm)
   ·rw [List.mem_singleton.mp z2] at y
    have nd:=h.nod
    rw [List.map_append,List.nodup_append,List.map_append,List.nodup_append] at nd
    exact nd.1.2.2 x.1.a (List.mem_map.mpr ⟨x,List.mem_of_getElem? z,rfl⟩) u.a (by simp) (by injection y)
  ·exact ⟨⟨ok,hu,hu0.1.2.2⟩,hu0.2.1,hu0.2.2.1,hu0.2.2.2⟩
 ·have nd:=h.nod
  rw [List.map_append,List.nodup_append] at nd
  have:=nd.1
  rw [List.map_append] at *;exact this
noncomputable def aAQ:D:=.tup [.int 0,.int 1]
noncomputable def dP:DSp:=fun ds M Q=>∃ x y t,ds = [PQ x y,.int t]/\Q (FR x y t 1 1) M
noncomputable abbrev qB:Stmt:=top 22
theorem aBe:aS ["place","turns"] ["place","turns"] (aK qB):=⟨rfl,rfl,rfl,by decide +kernel,rfl,by decide +kernel,by decide +kernel⟩
theorem aAM (hF:cA K mg "at_place" qB ["place","turns"]) (mF:gH K mg "ONE" aFJ):Has P w K mg base 101 "at_place" ["place","turns"] dP:=by
 refine Has.mkZ hF aBe (fun ds M Q ⟨a,b,c,z,_⟩=>by rw [z];rfl) fun f cdv A outer s H ds M Q E hr h=>?_
 obtain ⟨x,y,t,rfl,q⟩:=h
 refine ⟨_,(aG (aP (aI (aA (aB 0) (aA (aB 1) (aA aC (aA (bJ mF) aD))))))),?_⟩
 decreasing_tactic
 exact ⟨by decide,M,.refl _,q⟩
noncomputable def fK (B:Nat) (ok:Pl->Prop):DSp:=fun ds M Q=>∃ p,ds = [plD p]/\ok p/\plB B p/\Q (.tup [lgO (gZ p),FmD (bD p)]) M
theorem eL {B:Nat} {ok:Pl->Prop} (ds:List D) (M:DM) (Q:DQ) (h:fK B ok ds M Q):ds.length = 1:=by obtain ⟨p,rfl,_⟩:=h;rfl
noncomputable def lW:DSp:=fun ds M Q=>∃ (x:Str) (a b:Rat),ds = [.tup [.str x,FQ a,FQ b]]/\Q (.tup [lgD (.st 0 0 a b),FmD ⟨a,b,0,1,1⟩]) M
noncomputable abbrev mX:Stmt:=top 24
theorem qQ:aS ["row","place"] ["row"] (aK mX):=⟨rfl,rfl,rfl,by decide +kernel,rfl,by decide +kernel,by decide +kernel⟩
theorem xX (hF:cA K mg "side_deed" mX ["row"]) (bB:gH K mg "MIDDLE" rT) (bF:Has P w K mg base 101 "at_place" ["place","turns"] dP):Has P w K mg base 102 "side_deed" ["row"] lW:=by
 refine Has.mkZ hF qQ (fun ds M Q ⟨a,b,c,z,_⟩=>by rw [z];rfl) fun f cdv A outer s H ds M Q E hr h=>?_
 obtain ⟨x,a,b,rfl,q⟩:=h
 refine ⟨_,(aE (aM (i:=1) qQ.nd (aI (aA (aH (aB 0) aC) (aA (aH (aB 0) aC) aD))))
  (aG (aP (aI (aA (aI (aA aL (aA (bJ bB) (aA (aB 1) aD)))) (aA (aF bF hr (by decide) (aA (aB 1) (aA aC aD))) aD)))))),?_⟩
 decreasing_tactic
 refine ⟨by decide,by decide,a,b,0,rfl,?_⟩
 decreasing_tactic
 exact ⟨by decide,M,.refl _,q⟩
noncomputable def uP:DSp:=fK 900 fun p=>∃ a,p = .go a
noncomputable abbrev rS:Stmt:=top 23
theorem aBU:aS ["row"] ["row"] (aK rS):=⟨rfl,rfl,rfl,by decide +kernel,rfl,by decide +kernel,by decide +kernel⟩
theorem aA9 (hF:cA K mg "go_deed" rS ["row"]) (cZ:gH K mg "NOTHING" aAQ) (fU:Has P w K mg base 102 "side_deed" ["row"] lW):Has P w K mg base 103 "go_deed" ["row"] uP:=by
 refine Has.mkZ hF aBU eL fun f cdv A outer s H ds M Q E hr h=>?_
 obtain ⟨p,rfl,⟨a,rfl⟩,b,q⟩:=h
 refine ⟨_,(aG (aP (aF fU hr (by decide) (aA (aI (aA aL (aA (aH (aB 0) aC) (aA (bJ cZ) aD)))) aD)))),?_⟩
 dsimp only [plD]
 decreasing_tactic
 refine ⟨by decide,"side",a,0,rfl,?_⟩
 exact ⟨M,.refl _,q⟩
noncomputable def rK:DSp:=fK 900 fun p=>∃ a,p = .skip a
noncomputable abbrev mM:Stmt:=top 25
theorem aAh:aS ["row"] ["row"] (aK mM):=⟨rfl,rfl,rfl,by decide +kernel,rfl,by decide +kernel,by decide +kernel⟩
theorem yB (hF:cA K mg "skip_deed" mM ["row"]) (cZ:gH K mg "NOTHING" aAQ) (bF:Has P w K mg base 101 "at_place" ["place","turns"] dP):Has P w K mg base 103 "skip_deed" ["row"] rK:=by
 refine Has.mkZ hF aAh eL fun f cdv A outer s H ds M Q E hr h=>?_
 obtain ⟨p,rfl,⟨a,rfl⟩,b,q⟩:=h
 refine ⟨_,(aG (aP (aI (aA gY (aA (aF bF hr (by decide) (aA (aI (aA (aH (aB 0) aC) (aA (bJ cZ) aD))) (aA aC aD))) aD))))),?_⟩
 dsimp only [plD]
 decreasing_tactic
 refine ⟨by decide,a,0,0,rfl,?_⟩
 decreasing_tactic
 exact ⟨by decide,M,.refl _,q⟩
noncomputable def sX:DSp:=fK 900 fun p=>p = .dot
noncomputable abbrev pC:Stmt:=top 26
theorem aBD:aS ["row"] ["row"] (aK pC):=⟨rfl,rfl,rfl,by decide +kernel,rfl,by decide +kernel,by decide +kernel⟩
theorem zK (hF:cA K mg "dot_deed" pC ["row"]) (bB:gH K mg "MIDDLE" rT) (iJ:Has P w K mg base 101 "first" [] qP):Has P w K mg base 103 "dot_deed" ["row"] sX:=by
 refine Has.mkZ hF aBD eL fun f cdv A outer s H ds M Q E hr h=>?_
 obtain ⟨p,rfl,rfl,b,q⟩:=h
 refine ⟨_,(aG (aP (aI (aA (aI (aA aL (aA (bJ bB) (aA (bJ bB) aD)))) (aA (lS iJ hr (by decide)) aD))))),?_⟩
 decreasing_tactic
 refine ⟨by decide,rfl,?_⟩
 decreasing_tactic
 exact ⟨by decide,M,.refl _,q⟩
noncomputable def qF:DSp:=fK 900 fun p=>p = .left
noncomputable abbrev nS:Stmt:=top 27
theorem zW:aS ["row"] ["row"] (aK nS):=⟨rfl,rfl,rfl,by decide +kernel,rfl,by decide +kernel,by decide +kernel⟩
theorem yA (hF:cA K mg "left_deed" nS ["row"]) (bB:gH K mg "MIDDLE" rT) (bF:Has P w K mg base 101 "at_place" ["place","turns"] dP):Has P w K mg base 103 "left_deed" ["row"] qF:=by
 refine Has.mkZ hF zW eL fun f cdv A outer s H ds M Q E hr h=>?_
 obtain ⟨p,rfl,rfl,b,q⟩:=h
 refine ⟨_,(aG (aP (aI (aA gY (aA (aF bF hr (by decide) (aA (bJ bB) (aA aC aD))) aD))))),?_⟩
 decreasing_tactic
 refine ⟨0,0,1,rfl,?_⟩
 decreasing_tactic
 exact ⟨by decide,M,.refl _,q⟩
noncomputable def oW:DSp:=fK 900 fun p=>p = .rnd
noncomputable abbrev kT:Stmt:=top 28
theorem xY:aS ["row"] ["row"] (aK kT):=⟨rfl,rfl,rfl,by decide +kernel,rfl,by decide +kernel,by decide +kernel⟩
theorem wB (hF:cA K mg "round_deed" kT ["row"]) (bB:gH K mg "MIDDLE" rT) (bF:Has P w K mg base 101 "at_place" ["place","turns"] dP):Has P w K mg base 103 "round_deed" ["row"] oW:=by
 refine Has.mkZ hF xY eL fun f cdv A outer s H ds M Q E hr h=>?_
 obtain ⟨p,rfl,rfl,b,q⟩:=h
 refine ⟨_,(aG (aP (aI (aA gY (aA (aF bF hr (by decide) (aA (bJ bB) (aA aC aD))) aD))))),?_⟩
 decreasing_tactic
 refine ⟨0,0,2,rfl,?_⟩
 decreasing_tactic
 exact ⟨by decide,M,.refl _,q⟩
noncomputable def oZ:DSp:=fK 900 fun p=>p = .right
noncomputable abbrev lD:Stmt:=top 29
theorem yE:aS ["row"] ["row"] (aK lD):=⟨rfl,rfl,rfl,by decide +kernel,rfl,by decide +kernel,by decide +kernel⟩
theorem wK (hF:cA K mg "right_deed" lD ["row"]) (bB:gH K mg "MIDDLE" rT) (bF:Has P w K mg base 101 "at_place" ["place","turns"] dP):Has P w K mg base 103 "right_deed" ["row"] oZ:=by
 refine Has.mkZ hF yE eL fun f cdv A outer s H ds M Q E hr h=>?_
 obtain ⟨p,rfl,rfl,b,q⟩:=h
 refine ⟨_,(aG (aP (aI (aA gY (aA (aF bF hr (by decide) (aA (bJ bB) (aA aC aD))) aD))))),?_⟩
 decreasing_tactic
 refine ⟨0,0,3,rfl,?_⟩
 decreasing_tactic
 exact ⟨by decide,M,.refl _,q⟩
noncomputable def nW:DSp:=fK 900 fun p=>p = .mirror
noncomputable abbrev jU:Stmt:=top 30
theorem wV:aS ["row"] ["row"] (aK jU):=⟨rfl,rfl,rfl,by decide +kernel,rfl,by decide +kernel,by decide +kernel⟩
theorem tO (hF:cA K mg "mirror_deed" jU ["row"]) (bB:gH K mg "MIDDLE" rT) (mF:gH K mg "ONE" aFJ):Has P w K mg base 103 "mirror_deed" ["row"] nW:=by
 refine Has.mkZ hF wV eL fun f cdv A outer s H ds M Q E hr h=>?_
 obtain ⟨p,rfl,rfl,b,q⟩:=h
 refine ⟨_,(aG (aP (aI (aA gY (aA (aI (aA (bJ bB) (aA aC (aA (cQ aC) (aA (bJ mF) aD))))) aD))))),?_⟩
 decreasing_tactic
 exact ⟨by decide,by decide,M,.refl _,q⟩
noncomputable def rE:DSp:=fK 900 fun p=>∃ a,p = .grow a
noncomputable abbrev mQ:Stmt:=top 31
theorem aAH:aS ["row"] ["row"] (aK mQ):=⟨rfl,rfl,rfl,by decide +kernel,rfl,by decide +kernel,by decide +kernel⟩
theorem yC (hF:cA K mg "grow_deed" mQ ["row"]) (bB:gH K mg "MIDDLE" rT):Has P w K mg base 103 "grow_deed" ["row"] rE:=by
 refine Has.mkZ hF aAH eL fun f cdv A outer s H ds M Q E hr h=>?_
 obtain ⟨p,rfl,⟨a,rfl⟩,b,q⟩:=h
 refine ⟨_,(aG (aP (aI (aA gY (aA (aI (aA (bJ bB) (aA aC (aA aC (aA (aH (aB 0) aC) aD))))) aD))))),?_⟩
 dsimp only [plD]
 decreasing_tactic
 exact ⟨by decide,by decide,M,.refl _,q⟩
theorem eG {a:Rat}:0 < a.num ↔ 0 < a:=by rw [Rat.lt_iff];simp
noncomputable def mG:DSp:=fK 900 fun p=>∃ a,p = .quarter a
noncomputable abbrev jB:Stmt:=top 32
theorem iA:aS ["row","a","place"] ["row"] (aK jB):=⟨rfl,rfl,rfl,by decide +kernel,rfl,by decide +kernel,by decide +kernel⟩
theorem rX (hF:cA K mg "quarter_deed" jB ["row"]) (bB:gH K mg "MIDDLE" rT) (cZ:gH K mg "NOTHING" aAQ) (bF:Has P w K mg base 101 "at_place" ["place","turns"] dP):Has P w K mg base 103 "quarter_deed" ["row"] mG:=by
 refine Has.mkZ hF iA eL fun f cdv A outer s H ds M Q E hr h=>?_
 obtain ⟨p,rfl,⟨a,rfl⟩,b,q⟩:=h
 refine ⟨_,(aE (aM (i:=1) iA.nd (aH (aB 0) aC))
  (aE (bC (aQ jP (aH (aB 1) aC) aC) (aG (aP (aI (aA (aI (aA aL (aA (aI (aA (bJ cZ) (aA (aB 1) aD))) (aA (bJ bB) (aA (aI (aA (aB 1) (aA (aB 1) aD))) (aA aC aD)))))) (aA (aF bF hr (by decide) (aA (aI (aA (aB 1) (aA (aB 1) aD))) (aA aC aD))) aD))))) aW)
  (aE (aM (i:=2) iA.nd (aI (aA (aI (aA (cQ (aH (aB 1) aC)) (aA (aH (aB 1) aC) aD))) (aA (aB 1) aD))))
  (aG (aP (aI (aA (aI (aA aL (aA (aI (aA (bJ cZ) (aA (aB 1) aD))) (aA (bJ bB) (aA (aB 2) (aA (cQ aC) aD)))))) (aA (aF bF hr (by decide) (aA (aB 2) (aA aC aD))) aD)))))))),?_⟩
 dsimp only [plD]
 decreasing_tactic
 dsimp only [gZ,bD] at q
 by_cases c:0 < a
 ·rw [if_pos c,if_pos c] at q
  refine ifT (decide_eq_true (eG.mpr c)) ⟨by decide,by decide,by decide,by decide,a,a,1,rfl,?_⟩
  decreasing_tactic
  exact ⟨by decide,M,.refl _,q⟩
 ·rw [if_neg c,if_neg c] at q
  refine ifF (decide_eq_false fun z=>c (eG.mp z)) ⟨by decide,by decide,by decide,by decide,?_⟩
  rw [uF]
  refine ⟨-a,a,3,rfl,?_⟩
  decreasing_tactic
  exact ⟨by decide,M,.refl _,q⟩
noncomputable def qY:DSp:=fK 900 fun p=>∃ a,p = .half a
noncomputable abbrev nK:Stmt:=top 33
theorem qX:aS ["row","place"] ["row"] (aK nK):=⟨rfl,rfl,rfl,by decide +kernel,rfl,by decide +kernel,by decide +kernel⟩
theorem xS (hF:cA K mg "half_deed" nK ["row"]) (bB:gH K mg "MIDDLE" rT) (cZ:gH K mg "NOTHING" aAQ) (pI:Has P w K mg base 102 "plus" ["one","other"] tV) (bF:Has P w K mg base 101 "at_place" ["place","turns"] dP):Has P w K mg base 103 "half_deed" ["row"] qY:=by
 refine Has.mkZ hF qX eL fun f cdv A outer s H ds M Q E hr h=>?_
 obtain ⟨p,rfl,⟨a,rfl⟩,b,q⟩:=h
 refine ⟨_,(aE (aM (i:=1) qX.nd (aI (aA (bJ cZ) (aA (aF pI hr (by decide) (aA (aH (aB 0) aC) (aA (aH (aB 0) aC) aD))) aD))))
  (aG (aP (aI (aA (aI (aA aL (aA (aI (aA (bJ cZ) (aA (aH (aB 0) aC) aD))) (aA (bJ bB) (aA (aB 1) (aA (iR (aQ jP (aH (aH (aB 0) aC) aC) aC) aC (cQ aC)) aD)))))) (aA (aF bF hr (by decide) (aA (aB 1) (aA aC aD))) aD)))))),?_⟩
 dsimp only [plD]
 decreasing_tactic
 dsimp only [gZ,bD] at q
 refine ⟨a,a,900,900,rfl,trivial,b.1,b.1,by decide,by decide,by decide,?_⟩
 decreasing_tactic
 by_cases c:0 < a
 ·rw [if_pos c] at q
  refine ifT (decide_eq_true (eG.mpr c)) ⟨by decide,0,a + a,2,rfl,?_⟩
  decreasing_tactic
  exact ⟨by decide,M,.refl _,q⟩
 ·rw [if_neg c] at q
  refine ifF (decide_eq_false fun z=>c (eG.mp z)) ⟨by decide,0,a + a,2,rfl,?_⟩
  decreasing_tactic
  exact ⟨by decide,M,.refl _,q⟩
noncomputable def tI:DSp:=fK 900 fun p=>∃ a b c d,p = .arc a b c d
noncomputable abbrev pX:Stmt:=top 34
theorem tF:aS ["row","place"] ["row"] (aK pX):=⟨rfl,rfl,rfl,by decide +kernel,rfl,by decide +kernel,by decide +kernel⟩
theorem aAf (hF:cA K mg "arc_deed" pX ["row"]) (bB:gH K mg "MIDDLE" rT) (bF:Has P w K mg base 101 "at_place" ["place","turns"] dP):Has P w K mg base 103 "arc_deed" ["row"] tI:=by
 refine Has.mkZ hF tF eL fun f cdv A outer s H ds M Q E hr h=>?_
 obtain ⟨p,rfl,⟨a,b,c,d,rfl⟩,bb,q⟩:=h
 refine ⟨_,(aE (aM (i:=1) tF.nd (aI (aA (aH (aB 0) aC) (aA (aH (aB 0) aC) aD))))
  (aG (aP (aI (aA (aI (aA aL (aA (aI (aA (aH (aB 0) aC) (aA (aH (aB 0) aC) aD))) (aA (bJ bB) (aA (aB 1) (aA aC aD)))))) (aA (aF bF hr (by decide) (aA (aB 1) (aA aC aD))) aD)))))),?_⟩
 dsimp only [plD]
 decreasing_tactic
 refine ⟨by decide,by decide,by decide,c,d,0,rfl,?_⟩
 decreasing_tactic
 exact ⟨by decide,M,.refl _,q⟩
noncomputable def aKy:List (Str × Str):=[("go","go_deed"),("skip","skip_deed"),("side","side_deed"),("dot","dot_deed"),("left","left_deed"),("right","right_deed"),("round","round_deed"),("mirror","mirror_deed"),("grow","grow_deed"),("quarter","quarter_deed"),("half","half_deed"),("arc","arc_deed")]
noncomputable def lO:DSp:=fK 900 fun _=>True
noncomputable abbrev sA:Stmt:=top 36
theorem wN:aS ["row","deed"] ["row"] (aK sA):=⟨rfl,rfl,rfl,by decide +kernel,rfl,by decide +kernel,by decide +kernel⟩
theorem aBv (hF:cA K mg "deed_of" sA ["row"]) (zT:aGH w K mg "DEEDS" aKy) (sS:Has P w K mg base 103 "go_deed" ["row"] uP) (fU:Has P w K mg base 102 "side_deed" ["row"] lW) (mP:Has P w K mg base 103 "skip_deed" ["row"] rK) (pN:Has P w K mg base 103 "dot_deed" ["row"] sX) (mO:Has P w K mg base 103 "left_deed" ["row"] qF) (lT:Has P w K mg base 103 "round_deed" ["row"] oW) (lY:Has P w K mg base 103 "right_deed" ["row"] oZ) (jY:Has P w K mg base 103 "mirror_deed" ["row"] nW) (nR:Has P w K mg base 103 "grow_deed" ["row"] rE) (jA:Has P w K mg base 103 "quarter_deed" ["row"] mG) (oH:Has P w K mg base 103 "half_deed" ["row"] qY) (pJ:Has P w K mg base 103 "arc_deed" ["row"] tI):Has P w K mg base 104 "deed_of" ["row"] lO:=by
 refine Has.mkZ hF wN eL fun f cdv A outer s H ds M Q E hr h=>?_
 obtain ⟨p,rfl,_,b,q⟩:=h
 refine ⟨_,(aE (aM (i:=1) wN.nd (aGM zT (aH (aB 0) aC)))
  (aG (aP (aDs (j:=103) (aB 1) hr (by decide) (aA (aB 0) aD))))),?_⟩
 have q':=bW q
 cases p with
 | go a=>exact ⟨"go_deed",rfl,fun f hf=>⟨_,_,_,hf,sS,_,rfl,⟨a,rfl⟩,b,q'⟩⟩
 | side a c=>exact ⟨"side_deed",rfl,fun f hf=>⟨_,_,_,hf,fU.mono (by decide),_,a,c,rfl,q'⟩⟩
 | skip a=>exact ⟨"skip_deed",rfl,fun f hf=>⟨_,_,_,hf,mP,_,rfl,⟨a,rfl⟩,b,q'⟩⟩
 | dot=>exact ⟨"dot_deed",rfl,fun f hf=>⟨_,_,_,hf,pN,_,rfl,rfl,b,q'⟩⟩
 | left=>exact ⟨"left_deed",rfl,fun f hf=>⟨_,_,_,hf,mO,_,rfl,rfl,b,q'⟩⟩
 | right=>exact ⟨"right_deed",rfl,fun f hf=>⟨_,_,_,hf,lY,_,rfl,rfl,b,q'⟩⟩
 | rnd=>exact ⟨"round_deed",rfl,fun f hf=>⟨_,_,_,hf,lT,_,rfl,rfl,b,q'⟩⟩
 | mirror=>exact ⟨"mirror_deed",rfl,fun f hf=>⟨_,_,_,hf,jY,_,rfl,rfl,b,q'⟩⟩
 | grow a=>exact ⟨"grow_deed",rfl,fun f hf=>⟨_,_,_,hf,nR,_,rfl,⟨a,rfl⟩,b,q'⟩⟩
 | quarter a=>exact ⟨"quarter_deed",rfl,fun f hf=>⟨_,_,_,hf,jA,_,rfl,⟨a,rfl⟩,b,q'⟩⟩
 | half a=>exact ⟨"half_deed",rfl,fun f hf=>⟨_,_,_,hf,oH,_,rfl,⟨a,rfl⟩,b,q'⟩⟩
 | arc a c d e=>exact ⟨"arc_deed",rfl,fun f hf=>⟨_,_,_,hf,pJ,_,rfl,⟨a,c,d,e,rfl⟩,b,q'⟩⟩
noncomputable def eV:DSp:=fun ds M Q=>∃ r,ds = [rwD r]/\Q (inR r) M
noncomputable abbrev jV:Stmt:=top 38
theorem xH:aS ["row"] ["row"] (aK jV):=⟨rfl,rfl,rfl,by decide +kernel,rfl,by decide +kernel,by decide +kernel⟩
theorem tR (hF:cA K mg "rows_within" jV ["row"]):Has P w K mg base 101 "rows_within" ["row"] eV:=by
 refine Has.mkZ hF xH (fun ds M Q ⟨a,z,_⟩=>by rw [z];rfl) fun f cdv A outer s H ds M Q E hr h=>?_
 obtain ⟨r,rfl,q⟩:=h
 refine ⟨_,(aE (bC (aQ (cN hr) (aH (aB 0) aC) aL) (aG (aP (aH (aB 0) aC))) aW)
  (aG (aP (iR (mJ (uJ (aQ (cN hr) (aH (aB 0) aC) aL) (qW (aQ (cN hr) (aH (aB 0) aC) aL)))) (aH (aB 0) aC) gY)))),?_⟩
 have q':=bW q
 cases r with
 | pl p =>
  cases p<;>(dsimp only [rwD,plD];decreasing_tactic;rw [aO];refine ifF (by decide) ?_;rw [aO];refine ifF (by decide) ?_;rw [aO];exact ifF (by decide) q')
 | ag n rs =>
  dsimp only [rwD]
  decreasing_tactic
  rw [aO]
  exact ifT (by decide) q'
 | kp rs =>
  dsimp only [rwD]
  decreasing_tactic
  rw [aO]
  refine ifF (by decide) ?_
  rw [aO]
  exact ifT (by decide) q'
 | ev rs =>
  dsimp only [rwD]
  decreasing_tactic
  rw [aO]
  refine ifF (by decide) ?_
  rw [aO]
  refine ifF (by decide) ?_
  rw [aO]
  exact ifT (by decide) q'
noncomputable def tW (d:Nat):DSp:=fun ds M Q=>∃ rs,ds = [.tup (bI rs)]/\DpS d rs/\Q (.int (dnS rs:Int)) M
noncomputable abbrev iC:Stmt:=top 41
theorem cV:aS ["rows","many","row","within"] ["rows"] (aK iC):=⟨rfl,rfl,rfl,by decide +kernel,rfl,by decide +kernel,by decide +kernel⟩
theorem rL (hF:cA K mg "how_many_done" iC ["rows"]) (cI:Has P w K mg base 101 "rows_within" ["row"] eV):Has P w K mg base 118 "how_many_done" ["rows"] (tW 8):=by
 have all:∀ d,Has P w K mg base (110 + d) "how_many_done" ["rows"] (tW d):=fun d=>by
  induction d with
  | zero=>exact (Has.never hF cV 109).imp fun ds M Q ⟨rs,_,z,_⟩=>z
  | succ d cS =>
   refine Has.mkZ (k:=110 + d) hF cV (fun ds M Q ⟨a,z,_⟩=>by rw [z];rfl) fun f cdv A outer s H ds M Q E hr h=>?_
   obtain ⟨rs,rfl,dp,q⟩:=h
   refine ⟨_,(aE (aM (i:=1) cV.nd aC)
  (aE (vC PassesOwn.never rfl (aB 0) (aR (i:=2) cV.nd) (aE (aM (i:=3) cV.nd (aF cI hr (by omega) (aA (aB 2) aD)))
  (aG (bC (aQ aHz (aB 3) gY) (aG (rD (i:=1) aCf cV.nd aC)) (aG (rD (i:=1) aCf cV.nd (aN cB (aF cS hr (by omega) (aA (aB 3) aD)) (iR (aQ (cN hr) (aH (aB 2) aC) aL) (aH (aB 2) aC) aC))))))))
  (aG (aP (aB 1))))),?_⟩
   decreasing_tactic
   refine ⟨fun i ρ M'=>M' = M/\∃ o1 o2,ρ = [some (.tup (bI rs)),some (.int (dnS (rs.take i):Int)),o1,o2],⟨rfl,_,_,rfl⟩,fun i ρ M' _ _ a e=>(by cases e),?_,?_⟩
   ·rintro i d1 ρ M' hd ⟨rfl,o1,o2,rfl⟩
    obtain ⟨r,hr',rfl⟩:=iX hd
    have dr:=dp.2 r (List.mem_of_getElem? hr')
    decreasing_tactic
    refine ⟨r,rfl,?_⟩
    have fin:dnS (rs.take (i + 1)) = dnS (rs.take i) + dnR r:=by rw [dR hr',fE,dnS,dnS,Nat.add_zero]
    rw [fin]
    cases r with
    | pl p =>
     dsimp only [inR,dnR]
     decreasing_tactic
     exact ifT rfl ⟨rfl,_,_,rfl⟩
    | ag n ws =>
     obtain ⟨hn,dw⟩:=vH dr
     dsimp only [inR,dnR,rwD]
     decreasing_tactic
     refine ifF rfl ⟨ws,rfl,dw,?_⟩
     decreasing_tactic
     rw [aO]
     refine ifT (by decide) ⟨pQ (by unfold Bd;omega),?_⟩
     rw [Int.natCast_add,Int.natCast_mul]
     exact ⟨rfl,_,_,rfl⟩
    | kp ws =>
     have dw:=yG dr
     dsimp only [inR,dnR,rwD]
     decreasing_tactic
     refine ifF rfl ⟨ws,rfl,dw,?_⟩
     decreasing_tactic
     rw [aO]
     refine ifF (by decide) ⟨pQ (by unfold Bd;decide),?_⟩
     rw [Int.natCast_add,Int.mul_one]
     exact ⟨rfl,_,_,rfl⟩
    | ev ws =>
     have dw:=aBm dr
     dsimp only [inR,dnR,rwD]
     decreasing_tactic
     refine ifF rfl ⟨ws,rfl,dw,?_⟩
     decreasing_tactic
     rw [aO]
     refine ifF (by decide) ⟨pQ (by unfold Bd;decide),?_⟩
     rw [Int.natCast_add,Int.mul_one]
     exact ⟨rfl,_,_,rfl⟩
   ·rintro ρ M' ⟨rfl,o1,o2,rfl⟩
    rw [dI,List.take_length]
    exact bW q
 exact all 8
noncomputable def kX (d:Nat):DSp:=fun ds M Q=>∃ rs,ds = [.tup (bI rs)]/\DpS d rs/\Q (.int (nmS rs)) M
noncomputable def sB (d:Nat):DSp:=fun ds M Q=>∃ r,ds = [rwD r]/\Dp d r/\Q (.int (nmR r)) M
noncomputable abbrev dM:Stmt:=top 39
theorem iE:aS ["row","rows"] ["row"] (aK dM):=⟨rfl,rfl,rfl,by decide +kernel,rfl,by decide +kernel,by decide +kernel⟩
theorem gJ {d:Nat} (hF:cA K mg "how_many_numbers" dM ["row"]) (cI:Has P w K mg base 101 "rows_within" ["row"] eV) (dS:Has P w K mg base (110 + 2 * d) "numbers_of_rows" ["rows"] (kX d)):Has P w K mg base (110 + 2 * d + 1) "how_many_numbers" ["row"] (sB d):=by
 refine Has.mkZ hF iE (fun ds M Q ⟨a,z,_⟩=>by rw [z];rfl) fun f cdv A outer s H ds M Q E hr h=>?_
 obtain ⟨r,rfl,dp,q⟩:=h
 refine ⟨_,(aE (aM (i:=1) iE.nd (aF cI hr (by omega) (aA (aB 0) aD)))
  (aE (bC (aQ aHz (aB 1) gY) (aG (aP aC)) aW)
  (aG (aP (aN cP aC (aF dS hr (by omega) (aA (aB 1) aD))))))),?_⟩
 decreasing_tactic
 refine ⟨r,rfl,?_⟩
 have q':=bW q
 cases r with
 | pl p =>
  dsimp only [inR]
  decreasing_tactic
  exact ifT rfl q'
 | ag n ws =>
  dsimp only [inR]
  decreasing_tactic
  exact ifF rfl ⟨ws,rfl,(vH dp).2,q'⟩
 | kp ws =>
  dsimp only [inR]
  decreasing_tactic
  exact ifF rfl ⟨ws,rfl,yG dp,q'⟩
 | ev ws =>
  dsimp only [inR]
  decreasing_tactic
  exact ifF rfl ⟨ws,rfl,aBm dp,q'⟩
noncomputable abbrev eR:Stmt:=top 40
theorem jF:aS ["rows"] ["rows"] (aK eR):=⟨rfl,rfl,rfl,by decide +kernel,rfl,by decide +kernel,by decide +kernel⟩
theorem oR (hF:cA K mg "numbers_of_rows" eR ["rows"]) (hF_how_many_numbers:cA K mg "how_many_numbers" dM ["row"]) (cI:Has P w K mg base 101 "rows_within" ["row"] eV) (aD2:mg "sum" = none):Has P w K mg base 126 "numbers_of_rows" ["rows"] (kX 8):=by
 have all:∀ d,Has P w K mg base (110 + 2 * d) "numbers_of_rows" ["rows"] (kX d):=fun d=>by
  induction d with
  | zero=>exact (Has.never hF jF 109).imp fun ds M Q ⟨rs,_,z,_⟩=>z
  | succ d ih =>
   have dL:=gJ hF_how_many_numbers cI ih
   refine Has.mkZ (k:=110 + 2 * d + 1) hF jF (fun ds M Q ⟨a,z,_⟩=>by rw [z];rfl) fun f cdv A outer s H ds M Q E hr h=>?_
   obtain ⟨rs,rfl,dp,q⟩:=h
   refine ⟨_,(aG (aP (eC (aJy rfl) aD2 (aA (zO (⟨rfl,by decide +kernel,by decide +kernel,by decide +kernel,rfl,by decide +kernel⟩:mH ["rows"] (aK eR) ["row"] [none] _) rfl (aB 0) (fun _ _ _ _ _=>(aR (i:=0) (show List.Nodup (["row"]:List Str) by decide +kernel))) (fun _ _ _ _ _=>(aF dL hr (by omega) (aA (aB 0) aD)))) aD)))),?_⟩
   decreasing_tactic
   refine ⟨by rw [dI];exact dp.1,fun i ys M'=>M' = M/\ys = ((rs.take i).map nmR).map D.int,⟨rfl,rfl⟩,fun i ys M' _ _ a e=>(by cases e),?_,?_⟩
   ·rintro i d1 ys M' hd ⟨rfl,rfl⟩
    obtain ⟨r,hr',rfl⟩:=iX hd
    decreasing_tactic
    refine ⟨r,rfl,dp.2 r (List.mem_of_getElem? hr'),rfl,?_⟩
    rw [dR hr']
    simp
   ·rintro ys M' hl ⟨rfl,rfl⟩ p hp
    refine ⟨rs.map nmR,?_,?_⟩
    ·rw [aJ,dI,List.take_length]
    ·rw [<- aC3]
     exact ⟨_,aX.new hp _,q⟩
 exact all 8
theorem mK (hF:cA K mg "how_many_numbers" dM ["row"]) (cI:Has P w K mg base 101 "rows_within" ["row"] eV) (dS:Has P w K mg base 126 "numbers_of_rows" ["rows"] (kX 8)):Has P w K mg base 127 "how_many_numbers" ["row"] (sB 8):=by
 exact gJ (d:=8) hF cI dS
noncomputable def aKs (s:Rat):Lg->Prop
 | .st x y u v=>lC s x y/\lC s u v
 | .bd a b c d e f w=>lC s a b/\lC s c d/\lC s e f/\(w = 1 ∨ w = -1)
noncomputable def pO:DSp:=fun ds M Q=>∃ f l,ds = [FmD f,lgD l]/\f.Good 4000/\aKs f.s l/\Q (lgD (ldL f l)) M
theorem ldC {px py s x y:Rat} {t h:Int} {M:DM} {Q:DQ} (g:eM px py t h s 4000) (l:lC s x y) (q:Q (PQ (ldX px t h s x y) (ldY py t h s x y)) M):uZ [FR px py t h s,PQ x y] M Q:=⟨_,_,_,_,_,_,_,rfl,g.mono (by decide),l.up,q⟩
noncomputable abbrev oP:Stmt:=top 37
theorem lH:aS ["frame","leg","c","p","q"] ["frame","leg"] (aK oP):=⟨rfl,rfl,rfl,by decide +kernel,rfl,by decide +kernel,by decide +kernel⟩
theorem aBC (hF:cA K mg "led_leg" oP ["frame","leg"]) (nG:Has P w K mg base 105 "led" ["frame","p"] uZ):Has P w K mg base 106 "led_leg" ["frame","leg"] pO:=by
 refine Has.mkZ hF lH (fun ds M Q ⟨a,b,z,_⟩=>by rw [z];rfl) fun f cdv A outer s H ds M Q E hr h=>?_
 obtain ⟨f,l,rfl,g,b,q⟩:=h
 refine ⟨_,(aE (bC (aQ (cN hr) (aH (aB 1) aC) aL) (aG (aP (aI (aA aL (aA (aF nG hr (by decide) (aA (aB 0) (aA (aH (aB 1) aC) aD))) (aA (aF nG hr (by decide) (aA (aB 0) (aA (aH (aB 1) aC) aD))) aD)))))) aW)
  (aE (eS (zO (⟨rfl,by decide +kernel,by decide +kernel,by decide +kernel,rfl,by decide +kernel⟩:mH ["frame","leg","c","p","q"] (aK oP) ["point","frame"] [none,some 0] _) rfl (fA (aB 1) (dH aC) (dH aC)) (fun _ _ _ _ _=>(aR (i:=0) (show List.Nodup (["point","frame"]:List Str) by decide +kernel))) (fun _ _ _ _ _=>(aF nG hr (by decide) (aA (aB 1) (aA (aB 0) aD))))) (eQ (n:=3) rfl (aU (aR (i:=2) lH.nd) (aU (aR (i:=3) lH.nd) (aU (aR (i:=4) lH.nd) dO)))))
  (aG (aP (aI (aA aL (aA (aB 2) (aA (aB 3) (aA (aB 4) (aA (aN cB (aH (aB 1) aC) (aH (aB 0) aC)) aD)))))))))),?_⟩
 have q':=bW q
 cases l with
 | st x y u v =>
  dsimp only [lgD]
  decreasing_tactic
  rw [aO]
  refine ifT (by decide) ?_
  refine ldC g b.1 ?_
  decreasing_tactic
  refine ldC g b.2 ?_
  decreasing_tactic
  exact ⟨by decide,q'⟩
 | bd a c d e i j wy =>
  obtain ⟨b1,b3,b5,b7⟩:=b
  dsimp only [lgD]
  decreasing_tactic
  rw [aO]
  refine ifF (by decide) ?_
  rw [show Dd.cutD [D.str "bend",PQ a c,PQ d e,PQ i j,.int wy] (some 1) (some 4) = [PQ a c,PQ d e,PQ i j] from rfl]
  refine aED (by show 3<=1000;decide) ?_
  decreasing_tactic
  refine ldC g b1 ?_
  decreasing_tactic
  refine ldC g b3 ?_
  decreasing_tactic
  refine ldC g b5 ?_
  decreasing_tactic
  intro p hp
  refine ⟨_,aJ,rfl,eX (rC b7),by decide,?_⟩
  exact ⟨M,aX.new hp _,q⟩
noncomputable def SfA (f:Fm) (p:Pl):Prop:=f.Good 4000/\plB 400 p/\(∀ l,gZ p = some l->aKs f.s l/\lgB 4000 (ldL f l))/\lC f.s (bD p).px (bD p).py
noncomputable def SeA (f g:Fm):Prop:=f.Good 4400/\g.Good 4400/\LdB 4400 (1 / f.s) f.px f.py/\(unF f).Good 4400/\LdB 4400 g.s (unF f).px (unF f).py
theorem vK {p:Pl} (h:plB 400 p):(bD p).Good 1000:=by
 have z:=bqz.mono (show 1<=1000 by decide)
 have o:=bq1.mono (show 1<=1000 by decide)
 have p1:(0:Rat) < 1:=by decide
 have m {x:Rat} (h:BQ 400 x):BQ 1000 x:=h.mono (by decide)
 cases p with
 | go a=>exact ⟨m h,z,(by show (0:Int)<=0;decide),(by show (0:Int) < 4;decide),.inl rfl,p1,o⟩
 | side a b=>exact ⟨m h.1,m h.2,(by show (0:Int)<=0;decide),(by show (0:Int) < 4;decide),.inl rfl,p1,o⟩
 | skip a=>exact ⟨m h,z,(by show (0:Int)<=0;decide),(by show (0:Int) < 4;decide),.inl rfl,p1,o⟩
 | dot=>exact ⟨z,z,by decide,by decide,.inl rfl,p1,o⟩
 | left=>exact ⟨z,z,by decide,by decide,.inl rfl,p1,o⟩
 | right=>exact ⟨z,z,by decide,by decide,.inl rfl,p1,o⟩
 | rnd=>exact ⟨z,z,by decide,by decide,.inl rfl,p1,o⟩
 | mirror=>exact ⟨z,z,by decide,by decide,.inr rfl,p1,o⟩
 | grow a=>exact ⟨z,z,(by show (0:Int)<=0;decide),(by show (0:Int) < 4;decide),.inl rfl,h.2,m h.1⟩
 | quarter a =>
  dsimp only [bD]
  by_cases c:0 < a
  ·rw [if_pos c];exact ⟨m h.1,m h.1,(by show (0:Int)<=1;decide),(by show (1:Int) < 4;decide),.inl rfl,p1,o⟩
  ·rw [if_neg c];exact ⟨m h.1.neg,m h.1,(by show (0:Int)<=3;decide),(by show (3:Int) < 4;decide),.inl rfl,p1,o⟩
 | half a=>exact ⟨z,(h.1.add h.1).mono (by decide),(by show (0:Int)<=2;decide),(by show (2:Int) < 4;decide),.inl rfl,p1,o⟩
 | arc a b c d=>exact ⟨m h.2.2.1,m h.2.2.2.1,(by show (0:Int)<=0;decide),(by show (0:Int) < 4;decide),.inl rfl,p1,o⟩
theorem aEH {p:Pl} (h:plB 400 p):plB 900 p:=by
 have m {x:Rat} (h:BQ 400 x):BQ 900 x:=h.mono (by decide)
 cases p with
 | go a=>exact m h
 | side a b=>exact ⟨m h.1,m h.2⟩
 | skip a=>exact m h
 | grow a=>exact ⟨m h.1,h.2⟩
 | quarter a=>exact ⟨m h.1,h.2⟩
 | half a=>exact ⟨m h.1,h.2⟩
 | arc a b c d=>exact ⟨m h.1,m h.2.1,m h.2.2.1,m h.2.2.2.1,h.2.2.2.2⟩
 | _=>trivial
theorem aJq {d:D} {r:List D}:atI (d :: r) 0 = some d:=by
 unfold atI ixN
 rw [if_pos (by decide),if_pos (by rw [List.length_cons];omega)]
 rfl
noncomputable def fZ (d:Nat):DSp:=fun ds M Q=>∃ rs a f rd ps pe L Es,ds = [.tup (bI rs),.int a,FmD f,.tup (rd.map D.int),.tup [.ref ps,.ref pe]]/\DpS d rs/\sfS SfA SeA rs f/\rd.length + d<=900/\ps ≠ pe/\M ps = some L/\M pe = some Es /\
 L.length + dnS rs<=1000/\Es.length + evS rs<=1000/\∀ M',iG M M' ps pe L Es (lgS rs a f rd) (edS rs a f rd)->Q (FmD (enS rs f)) M'
noncomputable def aBg (d:Nat):DSp:=fun ds M Q=>∃ r a f rd ps pe L Es,ds = [rwD r,.int a,FmD f,.tup (rd.map D.int),.tup [.ref ps,.ref pe]]/\Dp d r/\sfR SfA SeA r f/\rd.length + d + 1<=900/\ps ≠ pe/\M ps = some L/\M pe = some Es /\
 L.length + dnR r<=1000/\Es.length + evR r<=1000/\∀ M',iG M M' ps pe L Es (lgR r a f rd) (edR r a f rd)->Q (FmD (enR r f)) M'
theorem aKB {f g:Fm} {M:DM} {Q:DQ} (h1:f.Good 4000) (h2:g.Good 4000) (l:lC f.s g.px g.py) (q:Q (FmD (f.comp g)) M):kF [FmD f,FmD g] M Q:=⟨_,_,_,_,_,_,_,_,_,_,rfl,eM.mono h1 (by decide),eM.mono h2 (by decide),l.up,q⟩
theorem aMi {f g:Fm} {M:DM} {Q:DQ} (h1:f.Good 4400) (h2:g.Good 4400) (l:LdB 4400 f.s g.px g.py) (q:Q (FmD (f.comp g)) M):kF [FmD f,FmD g] M Q:=⟨_,_,_,_,_,_,_,_,_,_,rfl,h1,h2,l,q⟩
theorem aMg {f:Fm} {M:DM} {Q:DQ} (h1:f.Good 4400) (l:LdB 4400 (1 / f.s) f.px f.py) (q:Q (FmD (unF f)) M):oQ [FmD f] M Q:=⟨_,_,_,_,_,rfl,h1,l,q⟩
noncomputable abbrev lF:Stmt:=top 46
theorem eH:aS ["row","at","frame","rounds","sheet","pen","n","legs","stop","leg","step"] ["row","at","frame","rounds","sheet"] (aK lF):=⟨rfl,rfl,rfl,by decide +kernel,rfl,by decide +kernel,by decide +kernel⟩
theorem xU {d:Nat} (hF:cA K mg "draw_row" lF ["row","at","frame","rounds","sheet"]) (dE:Has P w K mg base (130 + 2 * d) "draw_rows" ["rows","number","frame","rounds","sheet"] (fZ d)) (eT:mg "range" = none) (kP:Has P w K mg base 106 "behind" ["one","other"] kF) (oF:Has P w K mg base 106 "undone" ["frame"] oQ) (kG:Has P w K mg base 104 "deed_of" ["row"] lO) (kH:Has P w K mg base 106 "led_leg" ["frame","leg"] pO):Has P w K mg base (130 + 2 * d + 1) "draw_row" ["row","at","frame","rounds","sheet"] (aBg d):=by
 refine Has.mkZ hF eH (fun ds M Q ⟨_,_,_,_,_,_,_,_,z,_⟩=>by rw [z];rfl) fun f cdv A outer s H ds M Q E hr h=>?_
 obtain ⟨r,a,f,rd,ps,pe,L,Es,rfl,dp,sf,hrd,nse,hs,he,lL,lE,q⟩:=h
 refine ⟨_,(aE (bC (aQ (cN hr) (aH (aB 0) aC) aL) (aE (aM (i:=5) eH.nd (aB 2))
  (aE (qO PassesOwn.never rfl eT (aA (aH (aB 0) aC) aD) (aR (i:=6) eH.nd) (aG (aM (i:=5) eH.nd (aF dE hr (by omega) (aA (aH (aB 0) aC) (aA (aN cP (aB 1) aC) (aA (aB 5) (aA (aN uI (aB 3) (aI (aA (aB 6) aD))) (aA (aB 4) aD)))))))))
  (aG (aP (aB 5))))) aW)
  (aE (bC (aQ (cN hr) (aH (aB 0) aC) aL) (aE (bZ (aF dE hr (by omega) (aA (aH (aB 0) aC) (aA (aN cP (aB 1) aC) (aA (aB 2) (aA (aB 3) (aA (aB 4) aD)))))))
  (aG (aP (aB 2)))) aW)
  (aE (bC (aQ (cN hr) (aH (aB 0) aC) aL) (aE (aM (i:=7) eH.nd (bA aD))
  (aE (aM (i:=8) eH.nd (aF dE hr (by omega) (aA (aH (aB 0) aC) (aA (aN cP (aB 1) aC) (aA (aB 2) (aA (aI aD) (aA (aI (aA (aB 7) (aA (bA aD) aD))) aD)))))))
  (aE (bZ (cG (aH (aB 4) aC) (aI (aA (aF kP hr (by omega) (aA (aB 8) (aA (aF oF hr (by omega) (aA (aB 2) aD)) aD))) (aA (aB 1) (aA (aB 3) (aA (aB 7) aD)))))))
  (aG (aP (aB 2)))))) aW)
  (aE (eS (aF kG hr (by omega) (aA (aB 0) aD)) (eQ (n:=2) rfl (aU (aR (i:=9) eH.nd) (aU (aR (i:=10) eH.nd) dO))))
  (aE (bC (aQ aEG (aB 9) gY) (aG (bZ (cG (aH (aB 4) aC) (aI (aA (aF kH hr (by omega) (aA (aB 2) (aA (aB 9) aD))) (aA (aB 1) (aA (aB 3) aD))))))) aW)
  (aG (aP (aF kP hr (by omega) (aA (aB 2) (aA (aB 10) aD)))))))))),?_⟩
 cases r with
 | pl p =>
  obtain ⟨gf,pb,lgk,ldk⟩:=sf
  have sgd:(bD p).Good 4000:=eM.mono (vK pb) (by decide)
  have fin:∀ M',iG M M' ps pe L Es (lgR (.pl p) a f rd) []->Dn Q (FmD (f.comp (bD p))) M':=fun M' h=>bW (q M' h)
  have hd:∃ w cJ,plD p = .tup (.str w :: cJ)/\w ≠ "again"/\w ≠ "keep"/\w ≠ "ever":=by
   cases p<;>exact ⟨_,_,rfl,by decide,by decide,by decide⟩
  have hdeed:∀ Q',Q' (.tup [lgO (gZ p),FmD (bD p)]) M->lO [plD p] M Q':=fun Q' q'=>⟨p,rfl,trivial,aEH pb,q'⟩
  dsimp only [rwD]
  generalize plD p = pd at hd hdeed
  obtain ⟨w0,cJ,rfl,w1,w2,w3⟩:=hd
  decreasing_tactic
  try rw [aJq]
  decreasing_tactic
  rw [aO]
  refine ifF (decide_eq_false w1) ?_
  decreasing_tactic
  try rw [aJq]
  decreasing_tactic
  rw [aO]
  refine ifF (decide_eq_false w2) ?_
  decreasing_tactic
  try rw [aJq]
  decreasing_tactic
  rw [aO]
  refine ifF (decide_eq_false w3) ?_
  decreasing_tactic
  refine hdeed _ ?_
  decreasing_tactic
  refine ⟨rfl,?_⟩
  cases e:gZ p with
  | none =>
   dsimp only [lgO]
   refine ifF rfl (aKB gf sgd ldk ?_)
   refine fin M ?_
   rw [lgR,e]
   exact .refl hs he
  | some l =>
   have lb:=(lgk l e).1
   dsimp only [lgO]
   obtain ⟨lx,hlx⟩:∃ xs,lgD l = .tup xs:=by cases l<;>exact ⟨_,rfl⟩
   rw [hlx]
   refine ifT rfl ⟨⟨L,hs⟩,?_⟩
   rw [<- hlx]
   refine ⟨f,l,rfl,gf,lb,?_⟩
   decreasing_tactic
   refine ⟨by decide,L,_,rfl,hs,?_,?_⟩
   ·rw [dnR] at lL;omega
   refine aKB gf sgd ldk (fin _ ?_)
   rw [lgR,e]
   exact ⟨aJ,⟨[],by rw [bS (Ne.symm nse),List.append_nil];exact he,.nil⟩,fun k n1 n2 o h=>by rw [gD n1];exact h⟩
 | ag n ws =>
  obtain ⟨hn,dw⟩:=vH dp
  dsimp only [rwD]
  decreasing_tactic
  rw [aO]
  refine ifT (by decide) ⟨⟨by omega,by omega⟩,?_⟩
  rw [Int.toNat_natCast]
  rw [dnR] at lL
  rw [evR] at lE
  refine ⟨fun i ρ M'=>i<=n/\iG M M' ps pe L Es ((List.range i).flatMap fun i=>lgS ws (a + 1) (Nat.repeat (enS ws) i f) (rd ++ [(i:Int)])) ((List.range i).flatMap fun i=>edS ws (a + 1) (Nat.repeat (enS ws) i f) (rd ++ [(i:Int)])) /\
   ∃ o1 o2 o3 o4 o5,ρ = [some (.tup [.str "again",.int (n:Int),.tup (bI ws)]),some (.int a),some (FmD f),some (.tup (rd.map D.int)),some (.tup [.ref ps,.ref pe]),some (FmD (Nat.repeat (enS ws) i f)),o1,o2,o3,o4,o5],⟨Nat.zero_le _,.refl hs he,_,_,_,_,_,rfl⟩,?_,?_⟩
  ·rintro i ρ M1 hi ⟨_,af,o1,o2,o3,o4,o5,rfl⟩
   decreasing_tactic
   rw [Int.zero_add]
   refine ⟨by decide,by rw [List.length_map];show rd.length + 1<=1000;omega,?_⟩
   obtain ⟨Es1,e1,l1⟩:=af.le
   have g1:=aAx (.ag i ws) a f rd
   have g2:=aCH (.ag i ws) a f rd
   rw [lgR,dnR] at g1
   rw [edR,evR] at g2
   have m1:dnS ws * (i + 1)<=dnS ws * n:=Nat.mul_le_mul_left _ hi
   have m2:evS ws * (i + 1)<=evS ws * n:=Nat.mul_le_mul_left _ hi
   rw [Nat.mul_succ] at m1 m2
   refine ⟨ws,a + 1,Nat.repeat (enS ws) i f,rd ++ [(i:Int)],ps,pe,_,Es1,by rw [List.map_append];rfl,dw,sf i hi,by rw [List.length_append];show rd.length + 1 + d<=900;omega,nse,af.s,e1,by rw [List.length_append,List.length_map];omega,by omega,fun M2 h2=>⟨hi,?_,_,_,_,_,_,rfl⟩⟩
   rw [List.range_succ,List.flatMap_append,List.flatMap_append]
   simp only [List.flatMap_cons,List.flatMap_nil,List.append_nil]
   exact iG.trans hs he af e1 h2
  ·rintro ρ M1 ⟨_,af,o1,o2,o3,o4,o5,rfl⟩
   exact bW (q M1 af)
 | kp ws =>
  have q':∀ M',iG M M' ps pe L Es (lgS ws (a + 1) f rd) (edS ws (a + 1) f rd)->Dn Q (FmD f) M':=fun M' h=>bW (q M' h)
  dsimp only [rwD]
  decreasing_tactic
  rw [aO]
  refine ifF (by decide) ?_
  decreasing_tactic
  rw [aO]
  refine ifT (by decide) ?_
  exact ⟨ws,a + 1,f,rd,ps,pe,L,Es,rfl,yG dp,sf,by omega,nse,hs,he,lL,lE,q'⟩
 | ev ws =>
  have dw:=aBm dp
  obtain ⟨sw,se⟩:=sf
  dsimp only [rwD]
  decreasing_tactic
  rw [aO]
  refine ifF (by decide) ?_
  decreasing_tactic
  rw [aO]
  refine ifF (by decide) ?_
  decreasing_tactic
  rw [aO]
  refine ifT (by decide) ?_
  decreasing_tactic
  rw [dnR] at lL
  rw [evR] at lE
  refine ⟨by decide,fun p hp=>⟨by decide,by decide,fun p1 hp1=>⟨by decide,?_⟩⟩⟩
  have np:p ≠ p1:=Ne.symm (eD hp1).1
  have hp1':M p1 = none:=(eD hp1).2
  have e1:bE (bE M p []) p1 [] p = some []:=by rw [bS np];exact aJ
  refine ⟨ws,a + 1,f,[],p,p1,[],[],rfl,dw,sw,by show 0 + d<=900;omega,np,e1,aJ,by show 0 + _<=1000;omega,by show 0 + _<=1000;omega,fun M1 h1=>?_⟩
  have old:∀ (k:AK) o,M k = some o->M1 k = some o:=fun k o hk=>by
   have n1:k ≠ .l p:=fR hk hp
   have n2:k ≠ .l p1:=fR hk hp1'
   exact h1.o k n1 n2 o (by rw [gD n2,gD n1];exact hk)
  have he1:=old _ _ he
  refine ⟨⟨_,he1⟩,aMg se.1 se.2.2.1 (aMi se.2.1 se.2.2.2.1 se.2.2.2.2 ⟨by decide,Es,_,rfl,he1,by omega,?_⟩)⟩
  have npe:p ≠ pe:=Ne.symm (tL he hp)
  refine bW (q _ ⟨?_,⟨[_],aJ,.cons ⟨p,rfl,hp,?_⟩ .nil⟩,fun k n1 n2 o hk=>by rw [gD n2];exact old k o hk⟩)
  ·rw [bS nse,lgR,List.map_nil,List.append_nil]
   exact old _ _ hs
  ·rw [bS npe]
   exact h1.s
noncomputable abbrev nF:Stmt:=top 45
theorem eJ:aS ["rows","number","frame","rounds","sheet","at","pen","row"] ["rows","number","frame","rounds","sheet"] (aK nF):=⟨rfl,rfl,rfl,by decide +kernel,rfl,by decide +kernel,by decide +kernel⟩
theorem xK (hF:cA K mg "draw_rows" nF ["rows","number","frame","rounds","sheet"]) (hF_draw_row:cA K mg "draw_row" lF ["row","at","frame","rounds","sheet"]) (eT:mg "range" = none) (kP:Has P w K mg base 106 "behind" ["one","other"] kF) (oF:Has P w K mg base 106 "undone" ["frame"] oQ) (kG:Has P w K mg base 104 "deed_of" ["row"] lO) (kH:Has P w K mg base 106 "led_leg" ["frame","leg"] pO) (dL:Has P w K mg base 127 "how_many_numbers" ["row"] (sB 8)):Has P w K mg base 146 "draw_rows" ["rows","number","frame","rounds","sheet"] (fZ 8):=by
 have all:∀ d,d<=8->Has P w K mg base (130 + 2 * d) "draw_rows" ["rows","number","frame","rounds","sheet"] (fZ d):=fun d=>by
  induction d with
  | zero=>exact fun _=>(Has.never hF eJ 129).imp fun ds M Q ⟨_,_,_,_,_,_,_,_,_,z,_⟩=>z
  | succ d ih =>
   intro hd8
   have h_draw_row:=xU hF_draw_row (ih (by omega)) eT kP oF kG kH
   refine Has.mkZ (k:=130 + 2 * d + 1) hF eJ (fun ds M Q ⟨_,_,_,_,_,_,_,_,z,_⟩=>by rw [z];rfl) fun f cdv A outer s H ds M Q E hr h=>?_
   obtain ⟨rs,a,f,rd,ps,pe,L,Es,rfl,dp,sf,hrd,nse,hs,he,lL,lE,q⟩:=h
   refine ⟨_,(aE (aM (i:=5) eJ.nd (aB 1))
  (aE (aM (i:=6) eJ.nd (aB 2))
  (aE (vC PassesOwn.never rfl (aB 0) (aR (i:=7) eJ.nd) (aE (aM (i:=6) eJ.nd (aF h_draw_row hr (by omega) (aA (aB 7) (aA (aB 5) (aA (aB 6) (aA (aB 3) (aA (aB 4) aD)))))))
  (aG (rD (i:=5) aCf eJ.nd (aF dL hr (by omega) (aA (aB 7) aD))))))
  (aG (aP (aB 6)))))),?_⟩
   decreasing_tactic
   refine ⟨fun i ρ M'=>iG M M' ps pe L Es (lgS (rs.take i) a f rd) (edS (rs.take i) a f rd) /\
    ∃ o1,ρ = [some (.tup (bI rs)),some (.int a),some (FmD f),some (.tup (rd.map D.int)),some (.tup [.ref ps,.ref pe]),some (.int (a + nmS (rs.take i))),some (FmD (enS (rs.take i) f)),o1],⟨.refl hs he,_,by rw [List.take_zero,nmS,Int.add_zero,enS]⟩,fun i ρ M' _ _ a e=>(by cases e),?_,?_⟩
   ·rintro i d1 ρ M1 hd ⟨af,o1,rfl⟩
    obtain ⟨r,hr',rfl⟩:=iX hd
    have tk:=dR hr'
    have dr:=dp.2 r (List.mem_of_getElem? hr')
    have el:rs = rs.take i ++ r :: rs.drop (i + 1):=by
     have hl:=(List.getElem?_eq_some_iff.mp hr').1
     have e:rs[i] = r:=(List.getElem?_eq_some_iff.mp hr').2
     rw [<- e,List.getElem_cons_drop,List.take_append_drop]
    have sr:sfR SfA SeA r (enS (rs.take i) f):=by
     rw [el,zI,sfS] at sf
     exact sf.2.1
    obtain ⟨Es1,e1,l1⟩:=af.le
    have g1:=kS (rs.take i) a f rd
    have g2:=uC (rs.take i) a f rd
    have t1:dnS (rs.take i) + dnR r<=dnS rs:=by
     have:dnS rs = dnS (rs.take i ++ r :: rs.drop (i + 1)):=by rw [<- el]
     rw [this,fE,dnS];omega
    have t2:evS (rs.take i) + evR r<=evS rs:=by
     have:evS rs = evS (rs.take i ++ r :: rs.drop (i + 1)):=by rw [<- el]
     rw [this,aAv,evS];omega
    decreasing_tactic
    refine ⟨r,_,_,rd,ps,pe,_,Es1,rfl,dr,sr,by omega,nse,af.s,e1,by rw [List.length_append,List.length_map];omega,by omega,fun M2 h2=>?_⟩
    decreasing_tactic
    refine ⟨r,rfl,lR dr (by omega),?_⟩
    rw [tk,aCk,aCz,aDe,aAt,lgS,edS,lgS,edS,nmS,nmS,enS,enS,List.append_nil,List.append_nil,Int.add_zero,<- Int.add_assoc]
    exact ⟨iG.trans hs he af e1 h2,_,rfl⟩
   ·rintro ρ M1 ⟨af,o1,rfl⟩
    rw [dI,List.take_length] at af
    rw [dI,List.take_length]
    exact bW (q M1 af)
 exact all 8 (by decide)
theorem zB {a b c d:Rat}:xJ a b c d = 0 ↔ a = c/\b = d:=by
 unfold xJ
 constructor
 ·intro h
  have s1:∀ x:Rat,0<=x * x:=fun x=>by
   rcases (show 0<=x ∨ 0<=-x by grind) with z | z
   ·exact Rat.mul_nonneg z z
   ·have:=Rat.mul_nonneg z z;grind
  have h1:=s1 (c - a)
  have h2:=s1 (d - b)
  have e1:(c - a) * (c - a) = 0:=by grind
  have e2:(d - b) * (d - b) = 0:=by grind
  rcases Rat.mul_eq_zero.mp e1 with z | z<;>rcases Rat.mul_eq_zero.mp e2 with y | y<;>constructor<;>grind
 ·rintro ⟨rfl,rfl⟩;grind
noncomputable def EdQ (M:DM) (d:D) (e:Ed):Prop:=∃ q:Addr,d = .tup [FmD e.f,.int e.a,.tup (e.rd.map D.int),.ref q]/\M q = some (e.ls.map lrD)
noncomputable def aAb (rs:List Rw):Prop:=DpS 8 rs/\sfS SfA SeA rs .one/\evS rs<=1000
noncomputable def oX:DSp:=fun ds M Q=>∃ rs,ds = [.tup (bI rs)]/\aAb rs/\dnS rs<=300/\∀ (ps pe:Addr) Es M',M' ps = some ((lgS rs 0 .one []).map lrD)->M' pe = some Es->Paired (EdQ M') Es (edS rs 0 .one [])->aX M M'->Q (.tup [.ref ps,.ref pe]) M'
noncomputable abbrev iM:Stmt:=top 44
theorem eO:aS ["program","still","ends"] ["program"] (aK iM):=⟨rfl,rfl,rfl,by decide +kernel,rfl,by decide +kernel,by decide +kernel⟩
theorem vL (hF:cA K mg "gone_along" iM ["program"]) (fS:gH K mg "MOST_DONE" (.int 300)) (cS:Has P w K mg base 118 "how_many_done" ["rows"] (tW 8)) (iJ:Has P w K mg base 101 "first" [] qP) (dE:Has P w K mg base 146 "draw_rows" ["rows","number","frame","rounds","sheet"] (fZ 8)):Has P w K mg base 147 "gone_along" ["program"] oX:=by
 refine Has.mkZ hF eO (fun ds M Q ⟨_,z,_⟩=>by rw [z];rfl) fun f cdv A outer s H ds M Q E hr h=>?_
 obtain ⟨rs,rfl,⟨dp,sf,evs⟩,dn,q⟩:=h
 refine ⟨_,(aE (bC (aQ jP (aF cS hr (by decide) (aA (aB 0) aD)) (bJ fS)) (aG yX) aW)
  (aE (aM (i:=1) eO.nd (bA aD))
  (aE (aM (i:=2) eO.nd (bA aD))
  (aE (bZ (aF dE hr (by decide) (aA (aB 0) (aA aC (aA (lS iJ hr (by decide)) (aA (aI aD) (aA (aI (aA (aB 1) (aA (aB 2) aD))) aD)))))))
  (aG (aP (aI (aA (aB 1) (aA (aB 2) aD))))))))),?_⟩
 decreasing_tactic
 refine ⟨rs,rfl,dp,?_⟩
 decreasing_tactic
 refine ifF (decide_eq_false (by omega)) ⟨by decide,fun p hp=>⟨by decide,fun p1 hp1=>⟨rfl,?_⟩⟩⟩
 have np:p ≠ p1:=Ne.symm (eD hp1).1
 have hp1':M p1 = none:=(eD hp1).2
 decreasing_tactic
 refine ⟨by decide,by decide,rs,0,.one,[],p,p1,[],[],rfl,dp,sf,by decide,np,by rw [bS np];exact aJ,aJ,by show 0 + _<=1000;omega,by show 0 + _<=1000;omega,fun M1 h1=>⟨by decide,?_⟩⟩
 obtain ⟨Es',e1,pr⟩:=h1.e
 refine bW (q p p1 Es' M1 h1.s e1 (Paired.mapP pr fun d x ⟨a,z,_,y⟩=>⟨a,z,y⟩) fun k o hk=>?_)
 have n1:k ≠ .l p:=fR hk hp
 have n2:k ≠ .l p1:=fR hk hp1'
 exact h1.o k n1 n2 o (by rw [gD n2,gD n1];exact hk)
noncomputable def vM:List D->Prop:=fun ds=>∃ rs,ds = [.tup (bI rs)]/\DpS 8 rs/\300 < dnS rs
theorem wF {C_TooMuch:Addr} (hF:cA K mg "gone_along" iM ["program"]) (iS:wS K mg "TooMuch" C_TooMuch) (fS:gH K mg "MOST_DONE" (.int 300)) (cS:Has P w K mg base 118 "how_many_done" ["rows"] (tW 8)) (iJ:Has P w K mg base 101 "first" [] qP) (dE:Has P w K mg base 146 "draw_rows" ["rows","number","frame","rounds","sheet"] (fZ 8)):aDS P w K mg base 147 "gone_along" ["program"] C_TooMuch vM:=by
 refine iF.mkZ hF iS eO (fun ds M ⟨_,z,_⟩=>by rw [z];rfl) fun f cdv A outer s H ds M E hr h hRO=>?_
 obtain ⟨rs,rfl,dp,dn⟩:=h
 refine ⟨_,(aE (bC (aQ jP (aF cS hr (by decide) (aA (aB 0) aD)) (bJ fS)) (aG (aDn hRO (aA aL aD))) aW)
  (aE (aM (i:=1) eO.nd (bA aD))
  (aE (aM (i:=2) eO.nd (bA aD))
  (aE (bZ (aF dE hr (by decide) (aA (aB 0) (aA aC (aA (lS iJ hr (by decide)) (aA (aI aD) (aA (aI (aA (aB 1) (aA (aB 2) aD))) aD)))))))
  (aG (aP (aI (aA (aB 1) (aA (aB 2) aD))))))))),?_⟩
 decreasing_tactic
 refine ⟨rs,rfl,dp,?_⟩
 decreasing_tactic
 exact ifT (decide_eq_true (by omega)) ⟨by decide,.refl _⟩
theorem jN {f:Fm}:ldX f.px f.t f.h f.s 0 0 = f.px/\ldY f.py f.t f.h f.s 0 0 = f.py:=by
 have r0:∀ n,rq 0 ((f.h:Rat) * 0) n = (0,0):=fun n=>by
  induction n with
  | zero=>rw [rq0];grind
  | succ n ih =>
   show (-(rq 0 ((f.h:Rat) * 0) n).2,(rq 0 ((f.h:Rat) * 0) n).1) = _
   rw [ih]
   exact Prod.ext (by grind) rfl
 unfold ldX ldY
 rw [r0]
 constructor<;>grind
noncomputable def Dv (D:Nat) (x:Rat):Prop:=∃ z:Int,x * (D:Rat) = (z:Rat)
theorem Dv.add {D:Nat} {x y:Rat} (h:Dv D x) (h2:Dv D y):Dv D (x + y):=by
 obtain ⟨a,ha⟩:=h
 obtain ⟨b,hb⟩:=h2
 exact ⟨a + b,by rw [Rat.intCast_add,<- ha,<- hb];grind⟩
theorem Dv.neg {D:Nat} {x:Rat} (h:Dv D x):Dv D (-x):=by
 obtain ⟨a,ha⟩:=h
 exact ⟨-a,by rw [Rat.intCast_neg,<- ha];grind⟩
theorem Dv.mul {D E:Nat} {x y:Rat} (h:Dv D x) (h2:Dv E y):Dv (D * E) (x * y):=by
 obtain ⟨a,ha⟩:=h
 obtain ⟨b,hb⟩:=h2
 exact ⟨a * b,by rw [Rat.intCast_mul,<- ha,<- hb,Rat.natCast_mul];grind⟩
theorem Dv.up {D:Nat} {x:Rat} (h:Dv D x) (k:Nat):Dv (D * k) x:=by
 obtain ⟨a,ha⟩:=h
 refine ⟨a * (k:Int),?_⟩
 rw [Rat.intCast_mul,<- ha,Rat.natCast_mul,Rat.intCast_natCast];grind
theorem Dv.up' {D:Nat} {x:Rat} (h:Dv D x) (k:Nat):Dv (k * D) x:=by rw [Nat.mul_comm];exact h.up k
theorem Dv.zero {D:Nat}:Dv D 0:=⟨0,by grind⟩
theorem Dv.own (x:Rat):Dv x.den x:=⟨x.num,by
 have:=fM x
 rw [this];rfl⟩
theorem Dv.le {D:Nat} {x:Rat} (h:Dv D x) (h0:0 < D):x.den<=D:=by
 obtain ⟨z,hz⟩:=h
 have e:=fM x
 have n0:((x.den:Int):Rat) ≠ 0:=by
  have:=x.den_pos
  have:(0:Rat) < ((x.den:Int):Rat):=yF (by omega)
  grind
 have k:x.num * (D:Int) = z * (x.den:Int):=by
  have:((x.num * (D:Int):Int):Rat) = ((z * (x.den:Int):Int):Rat):=by
   rw [Rat.intCast_mul,Rat.intCast_mul,e,<- hz]
   simp only [Rat.intCast_natCast]
   grind
  exact_mod_cast this
 have d1:(x.den:Int) ∣ x.num * (D:Int):=⟨z,by rw [k,Int.mul_comm]⟩
 have g:Int.gcd (x.den:Int) x.num = 1:=by
  have:=x.reduced
  rw [Int.gcd_comm];exact this
 have d2:=pL d1 g
 have:=Int.le_of_dvd (by omega) d2
 omega
noncomputable def Ab (B:Nat) (x:Rat):Prop:=-(B:Rat)<=x/\x<=(B:Rat)
theorem aDp (n:Nat):(0:Rat)<=(n:Rat):=by
 have:((0:Nat):Rat)<=(n:Rat):=by exact_mod_cast Nat.zero_le n
 exact this
theorem Ab.mono {B C:Nat} {x:Rat} (h:Ab B x) (l:B<=C):Ab C x:=by
 have:(B:Rat)<=(C:Rat):=by exact_mod_cast l
 exact ⟨by have:=h.1;grind,by have:=h.2;grind⟩
theorem Ab.add {B C:Nat} {x y:Rat} (h:Ab B x) (h2:Ab C y):Ab (B + C) (x + y):=by
 obtain ⟨a,b⟩:=h
 obtain ⟨c,d⟩:=h2
 constructor<;>rw [Rat.natCast_add]<;>grind
theorem Ab.neg {B:Nat} {x:Rat} (h:Ab B x):Ab B (-x):=by
 obtain ⟨a,b⟩:=h
 constructor<;>grind
theorem Ab.mul {B C:Nat} {x y:Rat} (h:Ab B x) (h2:Ab C y):Ab (B * C) (x * y):=by
 obtain ⟨a,b⟩:=h
 obtain ⟨c,d⟩:=h2
 have p1:=Rat.mul_nonneg (show 0<=(B:Rat) - x by grind) (show 0<=(C:Rat) + y by grind)
 have p2:=Rat.mul_nonneg (show 0<=(B:Rat) + x by grind) (show 0<=(C:Rat) - y by grind)
 have p3:=Rat.mul_nonneg (show 0<=(B:Rat) - x by grind) (show 0<=(C:Rat) - y by grind)
 have p4:=Rat.mul_nonneg (show 0<=(B:Rat) + x by grind) (show 0<=(C:Rat) + y by grind)
 constructor<;>rw [Rat.natCast_mul]<;>grind
theorem Ab.zero {B:Nat}:Ab B 0:=⟨by have:=aDp B;grind,aDp B⟩
theorem aJX {B:Nat} {x:Rat} (h:Ab B x):x.num.natAbs<=B * x.den:=by
 obtain ⟨a,b⟩:=h
 have e:=fM x
 have d0:(0:Rat) < ((x.den:Int):Rat):=yF (by have:=x.den_pos;omega)
 have k1:x.num<=(B:Int) * (x.den:Int):=by
  have:((x.num:Int):Rat)<=(((B:Int) * (x.den:Int):Int):Rat):=by
   rw [Rat.intCast_mul,e]
   have:=Rat.mul_nonneg (show 0<=(B:Rat) - x by grind) (Rat.le_of_lt d0)
   simp only [Rat.intCast_natCast] at this ⊢
   grind
  exact_mod_cast this
 have k2:-((B:Int) * (x.den:Int))<=x.num:=by
  have:((-((B:Int) * (x.den:Int)):Int):Rat)<=((x.num:Int):Rat):=by
   rw [Rat.intCast_neg,Rat.intCast_mul,e]
   have:=Rat.mul_nonneg (show 0<=(B:Rat) + x by grind) (Rat.le_of_lt d0)
   simp only [Rat.intCast_natCast] at this ⊢
   grind
  exact_mod_cast this
 have:((B * x.den:Nat):Int) = (B:Int) * (x.den:Int):=Int.natCast_mul _ _
 omega
theorem bq_of {D B n:Nat} {x:Rat} (d:Dv D x) (a:Ab B x) (h0:0 < D) (hD:D < 2 ^ n) (hB:B * D < 2 ^ n):BQ n x:=by
 have l:=d.le h0
 have m:=aJX a
 have:B * x.den<=B * D:=Nat.mul_le_mul_left _ l
 refine ⟨by unfold Bd;omega,?_⟩
 unfold Bd
 show x.den < 2 ^ n
 omega
theorem tK {n:Nat} {x:Rat} (h:BQ n x):Ab (2 ^ n) x:=by
 have e:=fM x
 have d1:(1:Rat)<=((x.den:Int):Rat):=by
  have:((1:Int):Rat)<=((x.den:Int):Rat):=by exact_mod_cast (show (1:Int)<=(x.den:Int) by have:=x.den_pos;omega)
  exact this
 have hb:x.num.natAbs < 2 ^ n:=h.1
 have n1:((x.num:Int):Rat)<=((2 ^ n:Nat):Rat):=by
  have:x.num<=((2 ^ n:Nat):Int):=by omega
  have:((x.num:Int):Rat)<=(((2 ^ n:Nat):Int):Rat):=by exact_mod_cast this
  rw [Rat.intCast_natCast] at this;exact this
 have n2:-((2 ^ n:Nat):Rat)<=((x.num:Int):Rat):=by
  have:-((2 ^ n:Nat):Int)<=x.num:=by omega
  have:((-((2 ^ n:Nat):Int):Int):Rat)<=((x.num:Int):Rat):=by exact_mod_cast this
  rw [Rat.intCast_neg,Rat.intCast_natCast] at this;exact this
 have z:=aDp (2 ^ n)
 clear hb
 unfold Ab
 generalize ((2 ^ n:Nat):Rat) = P at *
 generalize ((x.den:Int):Rat) = d at *
 rw [e] at n1 n2
 constructor
 ·rcases (show 0<=x ∨ 0<=-x by grind) with c | c
  ·grind
  ·have:=Rat.mul_nonneg c (show 0<=d - 1 by grind)
   grind
 ·rcases (show 0<=x ∨ 0<=-x by grind) with c | c
  ·have:=Rat.mul_nonneg c (show 0<=d - 1 by grind)
   grind
  ·grind
theorem aBw {D:Nat} {x y:Rat} (h1:Dv D x) (h2:Dv D y):∀ n,Dv D (rq x y n).1/\Dv D (rq x y n).2
 | 0=>⟨h1,h2⟩
 | n + 1=>⟨(aBw h1 h2 n).2.neg,(aBw h1 h2 n).1⟩
theorem aEV {B:Nat} {x y:Rat} (h1:Ab B x) (h2:Ab B y):∀ n,Ab B (rq x y n).1/\Ab B (rq x y n).2
 | 0=>⟨h1,h2⟩
 | n + 1=>⟨(aEV h1 h2 n).2.neg,(aEV h1 h2 n).1⟩
theorem zY {h:Int} (hh:h = 1 ∨ h = -1) {D:Nat} {y:Rat} (b:Dv D y):Dv D ((h:Rat) * y):=by
 rcases hh with rfl | rfl
 ·rw [uV,Rat.one_mul];exact b
 ·rw [rQ,show (-1:Rat) * y = -y by grind];exact b.neg
theorem aAe {h:Int} (hh:h = 1 ∨ h = -1) {D:Nat} {y:Rat} (b:Ab D y):Ab D ((h:Rat) * y):=by
 rcases hh with rfl | rfl
 ·rw [uV,Rat.one_mul];exact b
 ·rw [rQ,show (-1:Rat) * y = -y by grind];exact b.neg
structure Gf (A W k:Nat) (f:Fm):Prop where
 ok:f.Ok
 pos:0 < f.s
 ex:∃ N T:Nat,(0 < N/\N<=12 ^ k)/\(0 < T/\T<=12 ^ k)/\f.s * (N:Rat) = (T:Rat)/\Dv (N * A) f.px/\Dv (N * A) f.py
 ax:Ab (k * 12 ^ k * W) f.px
 ay:Ab (k * 12 ^ k * W) f.py
theorem Gf.one {A W:Nat}:Gf A W 0 .one:=⟨Fm.ok_one,by decide,⟨1,1,by decide,by decide,(by show (1:Rat) * ((1:Nat):Rat) = ((1:Nat):Rat);rw [Rat.one_mul]),Dv.zero,Dv.zero⟩,Ab.zero,Ab.zero⟩
theorem aCs {s:Rat} {N T:Nat} (n0:0 < N) (s0:0 < s) (e:s * (N:Rat) = (T:Rat)):Ab T s:=by
 have n1:(1:Rat)<=(N:Rat):=by
  have:((1:Nat):Rat)<=(N:Rat):=by exact_mod_cast n0
  exact this
 have:=Rat.mul_nonneg (Rat.le_of_lt s0) (show 0<=(N:Rat) - 1 by grind)
 exact ⟨by have:=aDp T;grind,by grind⟩
theorem tZ {s:Rat} {N T:Nat} (e:s * (N:Rat) = (T:Rat)):Dv N s:=⟨(T:Int),by rw [e,Rat.intCast_natCast]⟩
theorem Gf.pt {A W k:Nat} {f:Fm} (g:Gf A W k f) {x y:Rat} (dx:Dv A x) (dy:Dv A y) (ax:Ab W x) (ay:Ab W y) :
  (∃ N T:Nat,(0 < N/\N<=12 ^ k)/\(0 < T/\T<=12 ^ k)/\f.s * (N:Rat) = (T:Rat)/\Dv (N * A) (ldX f.px f.t f.h f.s x y)/\Dv (N * A) (ldY f.py f.t f.h f.s x y))/\Ab ((k + 1) * 12 ^ k * W) (ldX f.px f.t f.h f.s x y)/\Ab ((k + 1) * 12 ^ k * W) (ldY f.py f.t f.h f.s x y):=by
 obtain ⟨N,T,⟨n0,n1⟩,⟨t0,t1⟩,e,d1,d2⟩:=g.ex
 obtain ⟨r1,r2⟩:=aBw dx (zY g.ok.2.2 dy) f.t.toNat
 obtain ⟨b1,b2⟩:=aEV ax (aAe g.ok.2.2 ay) f.t.toNat
 have sd:=tZ e
 have sa:=(aCs n0 g.pos e).mono t1
 have q:W * 12 ^ k + k * 12 ^ k * W<=(k + 1) * 12 ^ k * W:=by
  rw [Nat.mul_comm W,Nat.add_mul,Nat.add_mul,Nat.one_mul,Nat.add_comm];exact Nat.le_refl _
 refine ⟨⟨N,T,⟨n0,n1⟩,⟨t0,t1⟩,e,?_,?_⟩,?_,?_⟩
 ·unfold ldX
  exact Dv.add (by rw [Nat.mul_comm];exact r1.mul sd) d1
 ·unfold ldY
  exact Dv.add (by rw [Nat.mul_comm];exact r2.mul sd) d2
 ·unfold ldX
  exact ((b1.mul sa).add g.ax).mono q
 ·unfold ldY
  exact ((b2.mul sa).add g.ay).mono q
theorem aCA {k:Nat}:12 ^ k<=12 ^ (k + 1):=Nat.pow_le_pow_right (by decide) (by omega)
theorem aHD {k W:Nat}:(k + 1) * 12 ^ k * W<=(k + 1) * 12 ^ (k + 1) * W:=Nat.mul_le_mul_right _ (Nat.mul_le_mul_left _ aCA)
theorem Gf.move {A W k:Nat} {f g:Fm} (G:Gf A W k f) (hg:g.Ok) (s1:g.s = 1) (dx:Dv A g.px) (dy:Dv A g.py) (ax:Ab W g.px) (ay:Ab W g.py):Gf A W (k + 1) (f.comp g):=by
 obtain ⟨⟨N,T,⟨n0,n1⟩,⟨t0,t1⟩,e,d1,d2⟩,a1,a2⟩:=G.pt dx dy ax ay
 have se:f.s * g.s = f.s:=by rw [s1];grind
 refine ⟨G.ok.comp hg,?_,⟨N,T,⟨n0,Nat.le_trans n1 aCA⟩,⟨t0,Nat.le_trans t1 aCA⟩,?_,d1,d2⟩,a1.mono aHD,a2.mono aHD⟩
 ·show 0 < f.s * g.s
  rw [se];exact G.pos
 ·show f.s * g.s * (N:Rat) = (T:Rat)
  rw [se];exact e
theorem Gf.still {A W k:Nat} {f g:Fm} (G:Gf A W k f) (hg:g.Ok) (x0:g.px = 0) (y0:g.py = 0) {t b:Nat} (t0:0 < t) (t1:t<=12) (b0:0 < b) (b1:b<=12) (e:g.s * (b:Rat) = (t:Rat)) (gp:0 < g.s):Gf A W (k + 1) (f.comp g):=by
 obtain ⟨N,T,⟨n0,n1⟩,⟨u0,u1⟩,es,d1,d2⟩:=G.ex
 have px:(f.comp g).px = f.px:=by show ldX f.px f.t f.h f.s g.px g.py = f.px;rw [x0,y0,jN.1]
 have py:(f.comp g).py = f.py:=by show ldY f.py f.t f.h f.s g.px g.py = f.py;rw [x0,y0,jN.2]
 have q:k * 12 ^ k * W<=(k + 1) * 12 ^ (k + 1) * W:=Nat.mul_le_mul_right _ (Nat.mul_le_mul (by omega) aCA)
 refine ⟨G.ok.comp hg,Rat.mul_pos G.pos gp,⟨N * b,T * t,⟨Nat.mul_pos n0 b0,?_⟩,⟨Nat.mul_pos u0 t0,?_⟩,?_,?_,?_⟩,?_,?_⟩
 ·rw [Nat.pow_succ];exact Nat.mul_le_mul n1 b1
 ·rw [Nat.pow_succ];exact Nat.mul_le_mul u1 t1
 ·show f.s * g.s * ((N * b:Nat):Rat) = ((T * t:Nat):Rat)
  rw [Rat.natCast_mul,Rat.natCast_mul,<- es,<- e];grind
 ·rw [px,Nat.mul_right_comm];exact d1.up b
 ·rw [py,Nat.mul_right_comm];exact d2.up b
 ·rw [px];exact G.ax.mono q
 ·rw [py];exact G.ay.mono q
noncomputable def plG (A W:Nat):Pl->Prop
 | .go a=>Dv A a/\Ab W a
 | .side a b=>(Dv A a/\Ab W a)/\Dv A b/\Ab W b
 | .skip a=>Dv A a/\Ab W a
 | .grow a=>∃ t b:Nat,(0 < t/\t<=12)/\(0 < b/\b<=12)/\a * (b:Rat) = (t:Rat)
 | .quarter a=>Dv A a/\Ab W a
 | .half a=>Dv A a/\Ab W a/\Ab W (a + a)
 | .arc a b c d=>((Dv A a/\Ab W a)/\Dv A b/\Ab W b)/\(Dv A c/\Ab W c)/\Dv A d/\Ab W d
 | _=>True
theorem plG.up {A W:Nat} {p:Pl} (m:Nat) (h:plG A W p):plG (A * m) W p:=by
 cases p with
 | go a=>exact ⟨h.1.up m,h.2⟩
 | side a b=>exact ⟨⟨h.1.1.up m,h.1.2⟩,h.2.1.up m,h.2.2⟩
 | skip a=>exact ⟨h.1.up m,h.2⟩
 | grow a=>exact h
 | quarter a=>exact ⟨h.1.up m,h.2⟩
 | half a=>exact ⟨h.1.up m,h.2⟩
 | arc a b c d=>exact ⟨⟨⟨h.1.1.1.up m,h.1.1.2⟩,h.1.2.1.up m,h.1.2.2⟩,⟨h.2.1.1.up m,h.2.1.2⟩,h.2.2.1.up m,h.2.2.2⟩
 | _=>trivial
theorem wJ {A W:Nat} {p:Pl} (h:plG A W p) (b:plB 400 p):(bD p).Ok/\(((bD p).s = 1/\(Dv A (bD p).px/\Dv A (bD p).py)/\Ab W (bD p).px/\Ab W (bD p).py) ∨ ((bD p).px = 0/\(bD p).py = 0/\0 < (bD p).s/\∃ t b:Nat,(0 < t/\t<=12)/\(0 < b/\b<=12)/\(bD p).s * (b:Rat) = (t:Rat))):=by
 refine ⟨(vK b).ok,?_⟩
 have o:(1:Rat) * ((1:Nat):Rat) = ((1:Nat):Rat):=Rat.one_mul _
 cases p with
 | go a=>exact .inl ⟨rfl,⟨h.1,Dv.zero⟩,h.2,Ab.zero⟩
 | side a b=>exact .inl ⟨rfl,⟨h.1.1,h.2.1⟩,h.1.2,h.2.2⟩
 | skip a=>exact .inl ⟨rfl,⟨h.1,Dv.zero⟩,h.2,Ab.zero⟩
 | grow a=>exact .inr ⟨rfl,rfl,b.2,h⟩
 | quarter a =>
  dsimp only [bD]
  by_cases c:0 < a
  ·rw [if_pos c];exact .inl ⟨rfl,⟨h.1,h.1⟩,h.2,h.2⟩
  ·rw [if_neg c];exact .inl ⟨rfl,⟨h.1.neg,h.1⟩,h.2.neg,h.2⟩
 | half a=>exact .inl ⟨rfl,⟨Dv.zero,h.1.add h.1⟩,Ab.zero,h.2.2⟩
 | arc a b c d=>exact .inl ⟨rfl,⟨h.2.1.1,h.2.2.1⟩,h.2.1.2,h.2.2.2⟩
 | dot=>exact .inl ⟨rfl,⟨Dv.zero,Dv.zero⟩,Ab.zero,Ab.zero⟩
 | _=>exact .inr ⟨rfl,rfl,by show (0:Rat) < 1;decide,1,1,by decide,by decide,o⟩
theorem Gf.step {A W k:Nat} {f:Fm} {p:Pl} (G:Gf A W k f) (h:plG A W p) (b:plB 400 p):Gf A W (k + 1) (f.comp (bD p)):=by
 obtain ⟨ok,⟨s1,⟨dx,dy⟩,ax,ay⟩ | ⟨x0,y0,gp,t,c,⟨t0,t1⟩,⟨c0,c1⟩,e⟩⟩:=wJ h b
 ·exact G.move ok s1 dx dy ax ay
 ·exact G.still ok x0 y0 t0 t1 c0 c1 e gp
structure vD (A W K:Nat):Prop where
 a:0 < A
 w:0 < W
 b:((K + 1) * 12 ^ (K + 1) * W) * (12 ^ (K + 1) * A) < 2 ^ 4000
 s:12 ^ (K + 1) < 2 ^ 1100
section
variable {A W K k:Nat} {f:Fm}
theorem aAc (h:vD A W K) {B D:Nat} (hB:B<=(K + 1) * 12 ^ (K + 1) * W) (hD:D<=12 ^ (K + 1) * A):D < 2 ^ 4000/\B * D < 2 ^ 4000:=by
 have h1:B * D<=((K + 1) * 12 ^ (K + 1) * W) * (12 ^ (K + 1) * A):=Nat.mul_le_mul hB hD
 have h2:1 * D<=((K + 1) * 12 ^ (K + 1) * W) * D:=Nat.mul_le_mul_right _ (Nat.mul_pos (Nat.mul_pos (by omega) (Nat.pow_pos (by decide))) h.w)
 have h3:((K + 1) * 12 ^ (K + 1) * W) * D<=((K + 1) * 12 ^ (K + 1) * W) * (12 ^ (K + 1) * A):=Nat.mul_le_mul_left _ hD
 have:=h.b
 omega
theorem aBq (l:k<=K):12 ^ k<=12 ^ (K + 1):=Nat.pow_le_pow_right (by decide) (by omega)
theorem Gf.good (n:vD A W K) (l:k<=K) (G:Gf A W k f):f.Good 4000/\BQ 1100 f.s:=by
 obtain ⟨N,T,⟨n0,n1⟩,⟨t0,t1⟩,e,d1,d2⟩:=G.ex
 have pk:=aBq l
 have hB:k * 12 ^ k * W<=(K + 1) * 12 ^ (K + 1) * W:=Nat.mul_le_mul_right _ (Nat.mul_le_mul (by omega) pk)
 have hD:N * A<=12 ^ (K + 1) * A:=Nat.mul_le_mul_right _ (Nat.le_trans n1 pk)
 obtain ⟨q1,q2⟩:=aAc n hB hD
 have D0:0 < N * A:=Nat.mul_pos n0 n.a
 have sN:N < 2 ^ 1100:=Nat.lt_of_le_of_lt (Nat.le_trans n1 pk) n.s
 have sT:T < 2 ^ 1100:=Nat.lt_of_le_of_lt (Nat.le_trans t1 pk) n.s
 have bs:BQ 1100 f.s:=by
  have n0':((N:Int):Int) ≠ 0:=by omega
  have es:f.s = (((T:Int)):Rat) / (((N:Int)):Rat):=by
   have:((N:Int):Rat) ≠ 0:=by
    have:=yF (show (0:Int) < (N:Int) by omega)
    grind
   simp only [Rat.intCast_natCast] at this ⊢
   grind
  rw [es]
  exact .make n0' (by unfold Bd;show T < _;exact sT) (by unfold Bd;show N < _;exact sN)
 exact ⟨⟨bq_of d1 G.ax D0 q1 q2,bq_of d2 G.ay D0 q1 q2,G.ok.1,G.ok.2.1,G.ok.2.2,G.pos,bs.mono (by decide)⟩,bs⟩
theorem Gf.led (n:vD A W K) (l:k<=K) (G:Gf A W k f) {x y:Rat} (dx:Dv A x) (dy:Dv A y) (ax:Ab W x) (ay:Ab W y):lC f.s x y/\BQ 4000 (ldX f.px f.t f.h f.s x y)/\BQ 4000 (ldY f.py f.t f.h f.s x y):=by
 obtain ⟨⟨N,T,⟨n0,n1⟩,⟨t0,t1⟩,e,d1,d2⟩,a1,a2⟩:=G.pt dx dy ax ay
 have pk:=aBq l
 have hB:(k + 1) * 12 ^ k * W<=(K + 1) * 12 ^ (K + 1) * W:=Nat.mul_le_mul_right _ (Nat.mul_le_mul (by omega) pk)
 have hD:N * A<=12 ^ (K + 1) * A:=Nat.mul_le_mul_right _ (Nat.le_trans n1 pk)
 obtain ⟨q1,q2⟩:=aAc n hB hD
 have D0:0 < N * A:=Nat.mul_pos n0 n.a
 have one:W<=(K + 1) * 12 ^ (K + 1) * W:=by
  have:1 * W<=(K + 1) * 12 ^ (K + 1) * W:=Nat.mul_le_mul_right _ (Nat.mul_pos (by omega) (Nat.pow_pos (by decide)))
  omega
 have oneA:A<=12 ^ (K + 1) * A:=by
  have:1 * A<=12 ^ (K + 1) * A:=Nat.mul_le_mul_right _ (Nat.pow_pos (by decide))
  omega
 obtain ⟨r1,r2⟩:=aAc n one oneA
 have sd:=tZ e
 have sa:=(aCs n0 G.pos e).mono t1
 have hBs:W * 12 ^ k<=(K + 1) * 12 ^ (K + 1) * W:=by
  rw [Nat.mul_comm W]
  refine Nat.mul_le_mul_right _ ?_
  have:1 * 12 ^ k<=(K + 1) * 12 ^ (K + 1):=Nat.mul_le_mul (by omega) pk
  omega
 obtain ⟨u1,u2⟩:=aAc n hBs hD
 have ps:∀ {z:Rat},Dv A z->Ab W z->BQ 4000 (z * f.s):=fun {z} dz az=>bq_of (D:=N * A) (by rw [Nat.mul_comm];exact dz.mul sd) (az.mul sa) D0 u1 u2
 exact ⟨⟨bq_of dx ax n.a r1 r2,bq_of dy ay n.a r1 r2,ps dx ax,ps dy ay⟩,bq_of d1 a1 D0 q1 q2,bq_of d2 a2 D0 q1 q2⟩
noncomputable def lgG (A W:Nat):Lg->Prop
 | .st x y u v=>((Dv A x/\Dv A y)/\Ab W x/\Ab W y)/\(Dv A u/\Dv A v)/\Ab W u/\Ab W v
 | .bd a b c d e f w=>((Dv A a/\Dv A b)/\Ab W a/\Ab W b)/\((Dv A c/\Dv A d)/\Ab W c/\Ab W d)/\((Dv A e/\Dv A f)/\Ab W e/\Ab W f)/\(w = 1 ∨ w = -1)
theorem aKT {p:Pl} {l:Lg} (h:plG A W p) (e:gZ p = some l):lgG A W l:=by
 have z:(Dv A 0/\Dv A 0)/\Ab W 0/\Ab W 0:=⟨⟨Dv.zero,Dv.zero⟩,Ab.zero,Ab.zero⟩
 cases p with
 | go a=>cases e;exact ⟨z,⟨h.1,Dv.zero⟩,h.2,Ab.zero⟩
 | side a b=>cases e;exact ⟨z,⟨h.1.1,h.2.1⟩,h.1.2,h.2.2⟩
 | dot=>cases e;exact ⟨z,z⟩
 | quarter a =>
  dsimp only [gZ] at e
  by_cases c:0 < a
  ·rw [if_pos c] at e;cases e;exact ⟨⟨⟨Dv.zero,h.1⟩,Ab.zero,h.2⟩,z,⟨⟨h.1,h.1⟩,h.2,h.2⟩,.inl rfl⟩
  ·rw [if_neg c] at e;cases e;exact ⟨⟨⟨Dv.zero,h.1⟩,Ab.zero,h.2⟩,z,⟨⟨h.1.neg,h.1⟩,h.2.neg,h.2⟩,.inr rfl⟩
 | half a =>
  cases e
  refine ⟨⟨⟨Dv.zero,h.1⟩,Ab.zero,h.2.1⟩,z,⟨⟨Dv.zero,h.1.add h.1⟩,Ab.zero,h.2.2⟩,?_⟩
  by_cases c:0 < a
  ·rw [if_pos c];exact .inl rfl
  ·rw [if_neg c];exact .inr rfl
 | arc a b c d=>cases e;exact ⟨⟨⟨h.1.1.1,h.1.2.1⟩,h.1.1.2,h.1.2.2⟩,z,⟨⟨h.2.1.1,h.2.2.1⟩,h.2.1.2,h.2.2.2⟩,.inl rfl⟩
 | _=>cases e
theorem Gf.sf (n:vD A W K) (l:k<=K) (G:Gf A W k f) {p:Pl} (h:plG A W p) (b:plB 400 p):SfA f p:=by
 refine ⟨(G.good n l).1,b,fun lg e=>?_,?_⟩
 ·have lG:=aKT h e
  cases lg with
  | st x y u v =>
   have p1:=G.led n l lG.1.1.1 lG.1.1.2 lG.1.2.1 lG.1.2.2
   have p2:=G.led n l lG.2.1.1 lG.2.1.2 lG.2.2.1 lG.2.2.2
   exact ⟨⟨p1.1,p2.1⟩,p1.2.1,p1.2.2,p2.2.1,p2.2.2⟩
  | bd a c d e i j w =>
   obtain ⟨⟨⟨q1,q2⟩,q3,q4⟩,⟨⟨q5,q6⟩,q7,q8⟩,⟨⟨q9,qa⟩,qb,qc⟩,qd⟩:=lG
   have p1:=G.led n l q1 q2 q3 q4
   have p2:=G.led n l q5 q6 q7 q8
   have p3:=G.led n l q9 qa qb qc
   refine ⟨⟨p1.1,p2.1,p3.1,qd⟩,p1.2.1,p1.2.2,p2.2.1,p2.2.2,p3.2.1,p3.2.2,?_⟩
   rcases qd with z | z<;>rcases G.ok.2.2 with y | y<;>rw [z,y]<;>decide
 ·obtain ⟨ok,⟨s1,⟨dx,dy⟩,ax,ay⟩ | ⟨x0,y0,_⟩⟩:=wJ h b
  ·exact (G.led n l dx dy ax ay).1
  ·rw [x0,y0];exact (G.led n l Dv.zero Dv.zero Ab.zero Ab.zero).1
end
noncomputable def pB:DSp:=fun ds M Q=>∃ c many,ds = [.int c,.int many]/\0<=many/\many<=100/\∀ (p:Addr) L,M p = none->kC many.toNat L->Q (.ref p) (bE M p L)
theorem wY {n:Nat} {L:List D} (h:kC n L) {z:Int} (h0:0<=z) (h1:z < 1000000):kC (n + 1) (L ++ [.int z]):=by
 refine ⟨by rw [List.length_append,h.1];rfl,fun d hd=>?_⟩
 rcases List.mem_append.mp hd with e | e
 ·exact h.2 d e
 ·exact ⟨z,List.mem_singleton.mp e,h0,h1⟩
noncomputable abbrev sL:Stmt:=top 55
theorem fQ:aS ["_law_cell","_law_many","_law_found","_law_number","_law_k"] ["_law_cell","_law_many"] (aK sL):=⟨rfl,rfl,rfl,by decide +kernel,rfl,by decide +kernel,by decide +kernel⟩
theorem aBu (hF:cA K mg "_law_row" sL ["_law_cell","_law_many"]) (kD:mg "abs" = none) (eT:mg "range" = none):Has P w K mg base 101 "_law_row" ["_law_cell","_law_many"] pB:=by
 refine Has.mkZ hF fQ (fun ds M Q ⟨a,b,e,_⟩=>by rw [e];rfl) fun f cdv A outer s H ds M Q E hr h=>?_
 obtain ⟨c,many,rfl,m0,m1,q⟩:=h
 refine ⟨_,(aE (aM (i:=2) fQ.nd (bA aD))
  (aE (aM (i:=3) fQ.nd (aB 0))
  (aE (bC (aQ wD (eC uN kD (aA (aB 0) aD)) (aN vQ aC aC)) (aG (aM (i:=3) fQ.nd (aN cP (aN cW (aB 0) aC) aC))) aW)
  (aE (qO PassesOwn.never rfl eT (aA (aB 1) aD) (aR (i:=4) fQ.nd) (aG (bC (aQ wD (eC uN kD (aA (aB 0) aD)) (aN vQ aC aC)) (aE (aM (i:=3) fQ.nd (aN cW (aN cB (aB 3) aC) aC))
  (aG (bZ (cG (aB 2) (aN cW (aN fG (aN cW (aN cP (aN cP (aN cB (aB 3) (aB 3)) (aN cB aC (aB 3))) (aB 4)) aC) aC) (aN vQ aC aC)))))) (aE (bZ (cG (aB 2) (aN cW (aB 3) (aN vQ aC aC))))
  (aG (aM (i:=3) fQ.nd (aN fG (aB 3) (aN vQ aC aC))))))))
  (aG (aP (aB 2))))))),?_⟩
 decreasing_tactic
 refine ⟨by decide,fun p hp=>?_⟩
 have k6:(10:Int) ^ Int.toNat 6 = 1000000:=by decide
 have small:∀ z:Int,0<=z.fmod 1000000/\z.fmod 1000000 < 1000000:=fun z=>⟨Int.fmod_nonneg_of_pos _ (by decide),Int.fmod_lt_of_pos _ (by decide)⟩
 refine ⟨⟨by decide,by decide,by decide⟩,dif (fun c1=>?A) (fun c1=>?B)⟩
 case' A =>
  have c2:(if c < 0 then -c else c) < (10:Int) ^ Int.toNat 18->0<=c.fmod 2147483647 + 1/\c.fmod 2147483647 + 1 < 2147483649:=fun _=>by
   have:=Int.fmod_nonneg_of_pos c (show (0:Int) < 2147483647 by decide)
   have:=Int.fmod_lt_of_pos c (show (0:Int) < 2147483647 by decide)
   omega
  refine ⟨by decide,?_⟩
  generalize c.fmod 2147483647 + 1 = z0 at c2
 case' B =>
  have c2:(if c < 0 then -c else c) < (10:Int) ^ Int.toNat 18->0<=c/\c < 2147483649:=fun z=>absurd z c1
  obtain ⟨z0,hz0⟩:∃ z0,z0 = c:=⟨c,rfl⟩
  have c2:(if c < 0 then -c else c) < (10:Int) ^ Int.toNat 18->0<=z0/\z0 < 2147483649:=by rw [hz0];exact c2
  rw [show (some (D.int c) :: some (.int many) :: some (.ref p) :: some (.int c) :: [none]:cF) = [some (.int c),some (.int many),some (.ref p),some (.int z0),none] by rw [hz0]]
 all_goals
  refine ⟨⟨by omega,by omega⟩,fun i ρ M'=>∃ L,M' = bE M p L/\kC i L/\∃ (z:Int) (o:Option D),((if c < 0 then -c else c) < (10:Int) ^ Int.toNat 18->0<=z/\z < 2147483649)/\ρ = [some (.int c),some (.int many),some (.ref p),some (.int z),o],⟨[],rfl,⟨rfl,fun d h=>nomatch h⟩,z0,none,c2,rfl⟩,?_,?_⟩
  ·rintro i ρ M' hi ⟨L,rfl,hL,z,o,hz,rfl⟩
   have hi2:i < 100:=by omega
   have lL:L.length < 1000:=by rw [hL.1];omega
   decreasing_tactic
   refine ⟨⟨by decide,by decide,by decide⟩,dif (fun d1=>?_) (fun d1=>?_)⟩
   ·obtain ⟨z1,z2⟩:=hz d1
    have hn0:=Int.fmod_nonneg_of_pos (z * 48271) (show (0:Int) < 2147483647 by decide)
    have hn1:=Int.fmod_lt_of_pos (z * 48271) (show (0:Int) < 2147483647 by decide)
    refine ⟨pQ (by unfold Bd;decide),by decide,⟨_,aJ⟩,?_⟩
    generalize (z * 48271).fmod 2147483647 = nn at hn0 hn1
    have bn:Bd 63 nn:=Bd.of (by omega) (by omega)
    refine ⟨eX bn,pQ bn,by decide,⟨by decide,by decide +kernel⟩,⟨by decide,by decide,by decide⟩,by rw [k6];decide,_,_,rfl,aJ,lL,_,by rw [yN],wY hL ?_ ?_,nn,_,fun _=>⟨by omega,by omega⟩,rfl⟩
    ·rw [k6];exact (small _).1
    ·rw [k6];exact (small _).2
   ·refine ⟨⟨_,aJ⟩,⟨by decide,by decide,by decide⟩,by rw [k6];decide,_,_,rfl,aJ,lL,⟨by decide,by decide,by decide⟩,⟨by rw [k6];decide,by rw [k6];decide +kernel⟩,_,by rw [yN],wY hL ?_ ?_,_,_,fun z=>absurd z d1,rfl⟩
    ·rw [k6];exact (small _).1
    ·rw [k6];exact (small _).2
  ·rintro ρ M' ⟨L,rfl,hL,z,o,hz,rfl⟩
   decreasing_tactic
   exact ⟨_,.refl _,q p L hp hL⟩
noncomputable def mt (px py:Rat) (t h:Int) (s:Rat):D:=.tup [.tup [FQ ((rq 1 0 t.toNat).1 * s),FQ ((rq 1 0 t.toNat).2 * s),FQ ((rq 0 (h:Rat) t.toNat).1 * s),FQ ((rq 0 (h:Rat) t.toNat).2 * s)],PQ px py]
noncomputable def pA:DSp:=fun ds M Q=>∃ px py t h s,ds = [FR px py t h s]/\eM px py t h s 4400/\Q (mt px py t h s) M
theorem bqk {k:Int} (h:k = 0 ∨ k = 1 ∨ k = -1):BQ 2 ((k:Int):Rat):=by rcases h with rfl | rfl | rfl<;>exact ⟨by unfold Bd;decide,by unfold Bd;decide⟩
theorem aAu {k:Int} {s:Rat} {M:DM} {Q:DQ} (h:k = 0 ∨ k = 1 ∨ k = -1) (b:BQ 4400 s) (q:Q (FQ (((k:Int):Rat) * s)) M):cK [.tup [.int k,.int 1],FQ s] M Q :=
 ⟨_,_,_,_,by rw [aIb],trivial,bqk h,b,by decide,q⟩
theorem gE {p r:Rat} {m n:Nat} {M:DM} {Q:DQ} (h1:BQ m p) (h2:BQ n r) (l:m + n<=8998) (q:Q (FQ (p * r)) M):cK [FQ p,FQ r] M Q:=⟨_,_,_,_,rfl,trivial,h1,h2,l,q⟩
theorem oY {p r:Rat} {m n:Nat} {M:DM} {Q:DQ} (h1:BQ m p) (h2:BQ n r) (l:m + n<=8998) (q:Q (FQ (p + r)) M):fC [FQ p,FQ r] M Q:=⟨_,_,_,_,rfl,trivial,h1,h2,l,q⟩
theorem aIL {t h:Int} (t0:0<=t) (t1:t < 4) (hh:h = 1 ∨ h = -1):∃ a b c d:Int,(a = 0 ∨ a = 1 ∨ a = -1)/\(b = 0 ∨ b = 1 ∨ b = -1)/\(c = 0 ∨ c = 1 ∨ c = -1)/\(d = 0 ∨ d = 1 ∨ d = -1) /\
  atI [D.tup [.int 1,.int 0],.tup [.int 0,.int 1],.tup [.int (-1),.int 0],.tup [.int 0,.int (-1)]] t = some (.tup [.int a,.int b]) /\
  atI [D.tup [.int 0,.int h],.tup [.int (0 - h),.int 0],.tup [.int 0,.int (0 - h)],.tup [.int h,.int 0]] t = some (.tup [.int c,.int d]) /\
  (a:Rat) = (rq 1 0 t.toNat).1/\(b:Rat) = (rq 1 0 t.toNat).2/\(c:Rat) = (rq 0 (h:Rat) t.toNat).1/\(d:Rat) = (rq 0 (h:Rat) t.toNat).2:=by
 rcases aIy t0 t1 with rfl | rfl | rfl | rfl<;>rcases hh with rfl | rfl
 ·exact ⟨1,0,0,1,by decide,by decide,by decide,by decide,rfl,rfl,by decide +kernel,by decide +kernel,by decide +kernel,by decide +kernel⟩
 ·exact ⟨1,0,0,-1,by decide,by decide,by decide,by decide,rfl,rfl,by decide +kernel,by decide +kernel,by decide +kernel,by decide +kernel⟩
 ·exact ⟨0,1,-1,0,by decide,by decide,by decide,by decide,rfl,rfl,by decide +kernel,by decide +kernel,by decide +kernel,by decide +kernel⟩
 ·exact ⟨0,1,1,0,by decide,by decide,by decide,by decide,rfl,rfl,by decide +kernel,by decide +kernel,by decide +kernel,by decide +kernel⟩
 ·exact ⟨-1,0,0,-1,by decide,by decide,by decide,by decide,rfl,rfl,by decide +kernel,by decide +kernel,by decide +kernel,by decide +kernel⟩
 ·exact ⟨-1,0,0,1,by decide,by decide,by decide,by decide,rfl,rfl,by decide +kernel,by decide +kernel,by decide +kernel,by decide +kernel⟩
 ·exact ⟨0,-1,1,0,by decide,by decide,by decide,by decide,rfl,rfl,by decide +kernel,by decide +kernel,by decide +kernel,by decide +kernel⟩
 ·exact ⟨0,-1,-1,0,by decide,by decide,by decide,by decide,rfl,rfl,by decide +kernel,by decide +kernel,by decide +kernel,by decide +kernel⟩
noncomputable abbrev iL:Stmt:=top 68
theorem dX:aS ["_law_frame","_law_place","_law_turns","_law_hand","_law_size_here","_law_right","_law_up"] ["_law_frame"] (aK iL):=⟨rfl,rfl,rfl,by decide +kernel,rfl,by decide +kernel,by decide +kernel⟩
theorem uK (hF:cA K mg "_law_matrix" iL ["_law_frame"]) (aZ:Has P w K mg base 102 "_law_times" ["_law_one","_law_other"] cK) (gS:mg "tuple" = none):Has P w K mg base 103 "_law_matrix" ["_law_frame"] pA:=by
 refine Has.mkZ hF dX (fun ds M Q ⟨a,b,c,d,e,z,_⟩=>by rw [z];rfl) fun f cdv A outer s H ds M Q E hr h=>?_
 obtain ⟨px,py,t,h,sz,rfl,g,q⟩:=h
 refine ⟨_,(aE (eS (aB 0) (eQ (n:=4) rfl (aU (aR (i:=1) dX.nd) (aU (aR (i:=2) dX.nd) (aU (aR (i:=3) dX.nd) (aU (aR (i:=4) dX.nd) dO))))))
  (aE (aM (i:=5) dX.nd (aH (bA (aA (aI (aA aC (aA aC aD))) (aA (aI (aA aC (aA aC aD))) (aA (aI (aA (cQ aC) (aA aC aD))) (aA (aI (aA aC (aA (cQ aC) aD))) aD))))) (aB 2)))
  (aE (aM (i:=6) dX.nd (aH (bA (aA (aI (aA aC (aA (aB 3) aD))) (aA (aI (aA (aN jW aC (aB 3)) (aA aC aD))) (aA (aI (aA aC (aA (aN jW aC (aB 3)) aD))) (aA (aI (aA (aB 3) (aA aC aD))) aD))))) (aB 2)))
  (aG (aP (aI (aA (cU rM gS (aA (zO (⟨rfl,by decide +kernel,by decide +kernel,by decide +kernel,rfl,by decide +kernel⟩:mH ["_law_frame","_law_place","_law_turns","_law_hand","_law_size_here","_law_right","_law_up"] (aK iL) ["_law_part","_law_size_here"] [none,some 4] _) rfl (aN cP (aB 5) (aB 6)) (fun _ _ _ _ _=>(aR (i:=0) (show List.Nodup (["_law_part","_law_size_here"]:List Str) by decide +kernel))) (fun _ _ _ _ _=>(aF aZ hr (by decide) (aA (aI (aA (aB 0) (aA aC aD))) (aA (aB 1) aD))))) aD)) (aA (aB 1) aD)))))))),?_⟩
 decreasing_tactic
 refine ⟨rfl,by decide,by decide,by decide,by decide,by decide,fun p hp=>?_⟩
 obtain ⟨a,b,c,d,ka,kb,kc,kd,e1,e2,r1,r2,r3,r4⟩:=aIL g.2.2.1 g.2.2.2.1 g.2.2.2.2.1
 have s1:=aX.new hp [D.tup [.int 1,.int 0],.tup [.int 0,.int 1],.tup [.int (-1),.int 0],.tup [.int 0,.int (-1)]]
 refine ⟨_,_,aJ,e1,by decide,by decide,by decide,by decide,by decide,fun p2 hp2=>⟨_,_,aJ,e2,List.cons_ne_nil _ _,List.cons_ne_nil _ _,Nat.le_of_ble_eq_true rfl,?_⟩⟩
 have s2:=s1.trans (aX.new hp2 [D.tup [.int 0,.int h],.tup [.int (0 - h),.int 0],.tup [.int 0,.int (0 - h)],.tup [.int h,.int 0]])
 decreasing_tactic
 refine aED (Nat.le_of_ble_eq_true rfl) ?_
 have bs:=g.2.2.2.2.2.2
 decreasing_tactic
 refine ⟨by decide,aAu ka bs ?_⟩
 decreasing_tactic
 refine ⟨by decide,aAu kb bs ?_⟩
 decreasing_tactic
 refine ⟨by decide,aAu kc bs ?_⟩
 decreasing_tactic
 refine ⟨by decide,aAu kd bs ?_⟩
 decreasing_tactic
 intro p3 hp3
 refine ⟨_,aJ,by decide,M,s2.trans (aX.new hp3 _),?_⟩
 rw [r1,r2,r3,r4]
 exact q
theorem oD (x y:Rat):∀ (h:Rat) (n:Nat),(rq x (h * y) n).1 = x * (rq 1 0 n).1 + y * (rq 0 h n).1/\(rq x (h * y) n).2 = x * (rq 1 0 n).2 + y * (rq 0 h n).2
 | h,0=>⟨by show x = x * 1 + y * 0;grind,by show h * y = x * 0 + y * h;grind⟩
 | h,n + 1=>by
  obtain ⟨e1,e2⟩:=oD x y h n
  constructor
  ·show -(rq x (h * y) n).2 = x * -(rq 1 0 n).2 + y * -(rq 0 h n).2
   rw [e2];grind
  ·show (rq x (h * y) n).1 = x * (rq 1 0 n).1 + y * (rq 0 h n).1
   exact e1
theorem aDc {n:Nat} {h:Int} (hh:h = 1 ∨ h = -1):BQ 2 (rq 1 0 n).1/\BQ 2 (rq 1 0 n).2/\BQ 2 (rq 0 (h:Rat) n).1/\BQ 2 (rq 0 (h:Rat) n).2:=by
 have o:BQ 2 (1:Rat):=⟨by unfold Bd;decide,by unfold Bd;decide⟩
 have z:BQ 2 (0:Rat):=⟨by unfold Bd;decide,by unfold Bd;decide⟩
 have k:BQ 2 (h:Rat):=bqk (by rcases hh with rfl | rfl<;>decide)
 exact ⟨(uS o z n).1,(uS o z n).2,(uS z k n).1,(uS z k n).2⟩
noncomputable def Un (u:Rat):Prop:=u = 0 ∨ u = 1 ∨ u = -1
theorem Un.neg {u:Rat} (h:Un u):Un (-u):=by
 rcases h with rfl | rfl | rfl
 ·exact .inl (by grind)
 ·exact .inr (.inr rfl)
 ·exact .inr (.inl (by grind))
theorem aC0 {x y:Rat} (h1:Un x) (h2:Un y):∀ n,Un (rq x y n).1/\Un (rq x y n).2
 | 0=>⟨h1,h2⟩
 | n + 1=>⟨(aC0 h1 h2 n).2.neg,(aC0 h1 h2 n).1⟩
theorem Un.prod {u x s:Rat} (h:Un u) (b:BQ 4400 (x * s)):BQ 4400 (x * (u * s)):=by
 rcases h with rfl | rfl | rfl
 ·rw [show x * (0 * s) = 0 by grind];exact bqz.mono (by decide)
 ·rw [show x * (1 * s) = x * s by grind];exact b
 ·rw [show x * (-1 * s) = -(x * s) by grind];exact b.neg
theorem aEn {n:Nat} {h:Int} (hh:h = 1 ∨ h = -1):(Un (rq 1 0 n).1/\Un (rq 1 0 n).2)/\Un (rq 0 (h:Rat) n).1/\Un (rq 0 (h:Rat) n).2:=by
 have k:Un (h:Rat):=by
  rcases hh with rfl | rfl
  ·exact .inr (.inl rfl)
  ·exact .inr (.inr rfl)
 exact ⟨aC0 (.inr (.inl rfl)) (.inl rfl) n,aC0 (.inl rfl) k n⟩
noncomputable def jD:DSp:=fun ds M Q=>∃ px py t h s x y,ds = [mt px py t h s,PQ x y]/\eM px py t h s 4400/\LdB 4400 s x y/\Q (PQ (ldX px t h s x y) (ldY py t h s x y)) M
noncomputable abbrev sR:Stmt:=top 69
theorem eW:aS ["_law_matrix_here","_law_p","_law_a","_law_b","_law_c","_law_d","_law_place","_law_x","_law_y"] ["_law_matrix_here","_law_p"] (aK sR):=⟨rfl,rfl,rfl,by decide +kernel,rfl,by decide +kernel,by decide +kernel⟩
theorem aBp (hF:cA K mg "_law_led" sR ["_law_matrix_here","_law_p"]) (bV:Has P w K mg base 102 "_law_plus" ["_law_one","_law_other"] fC) (aZ:Has P w K mg base 102 "_law_times" ["_law_one","_law_other"] cK):Has P w K mg base 103 "_law_led" ["_law_matrix_here","_law_p"] jD:=by
 refine Has.mkZ hF eW (fun ds M Q ⟨a,b,c,d,e,f,g,z,_⟩=>by rw [z];rfl) fun f cdv A outer s H ds M Q E hr h=>?_
 obtain ⟨px,py,t,h,sz,x,y,rfl,g,ld,q⟩:=h
 obtain ⟨b1,b2,b3,b4⟩:=id ld
 obtain ⟨_,p1,p2⟩:=ld.rq g.2.2.2.2.1 t.toNat
 rw [(oD x y (h:Rat) t.toNat).1] at p1
 rw [(oD x y (h:Rat) t.toNat).2] at p2
 obtain ⟨⟨w1,w2⟩,w3,w4⟩:=aEn (n:=t.toNat) g.2.2.2.2.1
 refine ⟨_,(aE (eS (aB 0) (eQ (n:=2) rfl (aU (eQ (n:=4) rfl (aU (aR (i:=2) eW.nd) (aU (aR (i:=3) eW.nd) (aU (aR (i:=4) eW.nd) (aU (aR (i:=5) eW.nd) dO))))) (aU (aR (i:=6) eW.nd) dO))))
  (aE (aM (i:=7) eW.nd (aF bV hr (by decide) (aA (aF aZ hr (by decide) (aA (aH (aB 1) aC) (aA (aB 2) aD))) (aA (aF aZ hr (by decide) (aA (aH (aB 1) aC) (aA (aB 4) aD))) aD))))
  (aE (aM (i:=8) eW.nd (aF bV hr (by decide) (aA (aF aZ hr (by decide) (aA (aH (aB 1) aC) (aA (aB 3) aD))) (aA (aF aZ hr (by decide) (aA (aH (aB 1) aC) (aA (aB 5) aD))) aD))))
  (aG (aP (aI (aA (aF bV hr (by decide) (aA (aB 7) (aA (aH (aB 6) aC) aD))) (aA (aF bV hr (by decide) (aA (aB 8) (aA (aH (aB 6) aC) aD))) aD)))))))),?_⟩
 obtain ⟨u1,u2,u3,u4⟩:=aDc (n:=t.toNat) g.2.2.2.2.1
 have bs:=g.2.2.2.2.2.2
 unfold ldX ldY at q
 rw [(oD x y (h:Rat) t.toNat).1,(oD x y (h:Rat) t.toNat).2] at q
 unfold mt
 decreasing_tactic
 refine ⟨rfl,rfl,?_⟩
 have v1:=w1.prod b3
 have v2:=w3.prod b4
 have v3:=w2.prod b3
 have v4:=w4.prod b4
 have e0:∀ a b:Rat,x * (a * sz) + y * (b * sz) = (x * a + y * b) * sz:=fun a b=>by grind
 have p1':=p1
 have p2':=p2
 rw [<- e0] at p1' p2'
 refine gE b1 (u1.mul bs) (by decide) (gE b2 (u3.mul bs) (by decide) (oY v1 v2 (by decide) (gE b1 (u2.mul bs) (by decide) (gE b2 (u4.mul bs) (by decide) (oY v3 v4 (by decide) (oY p1' g.1 (by decide) (oY p2' g.2.1 (by decide) ⟨by decide,M,.refl _,?_⟩)))))))
 have e:∀ a b s p:Rat,x * (a * s) + y * (b * s) + p = (x * a + y * b) * s + p:=fun a b s p=>by grind
 rw [e,e]
 exact q
inductive Sk where
 | dot (x y:Rat) | arc (a b c d e f:Rat) | str (x y u v:Rat)
noncomputable def skW:Sk->Str
 | .dot _ _=>"dot"
 | .arc _ _ _ _ _ _=>"arc"
 | .str _ _ _ _=>"stretch"
noncomputable def skP:Sk->List D
 | .dot x y=>[PQ x y]
 | .arc a b c d e f=>[PQ a b,PQ c d,PQ e f]
 | .str x y u v=>[PQ x y,PQ u v]
theorem aC5 {px py s x y:Rat} {t h:Int} {M:DM} {Q:DQ} (g:eM px py t h s 4000) (l:lC s x y) (q:Q (PQ (ldX px t h s x y) (ldY py t h s x y)) M):jD [mt px py t h s,PQ x y] M Q:=⟨_,_,_,_,_,_,_,rfl,eM.mono g (by decide),l.up,q⟩
theorem aAO {px py s x y:Rat} {t h:Int} {M:DM} {Q:DQ} (g:eM px py t h s 4400) (l:LdB 4400 s x y) (q:Q (PQ (ldX px t h s x y) (ldY py t h s x y)) M):jD [mt px py t h s,PQ x y] M Q:=⟨_,_,_,_,_,_,_,rfl,g,l,q⟩
theorem aEB (h:Rat):∀ n,(rq 1 0 n).1 * (rq 0 h n).2 - (rq 1 0 n).2 * (rq 0 h n).1 = h
 | 0=>by show 1 * h - 0 * 0 = h;grind
 | n + 1=>by
  have ih:=aEB h n
  show -(rq 1 0 n).2 * (rq 0 h n).1 - (rq 1 0 n).1 * -(rq 0 h n).2 = h
  grind
theorem aDO (h s:Rat) (n:Nat):(rq 1 0 n).1 * s * ((rq 0 h n).2 * s) + -1 * ((rq 1 0 n).2 * s * ((rq 0 h n).1 * s)) = h * (s * s):=by
 have:=aEB h n
 grind
theorem aCh {h:Int} (hh:h = 1 ∨ h = -1) {s:Rat} (s0:0 < s):((h:Rat) * (s * s)).num < 0 ↔ h = -1:=by
 have:=Rat.mul_pos s0 s0
 rw [qI]
 rcases hh with rfl | rfl
 ·rw [show (((1:Int)):Rat) = 1 from rfl]
  constructor
  ·intro z;grind
  ·intro z;omega
 ·rw [show (((-1:Int)):Rat) = -1 from rfl]
  constructor
  ·intro z;rfl
  ·intro z;grind
theorem aFE:(D.tup [.int (-1),.int 1]) = FQ (-1):=rfl
noncomputable def aGz (px py:Rat) (t h:Int) (s:Rat):Sk->Prop
 | .dot x y=>lC s x y
 | .str x y u v=>(lC s x y/\lC s u v)/\(BQ 4000 (ldX px t h s x y)/\BQ 4000 (ldY py t h s x y))/\BQ 4000 (ldX px t h s u v)/\BQ 4000 (ldY py t h s u v)
 | .arc a b c d e f=>lC s a b/\lC s c d/\lC s e f
theorem aI9 {p q:Int} (h:p ≠ 0 ∨ q ≠ 0):0 < q * q + p * p:=by
 have n:∀ z:Int,0<=z * z:=fun z=>by
  rcases Int.le_total 0 z with c | c
  ·exact Int.mul_nonneg c c
  ·exact Int.mul_nonneg_of_nonpos_of_nonpos c c
 have k:∀ z:Int,z ≠ 0->z * z ≠ 0:=fun z hz=>Int.mul_ne_zero hz hz
 have h1:=n p
 have h2:=n q
 rcases h with h | h
 ·have:=k p h;omega
 ·have:=k q h;omega
theorem aLA {p q:Int} (h:0 < q * q + p * p) {uu vv:Rat} (hu:((q * q - p * p:Int):Rat) / ((q * q + p * p:Int):Rat) = uu) (hv:((2 * p * q:Int):Rat) / ((q * q + p * p:Int):Rat) = vv):uu * uu + vv * vv = 1:=by
 have n0:((q * q + p * p:Int):Rat) ≠ 0:=by
  have:=yF h
  grind
 rw [<- hu,<- hv]
 rw [Rat.intCast_sub,Rat.intCast_add,Rat.intCast_mul,Rat.intCast_mul,Rat.intCast_mul,Rat.intCast_mul] at *
 rw [show (((2:Int)):Rat) = 2 from rfl]
 generalize (p:Rat) = a at *
 generalize (q:Rat) = b at *
 grind
theorem aH2 {x y uu vv:Rat} (c:uu * uu + vv * vv = 1) (nz:¬ (x = 0/\y = 0)):¬ (x = x + (uu * (x * -1) + vv * y)/\y = y + (vv * (x * -1) + uu * (y * -1)))/\xJ x y 0 0 = xJ x y (x + (uu * (x * -1) + vv * y)) (y + (vv * (x * -1) + uu * (y * -1))):=by
 have e:xJ x y 0 0 = xJ x y (x + (uu * (x * -1) + vv * y)) (y + (vv * (x * -1) + uu * (y * -1))):=by
  unfold xJ
  have:(x + (uu * (x * -1) + vv * y) - x) * (x + (uu * (x * -1) + vv * y) - x) + (y + (vv * (x * -1) + uu * (y * -1)) - y) * (y + (vv * (x * -1) + uu * (y * -1)) - y) = (uu * uu + vv * vv) * (x * x + y * y):=by grind
  rw [this,c]
  grind
 refine ⟨fun z=>?_,e⟩
 rw [zB.mpr z] at e
 exact nz (zB.mp e)
theorem Wh.dv {D:Nat} {x:Rat} (h:Wh x):Dv D x:=by
 obtain ⟨z,rfl,_,_⟩:=h
 exact ⟨z * (D:Int),by rw [Rat.intCast_mul,Rat.intCast_natCast]⟩
theorem Wh.ab {x:Rat} (h:Wh x):Ab 20 x:=by
 obtain ⟨z,rfl,h1,h2⟩:=h
 have a:(((-20:Int)):Rat)<=(z:Rat):=by exact_mod_cast h1
 have b:(z:Rat)<=((20:Int):Rat):=by exact_mod_cast h2
 exact ⟨a,b⟩
theorem Wh.neg {x:Rat} (h:Wh x):Wh (x * -1):=by
 obtain ⟨z,rfl,h1,h2⟩:=h
 exact ⟨-z,by rw [Rat.intCast_neg];grind,by omega,by omega⟩
theorem Wh.mul {D:Nat} {x y:Rat} (h:Wh x) (d:Dv D y):Dv D (y * x):=by
 obtain ⟨z,rfl,h1,h2⟩:=h
 obtain ⟨a,ha⟩:=d
 exact ⟨a * z,by rw [Rat.intCast_mul,<- ha];grind⟩
theorem aFx {x y uu vv:Rat} {pp qq:Int} (wx:Wh x) (wy:Wh y) (pos:0 < qq * qq + pp * pp) (bd:Bd 9 (qq * qq + pp * pp)) (hu:((qq * qq - pp * pp:Int):Rat) / ((qq * qq + pp * pp:Int):Rat) = uu) (hv:((2 * pp * qq:Int):Rat) / ((qq * qq + pp * pp:Int):Rat) = vv) (bu:BQ 9 uu) (bv:BQ 10 vv):∃ A:Nat,0 < A/\A<=2 ^ 48/\plG A (2 ^ 25) (.arc x y (x + (uu * (x * -1) + vv * y)) (y + (vv * (x * -1) + uu * (y * -1)))):=by
 generalize qq * qq + pp * pp = c at *
 have c0:(c:Rat) ≠ 0:=by
  have:=yF pos
  grind
 have ec:((c.toNat:Nat):Rat) = (c:Rat):=by
  rw [<- Rat.intCast_natCast,Int.toNat_of_nonneg (by omega)]
 have du:Dv c.toNat uu:=⟨_,by rw [ec,<- hu];exact Rat.div_mul_cancel c0⟩
 have dv:Dv c.toNat vv:=⟨_,by rw [ec,<- hv];exact Rat.div_mul_cancel c0⟩
 have au:=tK bu
 have av:=tK bv
 have hc:c.natAbs < 2 ^ 9:=bd
 have k {z:Rat} (h:Wh z):Dv c.toNat z/\Ab (2 ^ 25) z:=⟨h.dv,h.ab.mono (by decide)⟩
 exact ⟨c.toNat,by omega,by omega,⟨k wx,k wy⟩,⟨wx.dv.add ((wx.neg.mul du).add (wy.mul dv)),(wx.ab.add ((au.mul wx.neg.ab).add (av.mul wy.ab))).mono (by decide)⟩,wy.dv.add ((wx.neg.mul dv).add (wy.neg.mul du)),(wy.ab.add ((av.mul wx.neg.ab).add (au.mul wy.neg.ab))).mono (by decide)⟩
noncomputable def wQ:DSp:=fun ds M Q=>∃ (a:Addr) (n:Nat) (L:List D),ds = [.ref a]/\M a = some L/\kC n L/\5<=n/\∀ x y u v,BQ 100 x->BQ 100 y->BQ 100 u->BQ 100 v->¬ (x = 0/\y = 0)->¬ (x = u/\y = v)->xJ x y 0 0 = xJ x y u v->(∃ A:Nat,0 < A/\A<=2 ^ 48/\plG A (2 ^ 25) (.arc x y u v))->Q (.tup [FQ x,FQ y,FQ u,FQ v]) M
noncomputable abbrev sD:Stmt:=top 60
theorem dY:aS ["_law_row_here","_law_x","_law_y","_law_p","_law_q","_law_u","_law_v","_law_back","_law_right","_law_up"] ["_law_row_here"] (aK sD):=⟨rfl,rfl,rfl,by decide +kernel,rfl,by decide +kernel,by decide +kernel⟩
theorem aBl (hF:cA K mg "_law_bow" sD ["_law_row_here"]) (eF:Has P w K mg base 102 "_law_drawn" ["_law_one","_law_other"] mB) (bP:Has P w K mg base 101 "_law_ratio" ["_law_top","_law_bottom"] fJ) (bV:Has P w K mg base 102 "_law_plus" ["_law_one","_law_other"] fC) (aZ:Has P w K mg base 102 "_law_times" ["_law_one","_law_other"] cK) (aE3:mg "min" = none):Has P w K mg base 103 "_law_bow" ["_law_row_here"] wQ:=by
 refine Has.mkZ hF dY (fun ds M Q ⟨a,n,L,e,_⟩=>by rw [e];rfl) fun f cdv A outer s H ds M Q E hr h=>?_
 obtain ⟨a,n,L,rfl,ha,hL,hn,q⟩:=h
 refine ⟨_,(aE (oO (i:=1) (j:=2) rfl dY.nd (aA (aF eF hr (by decide) (aA (aH (aB 0) aC) (aA aC aD))) (aA (aF eF hr (by decide) (aA (aH (aB 0) aC) (aA aC aD))) aD)))
  (kM (bC (mJ (lQ (aQ (cN hr) (aH (aB 1) aC) aC) (kK (aQ (cN hr) (aH (aB 2) aC) aC)))) (aG (aM (i:=2) dY.nd (aI (aA aC (aA aC aD))))) aW)
  (aE (eS (aH (bA (aA (aI (aA aC (aA aC aD))) (aA (aI (aA aC (aA aC aD))) (aA (aI (aA (aN jW (aN cW (aH (aB 0) aC) aC) aC) (aA (aN cP aC (aN cW (aH (aB 0) aC) aC)) aD))) aD)))) (eC (aJs rfl) aE3 (aA aC (aA (aN cW (aH (aB 0) aC) aC) aD)))) (eQ (n:=2) rfl (aU (aR (i:=3) dY.nd) (aU (aR (i:=4) dY.nd) dO))))
  (aE (aM (i:=5) dY.nd (aF bP hr (by decide) (aA (aN jW (aN cB (aB 4) (aB 4)) (aN cB (aB 3) (aB 3))) (aA (aN cP (aN cB (aB 4) (aB 4)) (aN cB (aB 3) (aB 3))) aD))))
  (aE (aM (i:=6) dY.nd (aF bP hr (by decide) (aA (aN cB (aN cB aC (aB 3)) (aB 4)) (aA (aN cP (aN cB (aB 4) (aB 4)) (aN cB (aB 3) (aB 3))) aD))))
  (aE (aM (i:=7) dY.nd (aI (aA (cQ aC) (aA aC aD))))
  (aE (aM (i:=8) dY.nd (aF bV hr (by decide) (aA (aF aZ hr (by decide) (aA (aB 5) (aA (aF aZ hr (by decide) (aA (aB 1) (aA (aB 7) aD))) aD))) (aA (aF aZ hr (by decide) (aA (aB 6) (aA (aB 2) aD))) aD))))
  (aE (aM (i:=9) dY.nd (aF bV hr (by decide) (aA (aF aZ hr (by decide) (aA (aB 6) (aA (aF aZ hr (by decide) (aA (aB 1) (aA (aB 7) aD))) aD))) (aA (aF aZ hr (by decide) (aA (aB 5) (aA (aF aZ hr (by decide) (aA (aB 2) (aA (aB 7) aD))) aD))) aD))))
  (aG (aP (aI (aA (aB 1) (aA (aB 2) (aA (aF bV hr (by decide) (aA (aB 1) (aA (aB 8) aD))) (aA (aF bV hr (by decide) (aA (aB 2) (aA (aB 9) aD))) aD))))))))))))))),?_⟩
 decreasing_tactic
 obtain ⟨z0,e0,_⟩:=hL.at (i:=0) (by omega)
 obtain ⟨z1,e1,_⟩:=hL.at (i:=1) (by omega)
 obtain ⟨z2,e2,_⟩:=hL.at (i:=2) (by omega)
 obtain ⟨z3,e3,_⟩:=hL.at (i:=3) (by omega)
 obtain ⟨z4,e4,_⟩:=hL.at (i:=4) (by omega)
 refine ⟨_,_,ha,e0,_,_,rfl,fun x hx wx=>?_⟩
 decreasing_tactic
 refine ⟨_,_,ha,e1,_,_,rfl,fun y hy wy=>?_⟩
 decreasing_tactic
 refine ⟨fun ρ' M'=>M = M'/\∃ y:Rat,ρ' = [some (.ref a),some (FQ x),some (FQ y),none,none,none,none,none,none,none]/\BQ 24 y/\¬ (x = 0/\y = 0)/\((1:Int).fmod 5 ≠ 4->(1:Int).fmod 3 ≠ 2->Wh y),?_,?_⟩
 ·rw [iI]
  refine dif (fun c1=>?_) (fun c1=>?_)
  ·rw [iI]
   refine dif (fun c2=>?_) (fun c2=>?_)
   ·exact ⟨by decide,rfl,2,rfl,⟨by unfold Bd;decide,by unfold Bd;decide⟩,(fun z=>absurd z.2 (by decide)),fun _ _=>⟨2,rfl,by decide,by decide⟩⟩
   ·exact ⟨rfl,y,rfl,hy,(fun z=>c2 (by rw [z.2];rfl)),wy⟩
  ·exact ifF rfl ⟨rfl,y,rfl,hy,(fun z=>c1 (by rw [z.1];rfl)),wy⟩
 ·clear hy wy y
  rintro _ _ ⟨rfl,y,rfl,hy,nz,wy⟩
  decreasing_tactic
  refine ⟨by decide,by decide,_,_,ha,e2,?_⟩
  decreasing_tactic
  refine ⟨by decide,_,_,ha,e3,?_⟩
  decreasing_tactic
  refine ⟨by decide,by decide,by decide,fun p hp=>?_⟩
  refine ⟨_,_,by rw [bS (tL ha hp)];exact ha,e4,?_⟩
  decreasing_tactic
  have a1:=Int.fmod_nonneg_of_pos z2 (show (0:Int) < 19 by decide)
  have a2:=Int.fmod_lt_of_pos z2 (show (0:Int) < 19 by decide)
  have a3:=Int.fmod_nonneg_of_pos z3 (show (0:Int) < 9 by decide)
  have a4:=Int.fmod_lt_of_pos z3 (show (0:Int) < 9 by decide)
  obtain ⟨pp,qq,ek,p0,p1,q0,q1,np⟩:∃ pp qq:Int,atI [D.tup [.int 1,.int 0],.tup [.int 0,.int 1],.tup [.int (z2.fmod 19 - 9),.int (1 + z3.fmod 9)]] (if z4.fmod 8 < 2 then z4.fmod 8 else 2) = some (.tup [.int pp,.int qq])/\-10<=pp/\pp<=10/\-10<=qq/\qq<=10/\(pp ≠ 0 ∨ qq ≠ 0):=by
   have b1:=Int.fmod_nonneg_of_pos z4 (show (0:Int) < 8 by decide)
   by_cases c:z4.fmod 8 < 2
   ·rw [if_pos c]
    have:z4.fmod 8 = 0 ∨ z4.fmod 8 = 1:=by omega
    rcases this with e | e<;>rw [e]
    ·exact ⟨1,0,rfl,by decide,by decide,by decide,by decide,.inl (by decide)⟩
    ·exact ⟨0,1,rfl,by decide,by decide,by decide,by decide,.inr (by decide)⟩
   ·rw [if_neg c]
    exact ⟨_,_,rfl,by omega,by omega,by omega,by omega,.inr (by omega)⟩
  have s1:=aX.new hp [D.tup [.int 1,.int 0],.tup [.int 0,.int 1],.tup [.int (z2.fmod 19 - 9),.int (1 + z3.fmod 9)]]
  have bp:Bd 4 pp:=Bd.of (by omega) (by omega)
  have bq:Bd 4 qq:=Bd.of (by omega) (by omega)
  refine ⟨by decide,_,_,aJ,ek,?_⟩
  decreasing_tactic
  have pos:0 < qq * qq + pp * pp:=aI9 np
  have bu:BQ 9 (((qq * qq - pp * pp:Int):Rat) / ((qq * qq + pp * pp:Int):Rat)):=.make (by omega) (bq.mul bq |>.sub (bp.mul bp)) (bq.mul bq |>.add (bp.mul bp))
  have bv:BQ 10 (((2 * pp * qq:Int):Rat) / ((qq * qq + pp * pp:Int):Rat)):=.make (by omega) (((Bd.mul (m:=2) (x:=2) (by unfold Bd;decide) bp).mul bq)) ((bq.mul bq |>.add (bp.mul bp)).mono (by decide))
  have bd:Bd 9 (qq * qq + pp * pp):=bq.mul bq |>.add (bp.mul bp)
  generalize hu:((qq * qq - pp * pp:Int):Rat) / ((qq * qq + pp * pp:Int):Rat) = uu at bu
  generalize hv:((2 * pp * qq:Int):Rat) / ((qq * qq + pp * pp:Int):Rat) = vv at bv
  have m1:BQ 2 (-1):=⟨by unfold Bd;decide,by unfold Bd;decide⟩
  refine ⟨rfl,hJ bq bq,hJ bp bp,hJ bq bq,hJ bp bp,_,_,rfl,pos,bd.mono (by decide),eX (by unfold Bd;decide),hJ ((Bd.mul (m:=2) (x:=2) (by unfold Bd;decide) bp)) bq,hJ bq bq,hJ bp bp,_,_,rfl,pos,bd.mono (by decide),?_⟩
  rw [hu,hv,aFE]
  have w3:=hx.mul m1
  have w4:=bu.mul w3
  have w5:=bv.mul hy
  have w8:=bv.mul w3
  have w9:=hy.mul m1
  have w10:=bu.mul w9
  have bk:=aH2 (x:=x) (y:=y) (aLA pos hu hv) nz
  exact ⟨by decide,gE hx m1 (by decide) (gE bu w3 (by decide) (gE bv hy (by decide) (oY w4 w5 (by decide) (gE hx m1 (by decide) (gE bv w3 (by decide) (gE hy m1 (by decide) (gE bu w9 (by decide) (oY w8 w10 (by decide) (oY hx (w4.add w5) (by decide) (oY hy (w8.add w10) (by decide) ⟨by decide,M,s1,q _ _ _ _ (hx.mono (by decide)) (hy.mono (by decide)) ((hx.add (w4.add w5)).mono (by decide)) ((hy.add (w8.add w10)).mono (by decide)) nz bk.1 bk.2 (aFx (wx (by decide) (by decide)) (wy (by decide) (by decide)) pos bd hu hv bu bv)⟩))))))))))⟩
theorem aGa {n:Nat} {L:List D} (h:kC n L) (lo hi:Nat) (l:lo<=hi) (r:hi<=n):kC (hi - lo) (Dd.cutD L (some (lo:Int)) (some (hi:Int))):=by
 unfold Dd.cutD
 rw [h.1,HT.sIx_nat,HT.sIx_nat,Nat.min_eq_left (by omega),Nat.min_eq_left (by omega)]
 exact ⟨by rw [List.length_take,List.length_drop,h.1];omega,fun d hd=>h.2 d (List.mem_of_mem_drop (List.mem_of_mem_take hd))⟩
noncomputable def mtF (f:Fm):D:=mt f.px f.py f.t f.h f.s
theorem aKI (h:Rat) (n:Nat):rq 1 (h * 0) n = rq 1 0 n:=by rw [show h * 0 = 0 by grind]
theorem aLy (h:Rat) (n:Nat):rq 0 (h * 1) n = rq 0 h n:=by rw [show h * 1 = h by grind]
theorem aGj {f g:Fm} (hf:f.Ok) (hg:g.Ok) :
  (ldX 0 f.t f.h f.s ((rq 1 0 g.t.toNat).1 * g.s) ((rq 1 0 g.t.toNat).2 * g.s) = (rq 1 0 (f.comp g).t.toNat).1 * (f.comp g).s/\ldY 0 f.t f.h f.s ((rq 1 0 g.t.toNat).1 * g.s) ((rq 1 0 g.t.toNat).2 * g.s) = (rq 1 0 (f.comp g).t.toNat).2 * (f.comp g).s) /\
  (ldX 0 f.t f.h f.s ((rq 0 (g.h:Rat) g.t.toNat).1 * g.s) ((rq 0 (g.h:Rat) g.t.toNat).2 * g.s) = (rq 0 ((f.comp g).h:Rat) (f.comp g).t.toNat).1 * (f.comp g).s/\ldY 0 f.t f.h f.s ((rq 0 (g.h:Rat) g.t.toNat).1 * g.s) ((rq 0 (g.h:Rat) g.t.toNat).2 * g.s) = (rq 0 ((f.comp g).h:Rat) (f.comp g).t.toNat).2 * (f.comp g).s):=by
 have z:∀ t h s,ldX 0 t h s 0 0 = 0/\ldY 0 t h s 0 0 = 0:=fun t h s=>by
  have r0:∀ n,rq 0 ((h:Rat) * 0) n = (0,0):=fun n=>by
   induction n with
   | zero=>rw [rq0];grind
   | succ n ih =>
    show (-(rq 0 ((h:Rat) * 0) n).2,(rq 0 ((h:Rat) * 0) n).1) = _
    rw [ih]
    exact Prod.ext (by grind) rfl
  unfold ldX ldY
  rw [r0]
  constructor<;>grind
 have c1:=aCP (px:=0) (py:=0) (qx:=0) (qy:=0) (s:=f.s) (r:=g.s) (x:=1) (y:=0) hf.1 hf.2.1 hg.1 hg.2.1 hf.2.2 hg.2.2
 have c2:=aCP (px:=0) (py:=0) (qx:=0) (qy:=0) (s:=f.s) (r:=g.s) (x:=0) (y:=1) hf.1 hf.2.1 hg.1 hg.2.1 hf.2.2 hg.2.2
 rw [(z _ _ _).1,(z _ _ _).2] at c1 c2
 have e1:∀ t h s,ldX 0 t h s 1 0 = (rq 1 0 t.toNat).1 * s/\ldY 0 t h s 1 0 = (rq 1 0 t.toNat).2 * s:=fun t h s=>by
  unfold ldX ldY;rw [aKI];constructor<;>grind
 have e2:∀ t (h:Int) s,ldX 0 t h s 0 1 = (rq 0 (h:Rat) t.toNat).1 * s/\ldY 0 t h s 0 1 = (rq 0 (h:Rat) t.toNat).2 * s:=fun t h s=>by
  unfold ldX ldY;rw [aLy];constructor<;>grind
 rw [(e1 _ _ _).1,(e1 _ _ _).1,(e1 _ _ _).2,(e1 _ _ _).2] at c1
 rw [(e2 _ _ _).1,(e2 _ _ _).1,(e2 _ _ _).2,(e2 _ _ _).2] at c2
 exact ⟨⟨c1.1.symm,c1.2.symm⟩,c2.1.symm,c2.2.symm⟩
noncomputable def rA:DSp:=fun ds M Q=>∃ f g:Fm,ds = [mtF f,mtF g]/\f.Good 4400/\g.Good 4400/\BQ 4400 (f.s * g.s)/\LdB 4400 f.s g.px g.py/\Q (mtF (f.comp g)) M
noncomputable abbrev mU:Stmt:=top 70
theorem qG:aS ["_law_one","_law_other","_law_pure"] ["_law_one","_law_other"] (aK mU):=⟨rfl,rfl,rfl,by decide +kernel,rfl,by decide +kernel,by decide +kernel⟩
theorem xZ (hF:cA K mg "_law_after" mU ["_law_one","_law_other"]) (fV:Has P w K mg base 103 "_law_led" ["_law_matrix_here","_law_p"] jD):Has P w K mg base 104 "_law_after" ["_law_one","_law_other"] rA:=by
 refine Has.mkZ hF qG (fun ds M Q ⟨_,_,z,_⟩=>by rw [z];rfl) fun f cdv A outer s H ds M Q E hr h=>?_
 obtain ⟨f,g,rfl,gf,gg,bfg,ldg,q⟩:=h
 refine ⟨_,(aE (aM (i:=2) qG.nd (aI (aA (aH (aB 0) aC) (aA (aI (aA (aI (aA aC (aA aC aD))) (aA (aI (aA aC (aA aC aD))) aD))) aD))))
  (aG (aP (aI (aA (aN cP (aF fV hr (by decide) (aA (aB 2) (aA (fA (aH (aB 1) aC) nZ (dH aC)) aD))) (aF fV hr (by decide) (aA (aB 2) (aA (fA (aH (aB 1) aC) (dH aC) nZ) aD)))) (aA (aF fV hr (by decide) (aA (aB 0) (aA (aH (aB 1) aC) aD))) aD)))))),?_⟩
 have gp:eM 0 0 f.t f.h f.s 4400:=⟨bqz.mono (by decide),bqz.mono (by decide),gf.2.2.1,gf.2.2.2.1,gf.2.2.2.2.1,gf.2.2.2.2.2.1,gf.2.2.2.2.2.2⟩
 obtain ⟨⟨w1,w2⟩,w3,w4⟩:=aEn (n:=g.t.toNat) gg.2.2.2.2.1
 have bs:=gg.2.2.2.2.2.2
 have one:∀ {u:Rat},Un u->BQ 4400 (u * g.s)/\BQ 4400 (u * g.s * f.s):=fun {u} h=>by
  have h1:BQ 4400 (1 * g.s):=by rw [Rat.one_mul];exact bs
  have h2:=h.prod (x:=1) (s:=g.s) h1
  have h3:=h.prod (x:=f.s) (s:=g.s) bfg
  rw [Rat.one_mul] at h2
  exact ⟨h2,by rw [show u * g.s * f.s = f.s * (u * g.s) by grind];exact h3⟩
 have m {x y:Rat} (h1:Un x) (h2:Un y):LdB 4400 f.s (x * g.s) (y * g.s):=⟨(one h1).1,(one h2).1,(one h1).2,(one h2).2⟩
 obtain ⟨⟨e1,e2⟩,e3,e4⟩:=aGj gf.ok gg.ok
 unfold mtF mt at *
 decreasing_tactic
 rw [show Dd.cutD [FQ ((rq 1 0 g.t.toNat).1 * g.s),FQ ((rq 1 0 g.t.toNat).2 * g.s),FQ ((rq 0 (g.h:Rat) g.t.toNat).1 * g.s),FQ ((rq 0 (g.h:Rat) g.t.toNat).2 * g.s)] none (some 2) = [FQ ((rq 1 0 g.t.toNat).1 * g.s),FQ ((rq 1 0 g.t.toNat).2 * g.s)] from rfl,show Dd.cutD [FQ ((rq 1 0 g.t.toNat).1 * g.s),FQ ((rq 1 0 g.t.toNat).2 * g.s),FQ ((rq 0 (g.h:Rat) g.t.toNat).1 * g.s),FQ ((rq 0 (g.h:Rat) g.t.toNat).2 * g.s)] (some 2) none = [FQ ((rq 0 (g.h:Rat) g.t.toNat).1 * g.s),FQ ((rq 0 (g.h:Rat) g.t.toNat).2 * g.s)] from rfl]
 refine ⟨by decide,by decide,by decide,by decide,?_⟩
 refine aAO (px:=0) (py:=0) gp (m w1 w2) (aAO (px:=0) (py:=0) gp (m w3 w4) ?_)
 rw [e1,e2,e3,e4]
 refine ⟨List.cons_ne_nil _ _,List.cons_ne_nil _ _,Nat.le_of_ble_eq_true rfl,?_⟩
 refine aAO (px:=f.px) (py:=f.py) gf ldg ⟨by decide,bW ?_⟩
 exact q
theorem e13:FQ (1 / 3:Rat) = D.tup [.int 1,.int 3]:=by
 unfold FQ
 rw [show (1 / 3:Rat).num = 1 by decide +kernel,show (1 / 3:Rat).den = 3 by decide +kernel];rfl
theorem g1 {a:Rat} (h:BQ 24 a):∃ A:Nat,0 < A/\A<=2 ^ 48/\Dv A a/\Ab (2 ^ 25) a :=
 ⟨a.den,a.den_pos,Nat.le_trans (Nat.le_of_lt (show a.den < 2 ^ 24 from h.2)) (by decide),.own a,(tK h).mono (by decide)⟩
theorem gh {a:Rat} (h:BQ 24 a):∃ A:Nat,0 < A/\A<=2 ^ 48/\Dv A a/\Ab (2 ^ 25) a/\Ab (2 ^ 25) (a + a) :=
 ⟨a.den,a.den_pos,Nat.le_trans (Nat.le_of_lt (show a.den < 2 ^ 24 from h.2)) (by decide),.own a,(tK h).mono (by decide),((tK h).add (tK h)).mono (by decide)⟩
theorem g2 {a b:Rat} (h:BQ 24 a) (h2:BQ 24 b):∃ A:Nat,0 < A/\A<=2 ^ 48/\(Dv A a/\Ab (2 ^ 25) a)/\Dv A b/\Ab (2 ^ 25) b :=
 ⟨a.den * b.den,Nat.mul_pos a.den_pos b.den_pos,Nat.le_trans (Nat.mul_le_mul (Nat.le_of_lt (show a.den < 2 ^ 24 from h.2)) (Nat.le_of_lt (show b.den < 2 ^ 24 from h2.2))) (by decide),⟨(Dv.own a).up _,(tK h).mono (by decide)⟩,(Dv.own b).up' _,(tK h2).mono (by decide)⟩
theorem g3 {t b:Int} (t0:0 < t) (t1:t<=12) (b0:0 < b) (b1:b<=12):plG 1 (2 ^ 25) (.grow ((t:Rat) / (b:Rat))):=by
 have c0:(b:Rat) ≠ 0:=by
  have:=yF b0
  grind
 refine ⟨t.toNat,b.toNat,by omega,by omega,?_⟩
 rw [<- Rat.intCast_natCast,<- Rat.intCast_natCast,Int.toNat_of_nonneg (by omega),Int.toNat_of_nonneg (by omega)]
 exact Rat.div_mul_cancel c0
theorem b13:BQ 24 (1 / 3):=⟨by unfold Bd;decide +kernel,by unfold Bd;decide +kernel⟩
noncomputable def lX:DSp:=fun ds M Q=>∃ (a:Addr) (n:Nat) (L:List D),ds = [.ref a]/\M a = some L/\kC n L/\8<=n/\∀ p,plB 100 p->(∃ A:Nat,0 < A/\A<=2 ^ 48/\plG A (2 ^ 25) p)->Q (plD p) M
noncomputable abbrev nJ:Stmt:=top 61
theorem iH:aS ["_law_row_here","_law_words","_law_word","_law_one"] ["_law_row_here"] (aK nJ):=⟨rfl,rfl,rfl,by decide +kernel,rfl,by decide +kernel,by decide +kernel⟩
theorem xM (hF:cA K mg "_law_plain" nJ ["_law_row_here"]) (hG:mg "int" = none) (eF:Has P w K mg base 102 "_law_drawn" ["_law_one","_law_other"] mB) (bP:Has P w K mg base 101 "_law_ratio" ["_law_top","_law_bottom"] fJ) (sO:Has P w K mg base 103 "_law_bow" ["_law_row_here"] wQ):Has P w K mg base 104 "_law_plain" ["_law_row_here"] lX:=by
 refine Has.mkZ hF iH (fun ds M Q ⟨_,_,_,z,_⟩=>by rw [z];rfl) fun f cdv A outer s H ds M Q E hr h=>?_
 obtain ⟨a,n,L,rfl,ha,hL,hn,q⟩:=h
 refine ⟨_,(aE (aM (i:=1) iH.nd (bA (aA aL (aA aL (aA aL (aA aL (aA aL (aA aL (aA aL (aA aL (aA aL (aA aL (aA aL (aA aL (aA aL aD)))))))))))))))
  (aE (aM (i:=2) iH.nd (aH (aN cP (aB 1) (bA (aA aL (aA aL (aA aL aD))))) (aN cW (aH (aB 0) aC) aC)))
  (aE (aM (i:=3) iH.nd (aF eF hr (by decide) (aA (aH (aB 0) aC) (aA (aH (aB 0) aC) aD))))
  (aE (bC (aQ wX (aB 2) (bA (aA aL (aA aL aD))) rfl) (aG (aP (aI (aA (aB 2) (aA (aB 3) aD))))) aW)
  (aE (bC (aQ (cN hr) (aB 2) aL) (aG (aP (aI (aA (aB 2) (aA (aB 3) (aA (aF eF hr (by decide) (aA (aH (aB 0) aC) (aA (aH (aB 0) aC) aD))) aD)))))) aW)
  (aE (bC (aQ (cN hr) (aB 2) aL) (aG (aP (aI (aA (aB 2) (aA (aF bP hr (by decide) (aA (aN cP aC (aN cW (aH (aB 0) aC) aC)) (aA (aN cP aC (aN cW (aH (aB 0) aC) aC)) aD))) aD))))) aW)
  (aE (bC (aQ wX (aB 2) (bA (aA aL (aA aL aD))) rfl) (aG (aP (aI (aA (aB 2) (aA (aH (bA (aA (aB 3) (aA (aI (aA aC (aA aC aD))) aD))) (cU kW hG (aA (gF (cN hr) (aH (aB 3) aC) aC) aD))) aD))))) aW)
  (aE (bC (aQ (cN hr) (aB 2) aL) (aG (aP (aN uI (aI (aA (aB 2) aD)) (aF sO hr (by decide) (aA (zD (aB 0) (dH aC) (dH aC)) aD))))) aW)
  (aG (aP (aI (aA (aB 2) aD)))))))))))),?_⟩
 decreasing_tactic
 obtain ⟨z0,e0,_⟩:=hL.at (i:=0) (by omega)
 obtain ⟨z1,e1,_⟩:=hL.at (i:=1) (by omega)
 obtain ⟨z2,e2,_⟩:=hL.at (i:=2) (by omega)
 obtain ⟨z3,e3,_⟩:=hL.at (i:=3) (by omega)
 obtain ⟨z4,e4,_⟩:=hL.at (i:=4) (by omega)
 refine ⟨by decide,fun p0 hp0=>⟨by decide,fun p1 hp1=>?_⟩⟩
 obtain ⟨n10,hp1'⟩:=eD hp1
 refine ⟨_,_,by rw [bS (Ne.symm n10)];exact aJ,aJ,by decide,fun p2 hp2=>?_⟩
 have s1:=((aX.new hp0 [D.str "go",.str "go",.str "side",.str "quarter",.str "half",.str "arc",.str "dot",.str "skip",.str "left",.str "right",.str "round",.str "mirror",.str "grow"]).trans (aX.new hp1 [D.str "side",.str "quarter",.str "arc"])).trans (aX.new hp2 [D.str "go",.str "go",.str "side",.str "quarter",.str "half",.str "arc",.str "dot",.str "skip",.str "left",.str "right",.str "round",.str "mirror",.str "grow",.str "side",.str "quarter",.str "arc"])
 decreasing_tactic
 refine ⟨L,_,s1 _ _ ha,e0,?_⟩
 decreasing_tactic
 obtain ⟨wd,ew,hw⟩:∃ wd:Str,atI [D.str "go",.str "go",.str "side",.str "quarter",.str "half",.str "arc",.str "dot",.str "skip",.str "left",.str "right",.str "round",.str "mirror",.str "grow",.str "side",.str "quarter",.str "arc"] (z0.fmod 16) = some (.str wd)/\(((wd = "go" ∨ wd = "skip") ∨ wd = "side" ∨ wd = "grow") ∨ ((wd = "quarter" ∨ wd = "half") ∨ wd = "arc") ∨ (wd = "dot" ∨ wd = "left") ∨ wd = "right" ∨ wd = "round" ∨ wd = "mirror"):=by
  have h1:=Int.fmod_nonneg_of_pos z0 (show (0:Int) < 16 by decide)
  have h2:=Int.fmod_lt_of_pos z0 (show (0:Int) < 16 by decide)
  have:((z0.fmod 16 = 0 ∨ z0.fmod 16 = 1 ∨ z0.fmod 16 = 2 ∨ z0.fmod 16 = 3) ∨ z0.fmod 16 = 4 ∨ z0.fmod 16 = 5 ∨ z0.fmod 16 = 6 ∨ z0.fmod 16 = 7) ∨ (z0.fmod 16 = 8 ∨ z0.fmod 16 = 9 ∨ z0.fmod 16 = 10 ∨ z0.fmod 16 = 11) ∨ z0.fmod 16 = 12 ∨ z0.fmod 16 = 13 ∨ z0.fmod 16 = 14 ∨ z0.fmod 16 = 15:=by omega
  rcases this with ((e | e | e | e) | e | e | e | e) | (e | e | e | e) | e | e | e | e<;>rw [e]<;>exact ⟨_,rfl,by decide⟩
 refine ⟨by decide,_,_,aJ,ew,?_⟩
 generalize bE (bE (bE M p0 _) p1 _) p2 _ = M2 at s1 ⊢
 refine ⟨L,_,s1 _ _ ha,e1,L,_,s1 _ _ ha,e2,z1,z2,rfl,fun one bone _=>?_⟩
 decreasing_tactic
 refine ⟨by decide,fun p3 hp3=>⟨["go","skip"],aJ,?_⟩⟩
 have s3:=s1.trans (aX.new hp3 [D.str "go",.str "skip"])
 have ha3:=s3 _ _ ha
 decreasing_tactic
 generalize bE M2 p3 _ = M3 at s3 ha3 ⊢
 have m24 {x:Rat} (h:BQ 24 x):BQ 100 x:=h.mono (by decide)
 rcases hw with ((rfl | rfl) | rfl | rfl) | ((rfl | rfl) | rfl) | (rfl | rfl) | rfl | rfl | rfl
 ·exact ifT (by decide) ⟨by decide,M,s3,q (.go one) (m24 bone) (g1 bone)⟩
 ·exact ifT (by decide) ⟨by decide,M,s3,q (.skip one) (m24 bone) (g1 bone)⟩
 ·refine ifF (by decide) ?_
  rw [aO]
  refine ifT (by decide) ⟨L,_,ha3,e3,L,_,ha3,e4,z3,z4,rfl,fun two btwo _=>?_⟩
  decreasing_tactic
  exact ⟨by decide,M,s3,q (.side one two) ⟨m24 bone,m24 btwo⟩ (g2 bone btwo)⟩
 ·refine ifF (by decide) ?_
  rw [aO]
  refine ifF (by decide) ?_
  rw [aO]
  refine ifT (by decide) ⟨L,_,ha3,e1,?_⟩
  decreasing_tactic
  refine ⟨by decide,L,_,ha3,e2,?_⟩
  decreasing_tactic
  have h1:=Int.fmod_nonneg_of_pos z1 (show (0:Int) < 12 by decide)
  have h2:=Int.fmod_lt_of_pos z1 (show (0:Int) < 12 by decide)
  have h3:=Int.fmod_nonneg_of_pos z2 (show (0:Int) < 12 by decide)
  have h4:=Int.fmod_lt_of_pos z2 (show (0:Int) < 12 by decide)
  refine ⟨by decide,_,_,rfl,by omega,(aA2 (by omega) (by omega)).mono (by decide),?_⟩
  decreasing_tactic
  have sp:(0:Rat) < ((1 + z1.fmod 12:Int):Rat) / ((1 + z2.fmod 12:Int):Rat):=vA (yF (by omega)) (yF (by omega))
  exact ⟨by decide,M,s3,q (.grow _) ⟨m24 (aFQ (by omega) (by omega) (by omega) (by omega)),sp⟩ ⟨1,by decide,by decide,g3 (by omega) (by omega) (by omega) (by omega)⟩⟩
 all_goals
  refine ifF (by decide) ?_
  rw [aO]
  refine ifF (by decide) ?_
  rw [aO]
  refine ifF (by decide) ?_
  refine ⟨by decide,fun p4 hp4=>⟨["quarter","half"],aJ,?_⟩⟩
  have s4:=s3.trans (aX.new hp4 [D.str "quarter",.str "half"])
  have ha4:=s4 _ _ ha
  decreasing_tactic
  generalize bE M3 p4 _ = M4 at s4 ha4 ⊢
 case inr.inl.inl.inl =>
  refine ifT (by decide) ⟨by decide,by decide,fun p5 hp5=>?_⟩
  rw [iI]
  by_cases c:one.num = 0
  ·rw [decide_eq_true c]
   have fin:=q (.quarter (1 / 3)) ⟨⟨by unfold Bd;decide +kernel,by unfold Bd;decide +kernel⟩,by decide +kernel⟩ (g1 b13)
   dsimp only [plD] at fin
   rw [e13] at fin
   exact ⟨_,_,aJ,rfl,by decide,M,s4.trans (aX.new hp5 _),fin⟩
  ·rw [decide_eq_false c]
   exact ⟨_,_,aJ,rfl,by decide,M,s4.trans (aX.new hp5 _),q (.quarter one) ⟨m24 bone,fun z=>c (by rw [z];rfl)⟩ (g1 bone)⟩
 case inr.inl.inl.inr =>
  refine ifT (by decide) ⟨by decide,by decide,fun p5 hp5=>?_⟩
  rw [iI]
  by_cases c:one.num = 0
  ·rw [decide_eq_true c]
   have fin:=q (.half (1 / 3)) ⟨⟨by unfold Bd;decide +kernel,by unfold Bd;decide +kernel⟩,by decide +kernel⟩ (gh b13)
   dsimp only [plD] at fin
   rw [e13] at fin
   exact ⟨_,_,aJ,rfl,by decide,M,s4.trans (aX.new hp5 _),fin⟩
  ·rw [decide_eq_false c]
   exact ⟨_,_,aJ,rfl,by decide,M,s4.trans (aX.new hp5 _),q (.half one) ⟨m24 bone,fun z=>c (by rw [z];rfl)⟩ (gh bone)⟩
 case inr.inl.inr =>
  refine ifF (by decide) ?_
  rw [aO]
  refine ifT (by decide) ⟨by decide,L,ha4,fun p5 hp5=>?_⟩
  refine ⟨p5,5,_,rfl,aJ,aGa hL 3 8 (by decide) (by omega),by decide,fun x y u v b1 b2 b3 b4 k1 k2 k3 kg=>?_⟩
  decreasing_tactic
  exact ⟨by decide,M,s4.trans (aX.new hp5 _),q (.arc x y u v) ⟨b1,b2,b3,b4,k1,k2,k3⟩ kg⟩
 all_goals
  refine ifF (by decide) ?_
  rw [aO]
  refine ifF (by decide) ⟨by decide,M,s4,?_⟩
 ·exact q .dot trivial ⟨1,by decide,by decide,trivial⟩
 ·exact q .left trivial ⟨1,by decide,by decide,trivial⟩
 ·exact q .right trivial ⟨1,by decide,by decide,trivial⟩
 ·exact q .rnd trivial ⟨1,by decide,by decide,trivial⟩
 ·exact q .mirror trivial ⟨1,by decide,by decide,trivial⟩
noncomputable def FA (A:Nat) (p:Pl):Prop:=plG A (2 ^ 25) p/\plB 100 p
theorem FA.up {A:Nat} {p:Pl} (h:FA A p) (m:Nat):FA (A * m) p:=⟨h.1.up m,h.2⟩
theorem aFF (A:Nat):FA A .dot:=⟨trivial,trivial⟩
theorem aGs (A:Nat):FA A (.grow (1 / 12)):=⟨⟨1,12,by decide,by decide,by decide +kernel⟩,⟨by unfold Bd;decide +kernel,by unfold Bd;decide +kernel⟩,by decide +kernel⟩
theorem aLB {A:Nat} {p:Pl} (h:FA A p):gwR 704 (.pl p):=by
 cases p with
 | grow a =>
  rw [gwR]
  obtain ⟨t,b,⟨t0,t1⟩,⟨b0,b1⟩,e⟩:=h.1
  exact ⟨t,b,⟨t0,by omega⟩,⟨b0,by omega⟩,e⟩
 | _ =>
     rw [gwR];· trivial
     all_goals (intro _ z;cases z)
theorem SI.up {A m:Nat} {B M:DM} {st:Addr} {es:Es} {c:Nat} (h:SI (FA A) B M st es c):SI (FA (A * m)) B M st es c :=
 ⟨h.sub,h.new,h.hst,h.len,h.sum,fun i x hx=>by
  obtain ⟨⟨a1,a2,a3⟩,a4⟩:=h.ent i x hx
  exact ⟨⟨⟨a1.dp,a1.len,a1.dn,a1.gw,qR (fun p hp=>hp.up m) _ a1.al⟩,a2,a3⟩,a4⟩,h.nod⟩
noncomputable def nQ:DSp:=fun ds M Q=>∃ (p0:Addr) (cs:List Int),ds = [.ref p0]/\M p0 = some (cs.map D.int)/\cs.length<=36/\∀ (rs:List Rw) (A:Nat) (M':DM),0 < A->A<=2 ^ (48 * 36)->(∀ r ∈ rs,Dp 4 r)->rs.length<=40->dnS rs<=300->gwS 704 rs->alS (FA A) rs->aX M M'->Q (.tup (bI rs)) M'
theorem SI.mono {F:Pl->Prop} {B M M':DM} {st:Addr} {es:Es} {c:Nat} (h:SI F B M st es c) (s:aX M M'):SI F B M' st es c :=
 ⟨h.sub.trans s,h.new,s _ _ h.hst,h.len,h.sum,fun i x hx=>by
  obtain ⟨⟨a1,a2,a3⟩,a4⟩:=h.ent i x hx
  exact ⟨⟨a1,s _ _ a2,a3⟩,a4⟩,h.nod⟩
theorem SI.start {F:Pl->Prop} {M:DM} {a0 st:Addr} (h0:M a0 = none) (hs:bE M a0 [] st = none):SI F M (bE (bE M a0 []) st [D.tup [.str "",.int 0,.ref a0]]) st [(⟨"",0,a0,[]⟩,0)] 0:=by
 obtain ⟨n,hs'⟩:=eD hs
 refine ⟨(aX.new h0 _).trans (aX.new hs _),hs',aJ,(by show 1<=5;omega),(by show 0 + 0 + (0 + 1)<=0 + 1;omega),fun i x hx=>?_,by simp⟩
 rcases hZ (xs:=[]) hx with z | ⟨rfl,rfl⟩
 ·simp at z
 ·exact ⟨⟨⟨(fun r hr=>nomatch hr),Nat.le_refl _,(by show dnS []<=_;rw [dnS];exact Nat.zero_le _),(by show gwS _ [];rw [gwS];trivial),(by show alS _ [];rw [alS];trivial)⟩,(by show bE _ st _ a0 = _;rw [bS (Ne.symm n)];exact aJ),h0⟩,n,(by show 0<=12;omega),fun z=>absurd z (by show ¬ 0 < 0;omega)⟩
noncomputable def skO:Pl->Option Sk
 | .go a=>some (.str 0 0 a 0)
 | .side a b=>some (.str 0 0 a b)
 | .dot=>some (.dot 0 0)
 | .quarter a=>if 0 < a then some (.arc 0 a 0 0 a a) else some (.arc 0 a (-a) a 0 0)
 | .half a=>if 0 < a then some (.arc 0 a 0 0 0 (a + a)) else some (.arc 0 a 0 (a + a) 0 0)
 | .arc a b c d=>some (.arc a b 0 0 c d)
 | _=>none
noncomputable def soW (p:Pl):Str:=match skO p with
 | some k=>skW k
 | none=>"none"
noncomputable def aHL (p:Pl) (xs:List D):Prop:=∀ k,skO p = some k->xs = skP k
noncomputable def oC:DSp:=fun ds M Q=>∃ p,ds = [plD p]/\plB 100 p/\∀ (l:Addr) xs M',M l = none->M' l = some xs->aHL p xs->aX M M'->Q (.tup [.str (soW p),.ref l,mtF (bD p)]) M'
theorem mtR (x y:Rat) (t h:Int) (s:Rat) {a b c d:Rat} (e1:(rq 1 0 t.toNat).1 * s = a) (e2:(rq 1 0 t.toNat).2 * s = b) (e3:(rq 0 (h:Rat) t.toNat).1 * s = c) (e4:(rq 0 (h:Rat) t.toNat).2 * s = d):mt x y t h s = .tup [.tup [FQ a,FQ b,FQ c,FQ d],PQ x y]:=by
 unfold mt;rw [e1,e2,e3,e4]
theorem nE (x y:Rat):mt x y 0 1 1 = .tup [.tup [FQ 1,FQ 0,FQ 0,FQ 1],PQ x y]:=mtR x y 0 1 1 (by decide +kernel) (by decide +kernel) (by decide +kernel) (by decide +kernel)
theorem aC4 (x y:Rat):mt x y 1 1 1 = .tup [.tup [FQ 0,FQ 1,FQ (-1),FQ 0],PQ x y]:=mtR x y 1 1 1 (by decide +kernel) (by decide +kernel) (by decide +kernel) (by decide +kernel)
theorem wH (x y:Rat):mt x y 2 1 1 = .tup [.tup [FQ (-1),FQ 0,FQ 0,FQ (-1)],PQ x y]:=mtR x y 2 1 1 (by decide +kernel) (by decide +kernel) (by decide +kernel) (by decide +kernel)
theorem aBn (x y:Rat):mt x y 3 1 1 = .tup [.tup [FQ 0,FQ (-1),FQ 1,FQ 0],PQ x y]:=mtR x y 3 1 1 (by decide +kernel) (by decide +kernel) (by decide +kernel) (by decide +kernel)
theorem aDQ (x y:Rat):mt x y 0 (-1) 1 = .tup [.tup [FQ 1,FQ 0,FQ 0,FQ (-1)],PQ x y]:=mtR x y 0 (-1) 1 (by decide +kernel) (by decide +kernel) (by decide +kernel) (by decide +kernel)
theorem aGb (x y s:Rat):mt x y 0 1 s = .tup [.tup [FQ s,FQ 0,FQ 0,FQ s],PQ x y]:=mtR x y 0 1 s (by show (1:Rat) * s = s;grind) (by show (0:Rat) * s = 0;grind) (by show (0:Rat) * s = 0;grind) (by show (((1:Int)):Rat) * s = s;rw [uV];grind)
noncomputable abbrev wL:D:=.tup [FQ 0,FQ 1,FQ (-1),FQ 0]
noncomputable abbrev wR:D:=.tup [FQ 0,FQ (-1),FQ 1,FQ 0]
noncomputable abbrev wO:D:=.tup [FQ (-1),FQ 0,FQ 0,FQ (-1)]
noncomputable abbrev wM:D:=.tup [FQ 1,FQ 0,FQ 0,FQ (-1)]
noncomputable def sY:List (Str × D):=[("left",wL),("right",wR)]
noncomputable def wE:List (Str × D):=[("left",wL),("right",wR),("round",wO)]
noncomputable def cR:List (Str × D):=[("left",wL),("right",wR),("round",wO),("mirror",wM)]
theorem aEM:rV sY "round" wO = wE:=by
 unfold rV sY wE
 rw [if_neg (by decide +kernel)];rfl
theorem aET:rV wE "mirror" wM = cR:=by
 unfold rV wE cR
 rw [if_neg (by decide +kernel)];rfl
noncomputable abbrev pP:Stmt:=top 71
theorem cH:aS ["_law_row_here","_law_nought","_law_one","_law_less","_law_here","_law_ways","_law_plain_here","_law_to","_law_number","_law_centre","_law_turn"] ["_law_row_here"] (aK pP):=⟨rfl,rfl,rfl,by decide +kernel,rfl,by decide +kernel,by decide +kernel⟩
theorem zQ (hF:cA K mg "_law_does" pP ["_law_row_here"]) (hG:mg "int" = none) (kD:mg "abs" = none) (bV:Has P w K mg base 102 "_law_plus" ["_law_one","_law_other"] fC):Has P w K mg base 103 "_law_does" ["_law_row_here"] oC:=by
 refine Has.mkZ hF cH (fun ds M Q ⟨_,z,_⟩=>by rw [z];rfl) fun f cdv A outer s H ds M Q E hr h=>?_
 obtain ⟨p,rfl,pb,q⟩:=h
 refine ⟨_,(aE (eS (aI (aA (aI (aA aC (aA aC aD))) (aA (aI (aA aC (aA aC aD))) (aA (aI (aA (cQ aC) (aA aC aD))) aD)))) (eQ (n:=3) rfl (aU (aR (i:=1) cH.nd) (aU (aR (i:=2) cH.nd) (aU (aR (i:=3) cH.nd) dO)))))
  (aE (aM (i:=4) cH.nd (aI (aA (aB 1) (aA (aB 1) aD))))
  (aE (aM (i:=5) cH.nd (aCc aL (aI (aA (aB 1) (aA (aB 2) (aA (aB 3) (aA (aB 1) aD))))) aL (aI (aA (aB 1) (aA (aB 3) (aA (aB 2) (aA (aB 1) aD)))))))
  (aE (eS (aI (aA (aB 3) (aA (aB 1) (aA (aB 1) (aA (aB 3) aD))))) (aAV (aB 5) aL))
  (aE (eS (aI (aA (aB 2) (aA (aB 1) (aA (aB 1) (aA (aB 3) aD))))) (aAV (aB 5) aL))
  (aE (aM (i:=6) cH.nd (aI (aA (aB 2) (aA (aB 1) (aA (aB 1) (aA (aB 2) aD))))))
  (aE (bC (aQ aJW (aH (aB 0) aC) (aB 5) rfl) (aG (aP (aI (aA aL (aA (bA aD) (aA (aI (aA (tT (aB 5) (aH (aB 0) aC)) (aA (aB 4) aD))) aD)))))) aW)
  (aE (bC (aQ (cN hr) (aH (aB 0) aC) aL) (aG (aP (aI (aA aL (aA (bA (aA (aB 4) aD)) (aA (aI (aA (aB 6) (aA (aB 4) aD))) aD)))))) aW)
  (aE (bC (aQ (cN hr) (aH (aB 0) aC) aL) (aG (aP (aI (aA aL (aA (bA aD) (aA (aI (aA (aI (aA (aH (aB 0) aC) (aA (aB 1) (aA (aB 1) (aA (aH (aB 0) aC) aD))))) (aA (aB 4) aD))) aD)))))) aW)
  (aE (bC (aQ wX (aH (aB 0) aC) (bA (aA aL (aA aL (aA aL aD)))) rfl) (aE (aM (i:=7) cH.nd (aI (aA (aH (aB 0) aC) (aA (aH (aN uI (aB 0) (aI (aA (aB 1) aD))) aC) aD))))
  (aG (aP (aI (aA (aH (bA (aA aL (aA aL aD))) (cU kW hG (aA (gF (cN hr) (aH (aB 0) aC) aL) aD))) (aA (bA (aA (aB 4) (aA (aB 7) aD))) (aA (aI (aA (aB 6) (aA (aB 7) aD))) aD))))))) aW)
  (aE (bC (aQ (cN hr) (aH (aB 0) aC) aL) (aG (aP (aI (aA aL (aA (bA (aA (fA (aB 0) (dH aC) (dH aC)) (aA (aB 4) (aA (fA (aB 0) (dH aC) nZ) aD)))) (aA (aI (aA (aB 6) (aA (fA (aB 0) (dH aC) nZ) aD))) aD)))))) aW)
  (aE (aM (i:=8) cH.nd (aH (aB 0) aC))
  (aE (aM (i:=9) cH.nd (aI (aA (aB 1) (aA (aB 8) aD))))
  (aE (aM (i:=7) cH.nd (aI (aA (aI (aA (eC uN kD (aA (aH (aB 8) aC) aD)) (aA (aH (aB 8) aC) aD))) (aA (aB 8) aD))))
  (aE (aM (i:=10) cH.nd (tT (aB 5) aL))
  (aE (bC (aQ (cN hr) (aH (aB 0) aC) aL) (aE (aM (i:=7) cH.nd (aI (aA (aB 1) (aA (aF bV hr (by decide) (aA (aB 8) (aA (aB 8) aD))) aD))))
  (aG (aM (i:=10) cH.nd (tT (aB 5) aL)))) aW)
  (aE (bC (aQ jP (aH (aB 8) aC) aC) (aG (aP (aI (aA aL (aA (bA (aA (aB 9) (aA (aB 4) (aA (aB 7) aD)))) (aA (aI (aA (aB 10) (aA (aB 7) aD))) aD)))))) aW)
  (aG (aP (aI (aA aL (aA (bA (aA (aB 9) (aA (aB 7) (aA (aB 4) aD)))) (aA (aI (aA (aH (bA (aA (aB 10) (aA (tT (aB 5) aL) aD))) (cU kW hG (aA (gF (cN hr) (aH (aB 0) aC) aL) aD))) (aA (aB 7) aD))) aD))))))))))))))))))))))),?_⟩
 decreasing_tactic
 refine ⟨by decide,by decide,by decide,by decide,rfl,by decide,fun pd hpd=>⟨by decide,by decide,gQ,sY,rfl,by unfold sY;decide +kernel,by unfold sY;decide,by decide,sY,gQ,by unfold sY;decide +kernel,by unfold sY;decide,by decide,wE,?_,by unfold wE;decide +kernel,by unfold wE;decide,by decide,?_⟩⟩
 ·rw [gQ];exact congrArg _ (congrArg _ aEM)
 generalize hM1:jT (jT (jT (jT M pd _) pd _) pd _) pd _ = M1
 have hK:M1 (.d pd) = some (pZ w cR):=by
  rw [<- hM1,gQ];exact congrArg _ (congrArg _ aET)
 have s1:aX M M1:=fun k o hk=>by
  have n:k ≠ .d pd:=fR hk hpd
  rw [<- hM1,rF n,rF n,rF n,rF n];exact hk
 clear hM1
 have nd:(cR.map (·.1)).Nodup:=by unfold cR;decide +kernel
 have nn:∀ {l:Addr},M1 l = none->M l = none:=fun {l} h=>by
  cases c:M l with
  | none=>rfl
  | some o=>rw [s1 _ _ c] at h;cases h
 cases p with
 | left =>
  dsimp only [plD]
  decreasing_tactic
  refine ⟨cR,hK,nd,ifT (by unfold cR;decide +kernel) ⟨by decide,fun l hl=>⟨cR,wL,by rw [rW];exact hK,nd,rfl,by decide,by decide,?_⟩⟩⟩
  have fin:=q l [] _ (nn hl) aJ (fun k e=>nomatch e) (s1.trans (aX.new hl []))
  rw [show mtF (bD .left) = .tup [wL,PQ 0 0] from aC4 0 0] at fin
  exact bW fin
 | right =>
  dsimp only [plD]
  decreasing_tactic
  refine ⟨cR,hK,nd,ifT (by unfold cR;decide +kernel) ⟨by decide,fun l hl=>⟨cR,wR,by rw [rW];exact hK,nd,rfl,by decide,by decide,?_⟩⟩⟩
  have fin:=q l [] _ (nn hl) aJ (fun k e=>nomatch e) (s1.trans (aX.new hl []))
  rw [show mtF (bD .right) = .tup [wR,PQ 0 0] from aBn 0 0] at fin
  exact bW fin
 | rnd =>
  dsimp only [plD]
  decreasing_tactic
  refine ⟨cR,hK,nd,ifT (by unfold cR;decide +kernel) ⟨by decide,fun l hl=>⟨cR,wO,by rw [rW];exact hK,nd,rfl,by decide,by decide,?_⟩⟩⟩
  have fin:=q l [] _ (nn hl) aJ (fun k e=>nomatch e) (s1.trans (aX.new hl []))
  rw [show mtF (bD .rnd) = .tup [wO,PQ 0 0] from wH 0 0] at fin
  exact bW fin
 | mirror =>
  dsimp only [plD]
  decreasing_tactic
  refine ⟨cR,hK,nd,ifT (by unfold cR;decide +kernel) ⟨by decide,fun l hl=>⟨cR,wM,by rw [rW];exact hK,nd,rfl,by decide,by decide,?_⟩⟩⟩
  have fin:=q l [] _ (nn hl) aJ (fun k e=>nomatch e) (s1.trans (aX.new hl []))
  rw [show mtF (bD .mirror) = .tup [wM,PQ 0 0] from aDQ 0 0] at fin
  exact bW fin
 | dot =>
  dsimp only [plD]
  decreasing_tactic
  refine ⟨cR,hK,nd,ifF (by unfold cR;decide +kernel) ?_⟩
  rw [aO]
  refine ifT (by decide) ⟨by decide,fun l hl=>⟨by decide,by decide,?_⟩⟩
  have fin:=q l [PQ 0 0] _ (nn hl) aJ (fun k e=>by cases e;rfl) (s1.trans (aX.new hl _))
  rw [show mtF (bD .dot) = _ from nE 0 0] at fin
  exact bW fin
 | grow a =>
  dsimp only [plD]
  decreasing_tactic
  refine ⟨cR,hK,nd,ifF (by unfold cR;decide +kernel) ?_⟩
  rw [aO]
  refine ifF (by decide) ?_
  rw [aO]
  refine ifT (by decide) ⟨by decide,fun l hl=>⟨by decide,by decide,by decide,?_⟩⟩
  have fin:=q l [] _ (nn hl) aJ (fun k e=>nomatch e) (s1.trans (aX.new hl _))
  rw [show mtF (bD (.grow a)) = _ from aGb 0 0 a] at fin
  exact bW fin
 | go a =>
  dsimp only [plD]
  decreasing_tactic
  refine ⟨cR,hK,nd,ifF (by unfold cR;decide +kernel) ?_⟩
  rw [aO]
  refine ifF (by decide) ?_
  rw [aO]
  refine ifF (by decide) ?_
  refine ⟨by decide,fun p1 hp1=>⟨["go","skip","side"],aJ,?_⟩⟩
  have s2:=aX.new hp1 [D.str "go",.str "skip",.str "side"]
  decreasing_tactic
  generalize bE M1 p1 _ = M2 at s2 ⊢
  have nn2:∀ {l:Addr},M2 l = none->M l = none:=fun {l} h=>by
   cases c:M l with
   | none=>rfl
   | some o=>rw [s2 _ _ (s1 _ _ c)] at h;cases h
  refine ifT (by decide) ?_
  refine ⟨by decide,by decide,by decide,by decide,fun p2 hp2=>?_⟩
  rw [aO]
  decreasing_tactic
  refine ⟨_,_,aJ,rfl,by decide,fun l hl=>⟨by decide,by decide,?_⟩⟩
  have fin:=q l [PQ 0 0,PQ a 0] _ (nn2 (eD hl).2) aJ (fun k e=>by cases e;rfl) (((s1.trans s2).trans (aX.new hp2 _)).trans (aX.new hl _))
  rw [show mtF (bD (.go a)) = _ from nE a 0] at fin
  exact bW fin
 | skip a =>
  dsimp only [plD]
  decreasing_tactic
  refine ⟨cR,hK,nd,ifF (by unfold cR;decide +kernel) ?_⟩
  rw [aO]
  refine ifF (by decide) ?_
  rw [aO]
  refine ifF (by decide) ?_
  refine ⟨by decide,fun p1 hp1=>⟨["go","skip","side"],aJ,?_⟩⟩
  have s2:=aX.new hp1 [D.str "go",.str "skip",.str "side"]
  decreasing_tactic
  generalize bE M1 p1 _ = M2 at s2 ⊢
  have nn2:∀ {l:Addr},M2 l = none->M l = none:=fun {l} h=>by
   cases c:M l with
   | none=>rfl
   | some o=>rw [s2 _ _ (s1 _ _ c)] at h;cases h
  refine ifT (by decide) ?_
  refine ⟨by decide,by decide,by decide,by decide,fun p2 hp2=>?_⟩
  rw [aO]
  decreasing_tactic
  refine ⟨_,_,aJ,rfl,by decide,fun l hl=>⟨by decide,by decide,?_⟩⟩
  have fin:=q l [PQ 0 0,PQ a 0] _ (nn2 (eD hl).2) aJ (fun k e=>nomatch e) (((s1.trans s2).trans (aX.new hp2 _)).trans (aX.new hl _))
  rw [show mtF (bD (.skip a)) = _ from nE a 0] at fin
  exact bW fin
 | side a b =>
  dsimp only [plD]
  decreasing_tactic
  refine ⟨cR,hK,nd,ifF (by unfold cR;decide +kernel) ?_⟩
  rw [aO]
  refine ifF (by decide) ?_
  rw [aO]
  refine ifF (by decide) ?_
  refine ⟨by decide,fun p1 hp1=>⟨["go","skip","side"],aJ,?_⟩⟩
  have s2:=aX.new hp1 [D.str "go",.str "skip",.str "side"]
  decreasing_tactic
  generalize bE M1 p1 _ = M2 at s2 ⊢
  have nn2:∀ {l:Addr},M2 l = none->M l = none:=fun {l} h=>by
   cases c:M l with
   | none=>rfl
   | some o=>rw [s2 _ _ (s1 _ _ c)] at h;cases h
  refine ifT (by decide) ?_
  refine ⟨by decide,by decide,by decide,by decide,fun p2 hp2=>?_⟩
  rw [aO]
  decreasing_tactic
  refine ⟨_,_,aJ,rfl,by decide,fun l hl=>⟨by decide,by decide,?_⟩⟩
  have fin:=q l [PQ 0 0,PQ a b] _ (nn2 (eD hl).2) aJ (fun k e=>by cases e;rfl) (((s1.trans s2).trans (aX.new hp2 _)).trans (aX.new hl _))
  rw [show mtF (bD (.side a b)) = _ from nE a b] at fin
  exact bW fin
 | arc a b c d =>
  dsimp only [plD]
  decreasing_tactic
  refine ⟨cR,hK,nd,ifF (by unfold cR;decide +kernel) ?_⟩
  rw [aO]
  refine ifF (by decide) ?_
  rw [aO]
  refine ifF (by decide) ?_
  refine ⟨by decide,fun p1 hp1=>⟨["go","skip","side"],aJ,?_⟩⟩
  have s2:=aX.new hp1 [D.str "go",.str "skip",.str "side"]
  decreasing_tactic
  generalize bE M1 p1 _ = M2 at s2 ⊢
  have nn2:∀ {l:Addr},M2 l = none->M l = none:=fun {l} h=>by
   cases c:M l with
   | none=>rfl
   | some o=>rw [s2 _ _ (s1 _ _ c)] at h;cases h
  have hK2:=s2 _ _ hK
  refine ifF (by decide) ?_
  rw [aO]
  refine ifT (by decide) ⟨by decide,fun l hl=>⟨by decide,by decide,?_⟩⟩
  have fin:=q l [PQ a b,PQ 0 0,PQ c d] _ (nn2 hl) aJ (fun k e=>by cases e;rfl) ((s1.trans s2).trans (aX.new hl _))
  rw [show mtF (bD (.arc a b c d)) = _ from nE c d] at fin
  exact bW fin
 | quarter a =>
  dsimp only [plD]
  decreasing_tactic
  refine ⟨cR,hK,nd,ifF (by unfold cR;decide +kernel) ?_⟩
  rw [aO]
  refine ifF (by decide) ?_
  rw [aO]
  refine ifF (by decide) ?_
  refine ⟨by decide,fun p1 hp1=>⟨["go","skip","side"],aJ,?_⟩⟩
  have s2:=aX.new hp1 [D.str "go",.str "skip",.str "side"]
  decreasing_tactic
  generalize bE M1 p1 _ = M2 at s2 ⊢
  have nn2:∀ {l:Addr},M2 l = none->M l = none:=fun {l} h=>by
   cases c:M l with
   | none=>rfl
   | some o=>rw [s2 _ _ (s1 _ _ c)] at h;cases h
  have hK2:=s2 _ _ hK
  refine ifF (by decide) ?_
  rw [aO]
  refine ifF (by decide) ?_
  decreasing_tactic
  refine ⟨by decide,by decide,by decide,cR,wL,hK2,nd,rfl,?_⟩
  rw [aO]
  refine ifF (by decide) ?_
  by_cases c:0 < a
  ·have cn:=eG.mpr c
   rw [if_neg (show ¬ a.num < 0 by omega)]
   refine ifT (decide_eq_true cn) ⟨by decide,fun l hl=>⟨by decide,by decide,?_⟩⟩
   have fin:=q l [PQ 0 a,PQ 0 0,PQ a a] _ (nn2 hl) aJ (fun k e=>by dsimp only [skO] at e;rw [if_pos c] at e;cases e;rfl) ((s1.trans s2).trans (aX.new hl _))
   rw [show mtF (bD (.quarter a)) = .tup [wL,PQ a a] by dsimp only [bD];rw [if_pos c];exact aC4 a a,show soW (.quarter a) = "arc" by dsimp only [soW,skO];rw [if_pos c];rfl] at fin
   exact bW fin
  ·have cn:¬ 0 < a.num:=fun z=>c (eG.mp z)
   have ca:a.num < 0:=by
    have:=pb.2
    have:a.num ≠ 0:=fun z=>this (Rat.num_eq_zero.mp z)
    omega
   rw [if_pos ca]
   refine ifF (decide_eq_false cn) ⟨by decide,fun l hl=>?_⟩
   rw [uF]
   have s3:=aX.new hl [D.tup [.tup [.int 0,.int 1],FQ a],.tup [FQ (-a),FQ a],.tup [.tup [.int 0,.int 1],.tup [.int 0,.int 1]]]
   refine ⟨cR,wR,s3 _ _ hK2,nd,rfl,by decide,fun p3 hp3=>?_⟩
   rw [aO]
   decreasing_tactic
   refine ⟨_,_,aJ,rfl,by decide,by decide,?_⟩
   have nl:l ≠ p3:=Ne.symm (eD hp3).1
   have fin:=q l [PQ 0 a,PQ (-a) a,PQ 0 0] _ (nn2 hl) (by rw [bS nl];exact aJ) (fun k e=>by dsimp only [skO] at e;rw [if_neg c] at e;cases e;rfl) (((s1.trans s2).trans s3).trans (aX.new hp3 [wL,wR]))
   rw [show mtF (bD (.quarter a)) = .tup [wR,PQ (-a) a] by dsimp only [bD];rw [if_neg c];exact aBn (-a) a,show soW (.quarter a) = "arc" by dsimp only [soW,skO];rw [if_neg c];rfl] at fin
   exact bW fin
 | half a =>
  dsimp only [plD]
  decreasing_tactic
  refine ⟨cR,hK,nd,ifF (by unfold cR;decide +kernel) ?_⟩
  rw [aO]
  refine ifF (by decide) ?_
  rw [aO]
  refine ifF (by decide) ?_
  refine ⟨by decide,fun p1 hp1=>⟨["go","skip","side"],aJ,?_⟩⟩
  have s2:=aX.new hp1 [D.str "go",.str "skip",.str "side"]
  decreasing_tactic
  generalize bE M1 p1 _ = M2 at s2 ⊢
  have nn2:∀ {l:Addr},M2 l = none->M l = none:=fun {l} h=>by
   cases c:M l with
   | none=>rfl
   | some o=>rw [s2 _ _ (s1 _ _ c)] at h;cases h
  have hK2:=s2 _ _ hK
  refine ifF (by decide) ?_
  rw [aO]
  refine ifF (by decide) ?_
  decreasing_tactic
  refine ⟨by decide,by decide,by decide,cR,wL,hK2,nd,rfl,?_⟩
  rw [aO]
  refine ifT (by decide) (oY pb.1 pb.1 (by decide) ⟨by decide,cR,wO,hK2,nd,rfl,?_⟩)
  by_cases c:0 < a
  ·have cn:=eG.mpr c
   refine ifT (decide_eq_true cn) ⟨by decide,fun l hl=>⟨by decide,by decide,?_⟩⟩
   have fin:=q l [PQ 0 a,PQ 0 0,PQ 0 (a + a)] _ (nn2 hl) aJ (fun k e=>by dsimp only [skO] at e;rw [if_pos c] at e;cases e;rfl) ((s1.trans s2).trans (aX.new hl _))
   rw [show mtF (bD (.half a)) = .tup [wO,PQ 0 (a + a)] from wH 0 (a + a),show soW (.half a) = "arc" by dsimp only [soW,skO];rw [if_pos c];rfl] at fin
   exact bW fin
  ·have cn:¬ 0 < a.num:=fun z=>c (eG.mp z)
   refine ifF (decide_eq_false cn) ⟨by decide,fun l hl=>?_⟩
   have s3:=aX.new hl [D.tup [.tup [.int 0,.int 1],FQ a],.tup [.tup [.int 0,.int 1],FQ (a + a)],.tup [.tup [.int 0,.int 1],.tup [.int 0,.int 1]]]
   refine ⟨cR,wR,s3 _ _ hK2,nd,rfl,by decide,fun p3 hp3=>?_⟩
   rw [aO]
   decreasing_tactic
   refine ⟨_,_,aJ,rfl,by decide,by decide,?_⟩
   have nl:l ≠ p3:=Ne.symm (eD hp3).1
   have fin:=q l [PQ 0 a,PQ 0 (a + a),PQ 0 0] _ (nn2 hl) (by rw [bS nl];exact aJ) (fun k e=>by dsimp only [skO] at e;rw [if_neg c] at e;cases e;rfl) (((s1.trans s2).trans s3).trans (aX.new hp3 [wO,wR]))
   rw [show mtF (bD (.half a)) = .tup [wO,PQ 0 (a + a)] from wH 0 (a + a),show soW (.half a) = "arc" by dsimp only [soW,skO];rw [if_neg c];rfl] at fin
   exact bW fin
theorem aIo (p:Pl):(skO p = none/\gZ p = none) ∨ ∃ k l,skO p = some k/\gZ p = some l:=by
 cases p with
 | quarter a =>
  dsimp only [skO,gZ]
  by_cases c:0 < a
  ·rw [if_pos c,if_pos c];exact .inr ⟨_,_,rfl,rfl⟩
  ·rw [if_neg c,if_neg c];exact .inr ⟨_,_,rfl,rfl⟩
 | half a =>
  dsimp only [skO,gZ]
  by_cases c:0 < a
  ·rw [if_pos c];exact .inr ⟨_,_,rfl,rfl⟩
  ·rw [if_neg c];exact .inr ⟨_,_,rfl,rfl⟩
 | go a=>exact .inr ⟨_,_,rfl,rfl⟩
 | side a b=>exact .inr ⟨_,_,rfl,rfl⟩
 | dot=>exact .inr ⟨_,_,rfl,rfl⟩
 | arc a b c d=>exact .inr ⟨_,_,rfl,rfl⟩
 | _=>exact .inl ⟨rfl,rfl⟩
theorem uU {p:Pl} (h:plB 100 p):plB 400 p:=by
 have m {x:Rat} (h:BQ 100 x):BQ 400 x:=h.mono (by decide)
 cases p with
 | go a=>exact m h
 | side a b=>exact ⟨m h.1,m h.2⟩
 | skip a=>exact m h
 | grow a=>exact ⟨m h.1,h.2⟩
 | quarter a=>exact ⟨m h.1,h.2⟩
 | half a=>exact ⟨m h.1,h.2⟩
 | arc a b c d=>exact ⟨m h.1,m h.2.1,m h.2.2.1,m h.2.2.2.1,h.2.2.2.2⟩
 | _=>trivial
theorem aLv {A W K k:Nat} {f:Fm} {p:Pl} {s:Sk} (n:vD A W K) (l:k<=K) (G:Gf A W k f) (h:plG A W p) (e:skO p = some s):aGz f.px f.py f.t f.h f.s s:=by
 have z:Dv A 0/\Ab W 0:=⟨Dv.zero,Ab.zero⟩
 have m {x y:Rat} (h:(Dv A x/\Ab W x)/\Dv A y/\Ab W y):=G.led n l h.1.1 h.2.1 h.1.2 h.2.2
 have st {x y u v:Rat} (h:(Dv A x/\Ab W x)/\Dv A y/\Ab W y) (h2:(Dv A u/\Ab W u)/\Dv A v/\Ab W v):aGz f.px f.py f.t f.h f.s (.str x y u v):=⟨⟨(m h).1,(m h2).1⟩,(m h).2,(m h2).2⟩
 have ar {a b c d e g:Rat} (h:(Dv A a/\Ab W a)/\Dv A b/\Ab W b) (h2:(Dv A c/\Ab W c)/\Dv A d/\Ab W d) (h3:(Dv A e/\Ab W e)/\Dv A g/\Ab W g):aGz f.px f.py f.t f.h f.s (.arc a b c d e g):=⟨(m h).1,(m h2).1,(m h3).1⟩
 cases p with
 | go a=>cases e;exact st ⟨z,z⟩ ⟨h,z⟩
 | side a b=>cases e;exact st ⟨z,z⟩ h
 | dot=>cases e;exact (m ⟨z,z⟩).1
 | quarter a =>
  dsimp only [skO] at e
  by_cases c:0 < a
  ·rw [if_pos c] at e;cases e;exact ar ⟨z,h⟩ ⟨z,z⟩ ⟨h,h⟩
  ·rw [if_neg c] at e;cases e;exact ar ⟨z,h⟩ ⟨⟨h.1.neg,h.2.neg⟩,h⟩ ⟨z,z⟩
 | half a =>
  have h1:Dv A a/\Ab W a:=⟨h.1,h.2.1⟩
  have h2:Dv A (a + a)/\Ab W (a + a):=⟨h.1.add h.1,h.2.2⟩
  dsimp only [skO] at e
  by_cases c:0 < a
  ·rw [if_pos c] at e;cases e;exact ar ⟨z,h1⟩ ⟨z,z⟩ ⟨z,h2⟩
  ·rw [if_neg c] at e;cases e;exact ar ⟨z,h1⟩ ⟨z,h2⟩ ⟨z,z⟩
 | arc a b c d=>cases e;exact ar h.1 ⟨z,z⟩ h.2
 | _=>cases e
theorem aB1 {B:Nat} {x y c:Rat} (h1:Ab B (x * c)) (h2:Ab B (y * c)):∀ n,Ab B ((rq x y n).1 * c)/\Ab B ((rq x y n).2 * c)
 | 0=>⟨h1,h2⟩
 | n + 1=>by
  obtain ⟨a,b⟩:=aB1 h1 h2 n
  refine ⟨?_,a⟩
  show Ab B (-(rq x y n).2 * c)
  rw [Rat.neg_mul]
  exact b.neg
theorem aCu {n m:Nat} (l:n<=m):Ab m (n:Rat):=by
 have:(n:Rat)<=(m:Rat):=by exact_mod_cast l
 exact ⟨by have:=aDp n;have:=aDp m;grind,this⟩
structure Gm (A W k:Nat) (f:Fm):Prop where
 ok:f.Ok
 pos:0 < f.s
 ex:∃ N T:Nat,((0 < N/\N<=12 ^ k)/\(0 < T/\T<=12 ^ k)/\f.s * (N:Rat) = (T:Rat))/\(Dv (N * A) f.px/\Dv (N * A) f.py)/\Ab (k * 12 ^ k * W) (f.px * (N:Rat))/\Ab (k * 12 ^ k * W) (f.py * (N:Rat))
theorem Gm.one {A W:Nat}:Gm A W 0 .one:=by
 have z:Ab (0 * 12 ^ 0 * W) ((0:Rat) * ((1:Nat):Rat)):=by rw [Rat.zero_mul];exact Ab.zero
 exact ⟨Fm.ok_one,by decide,1,1,⟨by decide,by decide,Rat.one_mul _⟩,⟨Dv.zero,Dv.zero⟩,z,z⟩
theorem Gm.comp {A W k j:Nat} {f g:Fm} (G:Gm A W k f) (H:Gm A W j g):Gm A W (k + j) (f.comp g):=by
 obtain ⟨N,T,⟨⟨n0,n1⟩,⟨t0,t1⟩,e⟩,⟨d1,d2⟩,a1,a2⟩:=G.ex
 obtain ⟨N',T',⟨⟨m0,m1⟩,⟨u0,u1⟩,e'⟩,⟨d1',d2'⟩,b1,b2⟩:=H.ex
 obtain ⟨r1,r2⟩:=aBw d1' (zY G.ok.2.2 d2') f.t.toNat
 have hb2:Ab (j * 12 ^ j * W) ((f.h:Rat) * g.py * (N':Rat)):=by
  rw [Rat.mul_assoc];exact aAe G.ok.2.2 b2
 obtain ⟨c1,c2⟩:=aB1 b1 hb2 f.t.toNat
 have sd:=tZ e
 have key:∀ (r p:Rat),Ab (j * 12 ^ j * W) (r * (N':Rat))->Ab (k * 12 ^ k * W) (p * (N:Rat))->Dv (N' * A) r->Dv (N * A) p->Dv (N * N' * A) (r * f.s + p)/\Ab ((k + j) * 12 ^ (k + j) * W) ((r * f.s + p) * ((N * N':Nat):Rat)):=fun r p x1 x2 x3 x4=>by
  constructor
  ·refine Dv.add ?_ ?_
   ·have:=x3.mul sd
    rw [show N * N' * A = N' * A * N by grind];exact this
   ·rw [show N * N' * A = N * A * N' by grind];exact x4.up N'
  ·have y1:=x1.mul (aCu t1)
   have y2:=x2.mul (aCu m1)
   have:=y1.add y2
   rw [show (r * f.s + p) * ((N * N':Nat):Rat) = r * (N':Rat) * (T:Rat) + p * (N:Rat) * (N':Rat) by rw [Rat.natCast_mul,<- e];grind]
   refine this.mono (Nat.le_of_eq ?_)
   rw [Nat.pow_add];grind
 have k1:=key _ _ c1 a1 r1 d1
 have k2:=key _ _ c2 a2 r2 d2
 refine ⟨G.ok.comp H.ok,Rat.mul_pos G.pos H.pos,N * N',T * T',⟨⟨Nat.mul_pos n0 m0,?_⟩,⟨Nat.mul_pos t0 u0,?_⟩,?_⟩,⟨k1.1,k2.1⟩,k1.2,k2.2⟩
 ·rw [Nat.pow_add];exact Nat.mul_le_mul n1 m1
 ·rw [Nat.pow_add];exact Nat.mul_le_mul t1 u1
 ·show f.s * g.s * ((N * N':Nat):Rat) = ((T * T':Nat):Rat)
  rw [Rat.natCast_mul,Rat.natCast_mul,<- e,<- e'];grind
theorem Gm.mono {A W k j:Nat} {f:Fm} (G:Gm A W k f) (l:k<=j):Gm A W j f:=by
 obtain ⟨N,T,⟨⟨n0,n1⟩,⟨t0,t1⟩,e⟩,d,a1,a2⟩:=G.ex
 have p:12 ^ k<=12 ^ j:=Nat.pow_le_pow_right (by decide) l
 have q:k * 12 ^ k * W<=j * 12 ^ j * W:=Nat.mul_le_mul_right _ (Nat.mul_le_mul l p)
 exact ⟨G.ok,G.pos,N,T,⟨⟨n0,Nat.le_trans n1 p⟩,⟨t0,Nat.le_trans t1 p⟩,e⟩,d,a1.mono q,a2.mono q⟩
theorem Gm.row {A W:Nat} {p:Pl} (h:plG A W p) (b:plB 400 p):Gm A W 1 (bD p):=by
 obtain ⟨ok,⟨s1,⟨dx,dy⟩,ax,ay⟩ | ⟨x0,y0,gp,t,c,⟨t0,t1⟩,⟨c0,c1⟩,e⟩⟩:=wJ h b
 ·have w:W<=1 * 12 ^ 1 * W:=by omega
  refine ⟨ok,by rw [s1];decide,1,1,⟨by decide,by decide,by rw [s1];exact Rat.one_mul _⟩,⟨dx.up' 1,dy.up' 1⟩,?_,?_⟩
  ·rw [show (bD p).px * ((1:Nat):Rat) = (bD p).px from Rat.mul_one _];exact ax.mono w
  ·rw [show (bD p).py * ((1:Nat):Rat) = (bD p).py from Rat.mul_one _];exact ay.mono w
 ·refine ⟨ok,gp,c,t,⟨⟨c0,c1⟩,⟨t0,t1⟩,e⟩,⟨by rw [x0];exact Dv.zero,by rw [y0];exact Dv.zero⟩,?_,?_⟩
  ·rw [x0,Rat.zero_mul];exact Ab.zero
  ·rw [y0,Rat.zero_mul];exact Ab.zero
structure aCe (A W K:Nat):Prop where
 a:0 < A
 b:K * 12 ^ K * W * A < 2 ^ 4400
 c:12 ^ K * A < 2 ^ 4400
theorem aJu {B:Nat} {z:Int} (h:Ab B (z:Rat)):z.natAbs<=B:=by
 obtain ⟨a,b⟩:=h
 have h1:-(B:Int)<=z:=by
  have:((-(B:Int):Int):Rat)<=(z:Rat):=by rw [Rat.intCast_neg,Rat.intCast_natCast];exact a
  exact_mod_cast this
 have h2:z<=(B:Int):=by
  have:(z:Rat)<=((B:Int):Rat):=by rw [Rat.intCast_natCast];exact b
  exact_mod_cast this
 omega
theorem aCe.bq {A W K N:Nat} (n:aCe A W K) {x:Rat} (n0:0 < N) (n1:N<=12 ^ K) (d:Dv (N * A) x) (a:Ab (K * 12 ^ K * W) (x * (N:Rat))):BQ 4400 x:=by
 obtain ⟨z,hz⟩:=d
 have h1:N * A < 2 ^ 4400:=Nat.lt_of_le_of_lt (Nat.mul_le_mul_right _ n1) n.c
 have h2:z.natAbs<=K * 12 ^ K * W * A:=aJu (by
  rw [<- hz,show x * ((N * A:Nat):Rat) = x * (N:Rat) * (A:Rat) by rw [Rat.natCast_mul];grind]
  exact a.mul (aCu (Nat.le_refl A)))
 have h0:0 < N * A:=Nat.mul_pos n0 n.a
 refine Dd.bq_of (m:=((N * A:Nat):Int)) (X:=z) (by omega) (by rw [Rat.intCast_natCast];exact hz) ?_ ?_
 ·exact Nat.lt_of_le_of_lt h2 n.b
 ·exact h1
theorem Gm.good {A W K k:Nat} {f:Fm} (n:aCe A W K) (G:Gm A W k f) (l:k<=K):f.Good 4400:=by
 have G':=G.mono l
 obtain ⟨N,T,⟨⟨n0,n1⟩,⟨t0,t1⟩,e⟩,⟨d1,d2⟩,a1,a2⟩:=G'.ex
 have c1:12 ^ K < 2 ^ 4400:=Nat.lt_of_le_of_lt (Nat.le_mul_of_pos_right _ n.a) n.c
 have bs:BQ 4400 f.s:=Dd.bq_of (m:=(N:Int)) (X:=(T:Int)) (by omega) (by rw [Rat.intCast_natCast,Rat.intCast_natCast];exact e) (Nat.lt_of_le_of_lt t1 c1) (Nat.lt_of_le_of_lt n1 c1)
 exact ⟨n.bq n0 n1 d1 a1,n.bq n0 n1 d2 a2,G.ok.1,G.ok.2.1,G.ok.2.2,G.pos,bs⟩
theorem Gm.sc {A W K k j N':Nat} {f:Fm} {x:Rat} (n:aCe A W K) (G:Gm A W k f) (l:k + j<=K) (m0:0 < N') (m1:N'<=12 ^ j) (d:Dv (N' * A) x) (a:Ab (j * 12 ^ j * W) (x * (N':Rat))):BQ 4400 (x * f.s):=by
 obtain ⟨N,T,⟨⟨n0,n1⟩,⟨t0,t1⟩,e⟩,_,_⟩:=G.ex
 have p:12 ^ (k + j)<=12 ^ K:=Nat.pow_le_pow_right (by decide) l
 refine n.bq (N:=N * N') (Nat.mul_pos n0 m0) ?_ ?_ ?_
 ·rw [Nat.pow_add] at p;exact Nat.le_trans (Nat.mul_le_mul n1 m1) p
 ·have:=d.mul (tZ e)
  rw [show N * N' * A = N' * A * N by grind];exact this
 ·have y:=a.mul (aCu t1)
  rw [show x * f.s * ((N * N':Nat):Rat) = x * (N':Rat) * (T:Rat) by rw [Rat.natCast_mul,<- e];grind]
  refine y.mono ?_
  rw [show j * 12 ^ j * W * 12 ^ k = j * 12 ^ (k + j) * W by rw [Nat.pow_add];grind]
  exact Nat.mul_le_mul_right _ (Nat.mul_le_mul (by omega) p)
theorem Gm.ld {A W K k j:Nat} {f g:Fm} (n:aCe A W K) (G:Gm A W k f) (H:Gm A W j g) (l:k + j<=K):LdB 4400 f.s g.px g.py:=by
 have hg:=H.good n (show j<=K by omega)
 obtain ⟨N',T',⟨⟨m0,m1⟩,_,_⟩,⟨d1',d2'⟩,b1,b2⟩:=H.ex
 exact ⟨hg.1,hg.2.1,G.sc n l m0 m1 d1' b1,G.sc n l m0 m1 d2' b2⟩
noncomputable def SfL (f:Fm) (p:Pl):Prop:=(f.Good 4000/\BQ 1100 f.s)/\plB 100 p/\BQ 4000 (f.s * (bD p).s)/\lC f.s (bD p).px (bD p).py/\∀ k,skO p = some k->aGz f.px f.py f.t f.h f.s k
noncomputable def SeT (_ _:Fm):Prop:=True
theorem Gf.mono {A W k j:Nat} {f:Fm} (G:Gf A W k f) (l:k<=j):Gf A W j f:=by
 obtain ⟨N,T,⟨n0,n1⟩,⟨t0,t1⟩,e,d1,d2⟩:=G.ex
 have p:12 ^ k<=12 ^ j:=Nat.pow_le_pow_right (by decide) l
 have q:k * 12 ^ k * W<=j * 12 ^ j * W:=Nat.mul_le_mul_right _ (Nat.mul_le_mul l p)
 exact ⟨G.ok,G.pos,⟨N,T,⟨n0,Nat.le_trans n1 p⟩,⟨t0,Nat.le_trans t1 p⟩,e,d1,d2⟩,G.ax.mono q,G.ay.mono q⟩
theorem Gf.sl {A K k:Nat} {f:Fm} (n:vD A (2 ^ 25) K) (l:k + 1<=K) (G:Gf A (2 ^ 25) k f) {p:Pl} (h:FA A p):SfL f p:=by
 have pb4:=uU h.2
 obtain ⟨gd,bs⟩:=G.good n (by omega)
 exact ⟨⟨gd,bs⟩,h.2,((G.step h.1 pb4).good n l).1.2.2.2.2.2.2,(G.sf n (by omega) h.1 pb4).2.2.2,fun s e=>aLv n (by omega) G h.1 e⟩
theorem aHE {s:Rat} {N T:Nat} (s0:0 < s) (e:s * (N:Rat) = (T:Rat)):1 / s * (T:Rat) = (N:Rat):=by
 have n0:s ≠ 0:=by grind
 rw [<- e];grind
theorem aBO {A N T:Nat} {s x:Rat} (e:1 / s * (T:Rat) = (N:Rat)) (d:Dv (N * A) x):Dv (T * A) (x * (1 / s)):=by
 obtain ⟨z,hz⟩:=d
 refine ⟨z,?_⟩
 rw [<- hz,Rat.natCast_mul,Rat.natCast_mul,<- e];grind
theorem aB2 {B N T:Nat} {s x:Rat} (e:1 / s * (T:Rat) = (N:Rat)) (a:Ab B (x * (N:Rat))):Ab B (x * (1 / s) * (T:Rat)):=by
 rw [Rat.mul_assoc,e];exact a
theorem Gm.un {A W k:Nat} {f:Fm} (G:Gm A W k f):Gm A W k (unF f):=by
 obtain ⟨N,T,⟨⟨n0,n1⟩,⟨t0,t1⟩,e⟩,⟨d1,d2⟩,a1,a2⟩:=G.ex
 have e':=aHE G.pos e
 obtain ⟨r1,r2⟩:=aBw d1 (zY G.ok.2.2 d2) (tu f.t f.h).toNat
 have hb2:Ab (k * 12 ^ k * W) ((f.h:Rat) * f.py * (N:Rat)):=by
  rw [Rat.mul_assoc];exact aAe G.ok.2.2 a2
 obtain ⟨c1,c2⟩:=aB1 a1 hb2 (tu f.t f.h).toNat
 have key:∀ r:Rat,Dv (N * A) r->Ab (k * 12 ^ k * W) (r * (N:Rat))->Dv (T * A) ((r * (1 / f.s) + 0) * -1)/\Ab (k * 12 ^ k * W) ((r * (1 / f.s) + 0) * -1 * (T:Rat)):=fun r x1 x2=>by
  rw [show (r * (1 / f.s) + 0) * -1 = -(r * (1 / f.s)) by grind]
  refine ⟨(aBO e' x1).neg,?_⟩
  rw [Rat.neg_mul]
  exact (aB2 e' x2).neg
 have k1:=key _ r1 c1
 have k2:=key _ r2 c2
 exact ⟨⟨(rN _ _).1,(rN _ _).2,G.ok.2.2⟩,vA (by decide) G.pos,T,N,⟨⟨t0,t1⟩,⟨n0,n1⟩,e'⟩,⟨k1.1,k2.1⟩,k1.2,k2.2⟩
section
variable {A W K k j:Nat} {f g:Fm}
theorem aMq (n:aCe A W K) (G:Gm A W k f) (H:Gm A W j g) (l:k + j<=K):SeA f g:=by
 obtain ⟨N,T,⟨⟨n0,n1⟩,⟨t0,t1⟩,e⟩,⟨d1,d2⟩,a1,a2⟩:=(G.mono (show k<=K by omega)).ex
 have e':=aHE G.pos e
 have gf:=G.good n (by omega)
 exact ⟨gf,H.good n (by omega),⟨gf.1,gf.2.1,n.bq t0 t1 (aBO e' d1) (aB2 e' a1),n.bq t0 t1 (aBO e' d2) (aB2 e' a2)⟩,G.un.good n (by omega),H.ld n G.un (by omega)⟩
end
mutual
theorem aLC {A C:Nat} {Sf:Fm->Pl->Prop} {Se:Fm->Fm->Prop} (hs:∀ f p k,Gf A (2 ^ 25) k f->FA A p->k + 1<=C->Sf f p) (he:∀ f g k j,Gm A (2 ^ 25) k f->Gm A (2 ^ 25) j g->k<=C->j<=C->Se f g):∀ (r:Rw) (k:Nat) (f:Fm),Gf A (2 ^ 25) k f->Gm A (2 ^ 25) k f->alR (FA A) r->k + dnR r<=C->sfR Sf Se r f/\Gf A (2 ^ 25) (k + dnR r) (enR r f)/\Gm A (2 ^ 25) (k + dnR r) (enR r f)
 | .pl p,k,f,G,H,h,l=>by
  rw [alR] at h
  rw [dnR] at l ⊢
  rw [sfR,enR]
  exact ⟨hs f p k G h l,G.step h.1 (uU h.2),H.comp (Gm.row h.1 (uU h.2))⟩
 | .ag m ws,k,f,G,H,h,l=>by
  rw [alR] at h
  rw [dnR] at l ⊢
  rw [sfR,enR]
  have step:∀ i,i < m->k + dnS ws * i + dnS ws<=C:=fun i hi=>by
   have:dnS ws * (i + 1)<=dnS ws * m:=Nat.mul_le_mul_left _ hi
   rw [Nat.mul_succ] at this
   omega
  have all:∀ i,i<=m->Gf A (2 ^ 25) (k + dnS ws * i) (Nat.repeat (enS ws) i f)/\Gm A (2 ^ 25) (k + dnS ws * i) (Nat.repeat (enS ws) i f):=fun i=>by
   induction i with
   | zero=>exact fun _=>⟨G,H⟩
   | succ i ih =>
    intro hi
    have q:=ih (by omega)
    have:=(wU hs he ws _ _ q.1 q.2 h (step i (by omega))).2
    rw [Nat.mul_succ,<- Nat.add_assoc];exact this
  exact ⟨fun i hi=>(wU hs he ws _ _ (all i (by omega)).1 (all i (by omega)).2 h (step i hi)).1,all m (Nat.le_refl _)⟩
 | .kp ws,k,f,G,H,h,l=>by
  rw [alR] at h
  rw [dnR] at l ⊢
  rw [sfR,enR]
  exact ⟨(wU hs he ws k f G H h l).1,G.mono (by omega),H.mono (by omega)⟩
 | .ev ws,k,f,G,H,h,l=>by
  rw [alR] at h
  rw [dnR] at l ⊢
  rw [sfR,enR]
  have:=wU hs he ws k f G H h l
  exact ⟨⟨this.1,he _ _ _ _ H this.2.2 (by omega) l⟩,G.mono (by omega),H.mono (by omega)⟩
theorem wU {A C:Nat} {Sf:Fm->Pl->Prop} {Se:Fm->Fm->Prop} (hs:∀ f p k,Gf A (2 ^ 25) k f->FA A p->k + 1<=C->Sf f p) (he:∀ f g k j,Gm A (2 ^ 25) k f->Gm A (2 ^ 25) j g->k<=C->j<=C->Se f g):∀ (rs:List Rw) (k:Nat) (f:Fm),Gf A (2 ^ 25) k f->Gm A (2 ^ 25) k f->alS (FA A) rs->k + dnS rs<=C->sfS Sf Se rs f/\Gf A (2 ^ 25) (k + dnS rs) (enS rs f)/\Gm A (2 ^ 25) (k + dnS rs) (enS rs f)
 | [],k,f,G,H,_,l=>by
  rw [dnS] at l ⊢
  rw [sfS,enS]
  exact ⟨trivial,G,H⟩
 | r :: rs,k,f,G,H,h,l=>by
  rw [alS] at h
  rw [dnS] at l ⊢
  rw [sfS,enS]
  have h1:=aLC hs he r k f G H h.1 (by omega)
  have h2:=wU hs he rs _ _ h1.2.1 h1.2.2 h.2 (by omega)
  rw [Nat.add_assoc] at h2
  exact ⟨⟨h1.1,h2.1⟩,h2.2⟩
end
theorem pG {d N:Nat}:∀ rs:List Rw,(∀ r ∈ rs,gwR N r->evR r<=d * dnR r)->gwS N rs->evS rs<=d * dnS rs
 | [],_,_=>by rw [evS];exact Nat.zero_le _
 | r :: rs,h,g=>by
  rw [gwS] at g
  have h1:=h r (List.mem_cons_self ..) g.1
  have h2:=pG rs (fun x hx=>h x (List.mem_cons_of_mem _ hx)) g.2
  rw [evS,dnS,Nat.mul_add]
  omega
theorem yV {N:Nat}:∀ {d:Nat} {r:Rw},Dp d r->gwR N r->evR r<=d * dnR r
 | _,.pl _,_,_=>by rw [evR];exact Nat.zero_le _
 | 0,.ag _ _,h,_=>h.elim
 | 0,.kp _,h,_=>h.elim
 | 0,.ev _,h,_=>h.elim
 | d + 1,.ag n rs,h,g=>by
  rw [gwR] at g
  have:=pG (d:=d) rs (fun r hr gr=>yV (h.2.2 r hr) gr) g.2
  rw [evR,dnR,<- Nat.mul_assoc]
  exact Nat.mul_le_mul_right _ (Nat.le_trans this (Nat.mul_le_mul_right _ (by omega)))
 | d + 1,.kp rs,h,g=>by
  rw [gwR] at g
  have:=pG (d:=d) rs (fun r hr gr=>yV (h.2 r hr) gr) g.2
  rw [evR,dnR]
  exact Nat.le_trans this (Nat.mul_le_mul_right _ (by omega))
 | d + 1,.ev rs,h,g=>by
  rw [gwR] at g
  have:=pG (d:=d) rs (fun r hr gr=>yV (h.2 r hr) gr) g.2
  rw [evR,dnR,Nat.succ_mul]
  omega
theorem aKk {N d:Nat}:∀ {r:Rw},Dp (d + 1) r->gwR N r->evR r<=d * dnR r + 1
 | .pl _,_,_=>by rw [evR];exact Nat.zero_le _
 | .ag n rs,h,g=>by
  rw [gwR] at g
  have:=pG (d:=d) rs (fun r hr gr=>yV (h.2.2 r hr) gr) g.2
  rw [evR,dnR,<- Nat.mul_assoc]
  exact Nat.le_succ_of_le (Nat.mul_le_mul_right _ this)
 | .kp rs,h,g=>by
  rw [gwR] at g
  have:=pG (d:=d) rs (fun r hr gr=>yV (h.2 r hr) gr) g.2
  rw [evR,dnR]
  omega
 | .ev rs,h,g=>by
  rw [gwR] at g
  have:=pG (d:=d) rs (fun r hr gr=>yV (h.2 r hr) gr) g.2
  rw [evR,dnR]
  omega
theorem aA1 {N d:Nat}:∀ rs:List Rw,(∀ r ∈ rs,Dp (d + 1) r)->gwS N rs->evS rs<=d * dnS rs + rs.length
 | [],_,_=>by rw [evS];exact Nat.zero_le _
 | r :: rs,h,g=>by
  rw [gwS] at g
  have h1:=aKk (h r (List.mem_cons_self ..)) g.1
  have h2:=aA1 rs (fun x hx=>h x (List.mem_cons_of_mem _ hx)) g.2
  rw [evS,dnS,Nat.mul_add,List.length_cons]
  omega
noncomputable def aK9 (M:DM) (p0 st:Addr) (i:Nat) (ρ:cF) (M':DM):Prop:=∃ (A:Nat) (es:Es),(0 < A/\A<=2 ^ (48 * i))/\0 < es.length/\SI (FA A) M M' st es i/\∃ o2 o3 o4 o5 o6,ρ = [some (.ref p0),some (.ref st),o2,o3,o4,o5,o6]
theorem uE {es:Es} (h:0 < es.length):∃ (es':Es) (u:En) (m:Nat),es = es' ++ [(u,m)]:=by
 have n:es ≠ []:=fun z=>by rw [z] at h;exact absurd h (by decide)
 exact ⟨es.dropLast,_,_,(List.dropLast_concat_getLast n).symm⟩
theorem aFl {es:Es} {u:En} {m:Nat}:(es ++ [(u,m)])[es.length]? = some (u,m):=by rw [List.getElem?_append_right (Nat.le_refl _)];simp
theorem pK {A m i:Nat} {M M2:DM} {p0 st pr:Addr} {es:Es} {u:En} {L:List D} {o2 o3 o4 o5 o6:Option D} (ap:0 < A) (al:A<=2 ^ (48 * i)) (hi:i < 36) (si:SI (FA A) M M2 st (es ++ [(u,m)]) i) (hpr:M2 pr = some L) (hL:kC 12 L):∃ ds d,M2 st = some ds/\atI ds (-1) = some d/\jS d (.int 2) M2 fun x M1=>match x with
  | .ref p=>(∃ ds,M1 p = some ds)/\lX [.ref pr] M1 fun x M1=>∃ ds y,[x] = [y]/\M1 p = some ds/\ds.length < 1000/\aK9 M p0 st (i + 1) [some (.ref p0),some (.ref st),o2,o3,o4,o5,o6] (bE M1 p (ds ++ [y]))
  | _=>False:=by
 have hu:=si.ent _ _ aFl
 have sm:=si.sum
 rw [List.map_append,List.sum_append,List.length_append] at sm
 simp at sm
 refine ⟨_,enD u,si.hst,by unfold esD;rw [List.map_append];exact sK,?_⟩
 show (∃ ds,M2 u.a = some ds)/\_
 refine ⟨⟨_,hu.1.2.1⟩,pr,12,L,rfl,hpr,hL,by decide,fun p pb ⟨B,b0,b1,pg⟩=>⟨_,_,rfl,hu.1.2.1,?_,?_⟩⟩
 ·have:=hu.1.1.len
  rw [dI];show u.rs.length < 1000
  have:(u,m).2 = m:=rfl
  simp only at *
  omega
 ·refine ⟨A * B,es ++ [({ u with rs:=u.rs ++ [.pl p] },m + 1)],⟨Nat.mul_pos ap b0,?_⟩,by rw [List.length_append];show 0 < _ + 1;omega,?_,_,_,_,_,_,rfl⟩
  ·rw [Nat.mul_add,Nat.mul_one,Nat.pow_add];exact Nat.mul_le_mul al b1
  ·have hp:FA (A * B) p:=⟨by rw [Nat.mul_comm];exact pg.up A,pb⟩
   have s1:=si.up (m:=B)
   refine s1.top (by rw [bS hu.2.1];exact si.hst) (by rw [iP];exact aJ) (dN.refl.put (by simp)) ((s1.ent _ _ aFl).1.1.row hp (aLB hp)) (by omega)
theorem vG {A m m' i:Nat} {M M2:DM} {st:Addr} {es:Es} {u e:En} {Q:DQ} (hi:i<=40) (si:SI (FA A) M M2 st (es ++ [(u,m),(e,m')]) i) (q:∀ M' (es':Es),es'.length = es.length + 1->SI (FA A) M M' st es' (i + 1)->Q .non M'):lU [.ref st] M2 Q:=by
 have spl:es ++ [(u,m),(e,m')] = (es ++ [(u,m)]) ++ [(e,m')]:=by simp
 have ue:=si.ent es.length (u,m) (by rw [List.getElem?_append_right (Nat.le_refl _)];simp)
 have ee:=si.ent (es.length + 1) (e,m') (by rw [List.getElem?_append_right (by omega)];simp)
 have nd:=si.nod
 have sm:=si.sum
 have ln:=si.len
 simp at nd sm ln
 have l1:=ue.1.1.len
 have l2:=ee.1.1.len
 have d2:=ee.1.1.dn
 have f2:=aHw (m:=m')
 simp only at l1 l2 d2
 refine ⟨st,es.map (·.1),u,e,rfl,?_,by rw [List.length_map];omega,⟨ue.2.1,ee.2.1,?_⟩,ue.1.2.1,ee.1.2.1,ee.2.2.2 (by omega),ee.2.2.1,⟨by show e.rs.length<=1000;omega,fun r hr=>lR (d':=6) (ee.1.1.dp r hr) (Nat.le_trans (Nat.sub_le _ _) (by decide))⟩,ee.1.1.gw,by omega,by omega,by omega,fun M' h1 h2 k=>?_⟩
 ·rw [si.hst];unfold esD;simp
 ·intro z
  rw [List.nodup_append] at nd
  have:=nd.2.1
  rw [z] at this
  simp at this
 ·refine q M' _ ?_ (si.close ?_ h2 k (aFF A) (aGs A) hi)
  ·rw [List.length_append];rfl
  ·rw [h1];unfold esD;simp
noncomputable abbrev gX:Stmt:=top 67
theorem cX:aS ["_law_cells","_law_stack","_law_cell","_law_row_here","_law_way","_law_word","_law_rows"] ["_law_cells"] (aK gX):=⟨rfl,rfl,rfl,by decide +kernel,rfl,by decide +kernel,by decide +kernel⟩
theorem tS (hF:cA K mg "_law_program" gX ["_law_cells"]) (tH:mg "len" = none) (gS:mg "tuple" = none) (iO:Has P w K mg base 101 "_law_row" ["_law_cell","_law_many"] pB) (mL:Has P w K mg base 104 "_law_plain" ["_law_row_here"] lX) (jJ:Has P w K mg base 120 "_law_close" ["_law_stack"] lU) (dA:Has P w K mg base 118 "_law_done" ["_law_rows"] (hW 8)):Has P w K mg base 121 "_law_program" ["_law_cells"] nQ:=by
 refine Has.mkZ hF cX (fun ds M Q ⟨_,_,z,_⟩=>by rw [z];rfl) fun f cdv A outer s H ds M Q E hr h=>?_
 obtain ⟨p0,cs,rfl,hp0,hl,q⟩:=h
 refine ⟨_,(aE (aM (i:=1) cX.nd (bA (aA (aI (aA aL (aA aC (aA (bA aD) aD)))) aD)))
  (aE (qL PassesOwn.never rfl (aB 0) (aR (i:=2) cX.nd) (aE (aM (i:=3) cX.nd (aF iO hr (by decide) (aA (aB 2) (aA aC aD))))
  (aE (aM (i:=4) cX.nd (aN cW (aH (aB 3) aC) aC))
  (aG (bC (mJ (lQ (aQ wD (aB 4) aC) (kK (aQ wD (eC aAA tH (aA (aB 1) aD)) aC)))) (aE (aM (i:=5) cX.nd (aH (bA (aA aL (aA aL (aA aL aD)))) (aB 4)))
  (kM (bC (mJ (lQ (aQ (cN hr) (aB 5) aL) (kK (aQ wX aL (aCO (⟨rfl,by decide +kernel,by decide +kernel,by decide +kernel,rfl,by decide +kernel⟩:mH ["_law_cells","_law_stack","_law_cell","_law_row_here","_law_way","_law_word","_law_rows"] (aK gX) ["_law_block"] [none] _) rfl (aB 1) (fun _ _ _ _ _=>(aR (i:=0) (show List.Nodup (["_law_block"]:List Str) by decide +kernel))) (fun _ _ _ _ _=>(aH (aB 0) aC))) rfl)))) (aG (aM (i:=5) cX.nd aL)) aW)
  (aG (bZ (cG (aB 1) (aI (aA (aB 5) (aA (aN cW (aH (aB 3) aC) (aH (bA (aA aC (aA aC (aA aC aD)))) (aN cW (aH (aB 3) aC) aC))) (aA (bA aD) aD))))))))) (aG (bC (mJ (lQ (aQ (cN hr) (aB 4) aC) (kK (aQ jP (eC aAA tH (aA (aB 1) aD)) aC)))) (aG (bZ (aF jJ hr (by decide) (aA (aB 1) aD)))) (aG (bZ (cG (aH (aH (aB 1) (cQ aC)) aC) (aF mL hr (by decide) (aA (aB 3) aD))))))))))))
  (aE (kQ PassesOwn.never (aQ jP (eC aAA tH (aA (aB 1) aD)) aC) (aG (bZ (aF jJ hr (by decide) (aA (aB 1) aD)))))
  (aE (aM (i:=6) cX.nd (aH (aH (aB 1) aC) aC))
  (aE (kQ PassesOwn.never (aQ jP (aF dA hr (by decide) (aA (aB 6) aD)) aC) (aG (bZ (aCD (aB 6)))))
  (aG (aP (cU rM gS (aA (aB 6) aD))))))))),?_⟩
 decreasing_tactic
 refine ⟨by decide,fun a0 h0=>⟨by decide,by decide,fun st hs=>?_⟩⟩
 have si0:=SI.start (F:=FA 1) h0 hs
 generalize bE (bE M a0 []) st _ = M0 at si0 ⊢
 refine ⟨_,si0.sub _ _ hp0,aK9 M p0 st,⟨1,_,⟨by decide,by decide⟩,by show 0 < 1;omega,si0,_,_,_,_,_,rfl⟩,fun i ρ M' _ ⟨_,_,_,_,si,_⟩ a e=>by cases e;exact si.sub _ _ hp0,?_,?_⟩
 ·rintro i d ρ M1 hd ⟨A,es,⟨ap,al⟩,e0,si,o2,o3,o4,o5,o6,rfl⟩
  obtain ⟨c,_,rfl⟩:=List.mem_map.mp (List.mem_of_getElem? hd)
  have hi:i < 36:=by
   have:=(List.getElem?_eq_some_iff.mp hd).1
   rw [List.length_map] at this;omega
  decreasing_tactic
  refine ⟨c,12,rfl,by decide,by decide,fun pr L hpr hL=>?_⟩
  have si2:=si.mono (aX.new hpr L)
  have hpr2:bE M1 pr L pr = some L:=aJ
  have hL:kC 12 L:=hL
  generalize bE M1 pr L = M2 at si2 hpr2 ⊢
  clear si
  obtain ⟨z11,e11,_⟩:=hL.at (i:=11) (by omega)
  obtain ⟨z10,e10,_⟩:=hL.at (i:=10) (by omega)
  obtain ⟨z9,e9,_⟩:=hL.at (i:=9) (by omega)
  decreasing_tactic
  refine ⟨L,_,hpr2,e11,?_⟩
  decreasing_tactic
  refine ⟨by decide,?_⟩
  have hst:=si2.hst
  have sl:(esD es).length = es.length:=List.length_map _
  obtain ⟨es',u,m,rfl⟩:=uE e0
  by_cases c1:z11.fmod 9 < 3
  ·refine ifT (decide_eq_true c1) ⟨_,hst,?_⟩
   rw [sl]
   by_cases c2:(es' ++ [(u,m)]).length < 5
   ·refine ifT (decide_eq_true (by omega)) ⟨by decide,fun p hp=>?_⟩
    have s3:=aX.new hp [D.str "again",.str "keep",.str "ever"]
    obtain ⟨wd,ew,hw⟩:∃ wd:Str,atI [D.str "again",.str "keep",.str "ever"] (z11.fmod 9) = some (.str wd)/\wd3 wd:=by
     have h1:=Int.fmod_nonneg_of_pos z11 (show (0:Int) < 9 by decide)
     have:z11.fmod 9 = 0 ∨ z11.fmod 9 = 1 ∨ z11.fmod 9 = 2:=by omega
     rcases this with e | e | e<;>rw [e]
     ·exact ⟨_,rfl,.inl rfl⟩
     ·exact ⟨_,rfl,.inr (.inl rfl)⟩
     ·exact ⟨_,rfl,.inr (.inr rfl)⟩
    refine ⟨_,_,aJ,ew,fun ρ' M'=>aX M2 M'/\∃ wd o6,wd3 wd/\ρ' = [some (.ref p0),some (.ref st),some (.int c),some (.ref pr),some (.int (z11.fmod 9)),some (.str wd),o6],?_,?_⟩
    ·generalize bE M2 p _ = M3 at s3
     rw [aO]
     by_cases ce:wd = "ever"
     ·refine ifT (decide_eq_true ce) ⟨_,s3 _ _ hst,by rw [sl];omega,fun i ys M'=>M' = M3/\ys = ((es' ++ [(u,m)]).take i).map (fun x=>D.str x.1.wd),⟨rfl,rfl⟩,fun i ys M' _ h a e=>by cases e;rw [h.1];exact s3 _ _ hst,?_,?_⟩
      ·rintro i d ys M' hd ⟨rfl,rfl⟩
       unfold esD at hd
       rw [List.getElem?_map] at hd
       obtain ⟨x,hx,rfl⟩:=Option.map_eq_some_iff.mp hd
       rw [show enD x.1 = .tup [.str x.1.wd,.int (x.1.n:Int),.ref x.1.a] from rfl]
       decreasing_tactic
       exact ⟨rfl,by rw [dR hx,List.map_append];rfl⟩
      ·rintro ys M' ly ⟨rfl,rfl⟩ pt hpt
       have s4:=s3.trans (aX.new hpt ((((es' ++ [(u,m)]).take (esD (es' ++ [(u,m)])).length)).map (fun x=>D.str x.1.wd)))
       decreasing_tactic
       refine ⟨((es' ++ [(u,m)]).take (esD (es' ++ [(u,m)])).length).map (fun x=>x.1.wd),by rw [aJ,List.map_map];rfl,?_⟩
       split
       ·exact ⟨s4,_,_,.inr (.inl rfl),rfl⟩
       ·exact ⟨s4,_,_,hw,rfl⟩
     ·exact ifF (decide_eq_false ce) (ifF rfl ⟨s3,_,_,hw,rfl⟩)
    ·rintro ρ' M3 ⟨s3',wd,o6,hw,rfl⟩
     have si3:=si2.mono s3'
     have hpr3:=s3' _ _ hpr2
     clear s3 hp s3'
     decreasing_tactic
     refine ⟨⟨_,si3.hst⟩,L,_,hpr3,e10,by decide,fun p4 hp4=>?_⟩
     have s4:=aX.new hp4 [D.int 3,.int 3,.int 13]
     refine ⟨L,_,s4 _ _ hpr3,e9,?_⟩
     decreasing_tactic
     obtain ⟨k,ek,hk⟩:∃ k:Int,atI [D.int 3,.int 3,.int 13] (z9.fmod 3) = some (.int k)/\(k = 3 ∨ k = 13):=by
      have h1:=Int.fmod_nonneg_of_pos z9 (show (0:Int) < 3 by decide)
      have h2:=Int.fmod_lt_of_pos z9 (show (0:Int) < 3 by decide)
      have:z9.fmod 3 = 0 ∨ z9.fmod 3 = 1 ∨ z9.fmod 3 = 2:=by omega
      rcases this with e | e | e<;>rw [e]
      ·exact ⟨_,rfl,.inl rfl⟩
      ·exact ⟨_,rfl,.inl rfl⟩
      ·exact ⟨_,rfl,.inr rfl⟩
     refine ⟨by decide,_,_,aJ,ek,?_⟩
     decreasing_tactic
     have si4:=si3.mono s4
     generalize bE M3 p4 _ = M4 at s4 si4
     have h1:=Int.fmod_nonneg_of_pos z10 (show (0:Int) < k by omega)
     have h2:=Int.fmod_lt_of_pos z10 (show (0:Int) < k by omega)
     refine ⟨by omega,by decide,fun p5 hp5=>⟨by decide,_,_,rfl,(aX.new hp5 []) _ _ si4.hst,by rw [sl];omega,?_⟩⟩
     have n5:p5 ≠ st:=fun z=>by rw [z,si4.hst] at hp5;cases hp5
     refine ⟨A,(es' ++ [(u,m)]) ++ [(⟨wd,(z10.fmod k).toNat,p5,[]⟩,0)],⟨ap,Nat.le_trans al (Nat.pow_le_pow_right (by decide) (by omega))⟩,by rw [List.length_append];show 0 < _ + 1;omega,?_,_,_,_,_,_,rfl⟩
     refine si4.push c2 hp5 ?_ ?_ ?_ hw (by omega) (Nat.le_refl _)
     ·rw [aJ]
      have e:esD ((es' ++ [(u,m)]) ++ [(⟨wd,(z10.fmod k).toNat,p5,[]⟩,0)]) = esD (es' ++ [(u,m)]) ++ [D.tup [.str wd,.int ((z10.fmod k).toNat:Int),.ref p5]]:=by unfold esD;rw [List.map_append (l₁:=es' ++ [(u,m)])];rfl
      rw [e,Int.toNat_of_nonneg h1]
     ·rw [bS n5];exact aJ
     ·exact (dN.refl.put (by simp)).put (by simp)
   ·refine ifF (decide_eq_false (by omega)) ?_
    rw [iI]
    refine ifF (decide_eq_false (by omega)) (ifF rfl ?_)
    exact pK ap al hi si2 hpr2 hL
  ·refine ifF (decide_eq_false c1) (ifF rfl ?_)
   rw [iI]
   by_cases c3:z11.fmod 9 = 3
   ·refine ifT (decide_eq_true c3) ⟨_,hst,?_⟩
    rw [sl]
    by_cases c2:1 < (es' ++ [(u,m)]).length
    ·refine ifT (decide_eq_true (by omega)) ?_
     have l0:0 < es'.length:=by rw [List.length_append] at c2;simp at c2;omega
     obtain ⟨es2,u2,m2,rfl⟩:=uE l0
     rw [List.append_assoc] at si2
     refine vG (by omega) si2 fun M' es3 l3 si3=>?_
     exact ⟨A,es3,⟨ap,Nat.le_trans al (Nat.pow_le_pow_right (by decide) (by omega))⟩,by omega,si3,_,_,_,_,_,rfl⟩
    ·refine ifF (decide_eq_false (by omega)) ?_
     exact pK ap al hi si2 hpr2 hL
   ·refine ifF (decide_eq_false c3) (ifF rfl ?_)
    exact pK ap al hi si2 hpr2 hL
 ·rintro ρ M' ⟨A,es,⟨ap,al⟩,e0,si,o2,o3,o4,o5,o6,rfl⟩
  rw [List.length_map] at al si
  have al:A<=2 ^ (48 * 36):=Nat.le_trans al (Nat.pow_le_pow_right (by decide) (by omega))
  refine kN (fun m ρ M'=>∃ (c:Nat) (es:Es),m = es.length/\0 < es.length/\c + es.length<=41/\SI (FA A) M M' st es c/\∃ o2 o3 o4 o5 o6,ρ = [some (.ref p0),some (.ref st),o2,o3,o4,o5,o6]) es.length ⟨cs.length,es,rfl,e0,by have:=si.len;omega,si,_,_,_,_,_,rfl⟩ ?_
  clear si e0 es
  rintro m ρ M1 ⟨c,es,rfl,e0,hc,si,o2,o3,o4,o5,o6,rfl⟩
  have sl:(esD es).length = es.length:=List.length_map _
  decreasing_tactic
  refine ⟨_,si.hst,?_⟩
  rw [sl]
  obtain ⟨es',u,m,rfl⟩:=uE e0
  by_cases c2:1 < (es' ++ [(u,m)]).length
  ·refine ifT (decide_eq_true (by omega)) ?_
   have le:(es' ++ [(u,m)]).length = es'.length + 1:=by rw [List.length_append];rfl
   obtain ⟨es2,u2,m2,rfl⟩:=uE (show 0 < es'.length by omega)
   have le2:(es2 ++ [(u2,m2)]).length = es2.length + 1:=by rw [List.length_append];rfl
   rw [List.append_assoc] at si
   refine vG (by omega) si fun M' es3 l3 si3=>?_
   exact ⟨es3.length,by omega,c + 1,es3,rfl,by omega,by omega,si3,_,_,_,_,_,rfl⟩
  ·refine ifF (decide_eq_false (by omega)) ?_
   have l0:es' = []:=by
    have le:(es' ++ [(u,m)]).length = es'.length + 1:=by rw [List.length_append];rfl
    exact List.eq_nil_of_length_eq_zero (by omega)
   subst l0
   have hu:=si.ent 0 (u,m) rfl
   have sm:=si.sum
   simp at sm
   refine ⟨_,_,si.hst,aCb,?_⟩
   show jS (.tup [.str u.wd,.int (u.n:Int),.ref u.a]) (.int 2) M1 _
   decreasing_tactic
   have ok:=hu.1.1
   refine kN (fun m ρ M'=>∃ rs:List Rw,m = rs.length/\rs.length<=40/\(∀ r ∈ rs,Dp 4 r)/\gwS 704 rs/\alS (FA A) rs/\M' u.a = some (bI rs)/\aX M M'/\∃ o1 o2 o3 o4 o5,ρ = [some (.ref p0),o1,o2,o3,o4,o5,some (.ref u.a)]) u.rs.length ⟨u.rs,rfl,by have:=ok.len;simp only at this;omega,ok.dp,ok.gw,ok.al,hu.1.2.1,si.sub,_,_,_,_,_,rfl⟩ ?_
   have ua:=hu.1.2.2
   clear si hu sm ok hc c2 e0 sl
   rintro m ρ M2 ⟨rs,rfl,lr,dp,gw,al2,hM,sub,o1,o2,o3,o4,o5,rfl⟩
   decreasing_tactic
   have d8:DpS 8 rs:=⟨by omega,fun r hr=>lR (d':=7) (dp r hr) (by decide)⟩
   refine ⟨_,rs,rfl,.inr ⟨_,rfl,hM⟩,d8,?_⟩
   decreasing_tactic
   by_cases c3:300 < dnS rs
   ·refine ifT (decide_eq_true (by omega)) ?_
    have rn:rs ≠ []:=fun z=>by rw [z,dnS] at c3;omega
    obtain ⟨rs',r,rfl⟩:∃ rs' r,rs = rs' ++ [r]:=⟨_,_,(List.dropLast_concat_getLast rn).symm⟩
    have el:bI (rs' ++ [r]) = bI rs' ++ [rwD r]:=by rw [iP,bI,bI]
    have ll:(rs' ++ [r]).length = rs'.length + 1:=by rw [List.length_append];rfl
    rw [el] at hM
    refine ⟨_,rwD r,hM,by simp,rs'.length,by omega,rs',rfl,by omega,fun x hx=>dp x (List.mem_append_left _ hx),(iN.mp gw).1,(lP.mp al2).1,by rw [aJ,List.dropLast_concat],?_,_,_,_,_,_,rfl⟩
    exact gG sub (dN.refl.put (List.mem_singleton.mpr rfl)) fun a ha=>by rw [List.mem_singleton.mp ha];exact ua
   ·refine ifF (decide_eq_false (by omega)) ?_
    decreasing_tactic
    exact ⟨_,hM,bW (q rs A M2 ap al dp lr (by omega) gw al2 sub)⟩
noncomputable def qM:DSp:=fun ds M Q=>ds = []/\Q (mtF .one) M
noncomputable abbrev mZ:Stmt:=top 72
theorem aAF:aS [] [] (aK mZ):=⟨rfl,rfl,rfl,by decide +kernel,rfl,by decide +kernel,by decide +kernel⟩
theorem xQ (hF:cA K mg "_law_begin" mZ []) (lK:Has P w K mg base 103 "_law_matrix" ["_law_frame"] pA):Has P w K mg base 104 "_law_begin" [] qM:=by
 refine Has.mkZ hF aAF (fun ds M Q ⟨z,_⟩=>by rw [z];rfl) fun f cdv A outer s H ds M Q E hr h=>?_
 obtain ⟨rfl,q⟩:=h
 refine ⟨_,(aG (aP (aF lK hr (by decide) (aA (aI (aA (aI (aA (aI (aA aC (aA aC aD))) (aA (aI (aA aC (aA aC aD))) aD))) (aA aC (aA aC (aA (aI (aA aC (aA aC aD))) aD))))) aD)))),?_⟩
 have o1:Fm.one.Good 1:=⟨bqz,bqz,by decide,by decide,.inl rfl,by decide,bq1⟩
 decreasing_tactic
 exact ⟨by decide,by decide,by decide,by decide,by decide,0,0,0,1,1,rfl,eM.mono o1 (by decide),bW q⟩
noncomputable def stP:Lg->Rat × Rat
 | .st x y _ _=>(x,y)
 | .bd _ _ c d _ _ _=>(c,d)
noncomputable def enP:Lg->Rat × Rat
 | .st _ _ u v=>(u,v)
 | .bd _ _ _ _ e f _=>(e,f)
noncomputable def nX:DSp:=fun ds M Q=>∃ l,ds = [lgD l]/\Q (PQ (stP l).1 (stP l).2) M
noncomputable abbrev pU:Stmt:=top 50
theorem aBA:aS ["leg"] ["leg"] (aK pU):=⟨rfl,rfl,rfl,by decide +kernel,rfl,by decide +kernel,by decide +kernel⟩
theorem aAy (hF:cA K mg "start_of" pU ["leg"]):Has P w K mg base 101 "start_of" ["leg"] nX:=by
 refine Has.mkZ hF aBA (fun ds M Q ⟨_,z,_⟩=>by rw [z];rfl) fun f cdv A outer s H ds M Q E hr h=>?_
 obtain ⟨l,rfl,q⟩:=h
 refine ⟨_,(aG (aP (iR (aQ (cN hr) (aH (aB 0) aC) aL) (aH (aB 0) aC) (aH (aB 0) aC)))),?_⟩
 cases l with
 | st x y u v =>
  dsimp only [lgD,stP] at q ⊢
  decreasing_tactic
  rw [aO]
  exact ifT (by decide) (bW q)
 | bd a b c d e g i =>
  dsimp only [lgD,stP] at q ⊢
  decreasing_tactic
  rw [aO]
  exact ifF (by decide) (bW q)
noncomputable def sE:DSp:=fun ds M Q=>∃ l,ds = [lgD l]/\Q (PQ (enP l).1 (enP l).2) M
noncomputable abbrev vB:Stmt:=top 51
theorem aDE:aS ["leg"] ["leg"] (aK vB):=⟨rfl,rfl,rfl,by decide +kernel,rfl,by decide +kernel,by decide +kernel⟩
theorem aB7 (hF:cA K mg "end_of" vB ["leg"]):Has P w K mg base 101 "end_of" ["leg"] sE:=by
 refine Has.mkZ hF aDE (fun ds M Q ⟨_,z,_⟩=>by rw [z];rfl) fun f cdv A outer s H ds M Q E hr h=>?_
 obtain ⟨l,rfl,q⟩:=h
 refine ⟨_,(aG (aP (iR (aQ (cN hr) (aH (aB 0) aC) aL) (aH (aB 0) aC) (aH (aB 0) aC)))),?_⟩
 cases l with
 | st x y u v =>
  dsimp only [lgD,enP] at q ⊢
  decreasing_tactic
  rw [aO]
  exact ifT (by decide) (bW q)
 | bd a b c d e g i =>
  dsimp only [lgD,enP] at q ⊢
  decreasing_tactic
  rw [aO]
  exact ifF (by decide) (bW q)
noncomputable def clo (ls:List Lg):List Lg:=match ls.head?,ls.getLast? with
 | some a,some b=>if stP a = enP b then ls else ls ++ [.st (enP b).1 (enP b).2 (stP a).1 (stP a).2]
 | _,_=>ls
theorem aD7 {ls:List Lg} {a b:Lg} (h1:ls.head? = some a) (h2:ls.getLast? = some b):clo ls = if stP a = enP b then ls else ls ++ [.st (enP b).1 (enP b).2 (stP a).1 (stP a).2]:=by
 unfold clo;rw [h1,h2]
theorem aC7 {a b:Rat × Rat}:decide (a.1 = b.1/\a.2 = b.2) = decide (a = b):=by
 by_cases c:a = b
 ·rw [decide_eq_true c,decide_eq_true ⟨by rw [c],by rw [c]⟩]
 ·rw [decide_eq_false c,decide_eq_false fun z=>c (Prod.ext z.1 z.2)]
noncomputable def yT:DSp:=fun ds M Q=>∃ (a:Addr) (ls:List Lg),ds = [.ref a]/\M a = some (ls.map lgD)/\ls ≠ []/\ls.length<=900/\∀ (b:Addr) M',M' b = some ((clo ls).map lgD)->aX M M'->(b = a ∨ M b = none)->Q (.ref b) M'
noncomputable abbrev vN:Stmt:=top 52
theorem sJ:aS ["stroke","start","stop"] ["stroke"] (aK vN):=⟨rfl,rfl,rfl,by decide +kernel,rfl,by decide +kernel,by decide +kernel⟩
theorem aBG (hF:cA K mg "closed" vN ["stroke"]) (gK:Has P w K mg base 101 "start_of" ["leg"] nX) (kE:Has P w K mg base 101 "end_of" ["leg"] sE):Has P w K mg base 102 "closed" ["stroke"] yT:=by
 refine Has.mkZ hF sJ (fun ds M Q ⟨_,_,z,_⟩=>by rw [z];rfl) fun f cdv A outer s H ds M Q E hr h=>?_
 obtain ⟨a,ls,rfl,ha,ne,hl,q⟩:=h
 refine ⟨_,(aE (aM (i:=1) sJ.nd (aF gK hr (by decide) (aA (aH (aB 0) aC) aD)))
  (aE (aM (i:=2) sJ.nd (aF kE hr (by decide) (aA (aH (aB 0) (cQ aC)) aD)))
  (aG (aP (iR (aQ (cN hr) (aB 1) (aB 2)) (aB 0) (aN cP (aB 0) (bA (aA (aI (aA aL (aA (aB 2) (aA (aB 1) aD)))) aD)))))))),?_⟩
 decreasing_tactic
 obtain ⟨l0,cJ,rfl⟩:∃ l0 cJ,ls = l0 :: cJ:=by
  cases ls with
  | nil=>exact absurd rfl ne
  | cons a b=>exact ⟨a,b,rfl⟩
 obtain ⟨pre,lz,ez⟩:∃ pre lz,l0 :: cJ = pre ++ [lz]:=⟨_,_,(List.dropLast_concat_getLast ne).symm⟩
 have ec:=aD7 (ls:=l0 :: cJ) (a:=l0) (b:=lz) rfl (by rw [ez];simp)
 have al:atI ((l0 :: cJ).map lgD) (-1) = some (lgD lz):=by rw [ez,List.map_append];exact sK
 refine ⟨_,_,ha,aCb,l0,rfl,_,_,ha,al,lz,rfl,?_⟩
 decreasing_tactic
 rw [nL,aC7]
 by_cases c:stP l0 = enP lz
 ·rw [if_pos c] at ec
  exact ifT (decide_eq_true c) (bW (q a M (by rw [ec];exact ha) (.refl _) (.inl rfl)))
 ·rw [if_neg c] at ec
  refine ifF (decide_eq_false c) ⟨by decide,by decide,fun p hp=>?_⟩
  have s1:=aX.new hp [D.tup [.str "straight",PQ (enP lz).1 (enP lz).2,PQ (stP l0).1 (stP l0).2]]
  refine ⟨_,_,s1 _ _ ha,aJ,by rw [List.length_map];show _ + 1<=1000;omega,fun p2 hp2=>bW (q p2 _ ?_ (s1.trans (aX.new hp2 _)) (.inr (eD hp2).2))⟩
  rw [aJ,ec,List.map_append];rfl
noncomputable def nd:Lg->Bool
 | .st x y u v=>!decide (x = u/\y = v)
 | .bd _ _ _ _ _ _ _=>true
noncomputable def lgF (rs:List Rw):List Lg:=((lgS rs 0 .one []).map (·.1)).filter nd
noncomputable def aCj:DSp:=fun ds M Q=>∃ rs,ds = [.tup (bI rs)]/\aAb rs/\dnS rs<=300/\∀ (p:Addr) M',M p = none->M' p = some ((lgF rs).map lgD)->aX M M'->Q (.ref p) M'
noncomputable abbrev pR:Stmt:=top 49
theorem tX:aS ["program","found"] ["program"] (aK pR):=⟨rfl,rfl,rfl,by decide +kernel,rfl,by decide +kernel,by decide +kernel⟩
theorem aEw (hF:cA K mg "legs" pR ["program"]) (lB:Has P w K mg base 147 "gone_along" ["program"] oX):Has P w K mg base 148 "legs" ["program"] aCj:=by
 refine Has.mkZ hF tX (fun ds M Q ⟨_,z,_⟩=>by rw [z];rfl) fun f cdv A outer s H ds M Q E hr h=>?_
 obtain ⟨rs,rfl,ok,dn,q⟩:=h
 refine ⟨_,(aE (uM (i:=1) (⟨rfl,by decide +kernel,by decide +kernel,by decide +kernel,rfl,by decide +kernel⟩:mH ["program","found"] (aK pR) ["row"] [none] _) rfl tX.nd (aH (aF lB hr (by decide) (aA (aB 0) aD)) aC) (fun _ _ _ _ _=>(aR (i:=0) (show List.Nodup (["row"]:List Str) by decide +kernel))) (fun _ _ _ _ _=>(aH (aB 0) aC)))
  (aG (aP (aEZ (⟨rfl,by decide +kernel,by decide +kernel,by decide +kernel,rfl,by decide +kernel⟩:mH ["program","found"] (aK pR) ["leg"] [none] _) rfl (aB 1) (fun _ _ _ _ _=>(aR (i:=0) (show List.Nodup (["leg"]:List Str) by decide +kernel))) (fun _ _ _ _ _=>(mJ (uJ (aQ (cN hr) (aH (aB 0) aC) aL) (qW (aQ (rB hr) (aH (aB 0) aC) (aH (aB 0) aC)))))) (fun _ _ _ _ _=>(aB 0)))))),?_⟩
 decreasing_tactic
 refine ⟨rs,rfl,ok,dn,fun ps pe Es M1 h1 h2 pr sub=>?_⟩
 decreasing_tactic
 have ll:=kS rs 0 .one []
 refine ⟨_,h1,by rw [List.length_map];omega,fun i ys M'=>M' = M1/\ys = ((lgS rs 0 .one []).take i).map (fun x=>lgD x.1),⟨rfl,rfl⟩,fun i ys M' _ h a e=>by cases e;rw [h.1];exact h1,?_,?_⟩
 ·rintro i d ys M' hd ⟨rfl,rfl⟩
  rw [List.getElem?_map] at hd
  obtain ⟨x,hx,rfl⟩:=Option.map_eq_some_iff.mp hd
  dsimp only [lrD]
  decreasing_tactic
  exact ⟨rfl,by rw [dR hx,List.map_append];rfl⟩
 ·rintro ys M' hy ⟨rfl,rfl⟩ p hp
  have s1:=aX.new hp (((lgS rs 0 .one []).take ((lgS rs 0 .one []).map lrD).length).map (fun x=>lgD x.1))
  have hp2:bE M' p (((lgS rs 0 .one []).take ((lgS rs 0 .one []).map lrD).length).map (fun x=>lgD x.1)) p = some (((lgS rs 0 .one []).map (·.1)).map lgD):=by
   rw [aJ,List.length_map,List.take_length,List.map_map];rfl
  generalize bE M' p _ = M2 at s1 hp2 ⊢
  decreasing_tactic
  have l2:(((lgS rs 0 .one []).map (·.1)).map lgD).length<=1000:=by rw [List.length_map,List.length_map];omega
  unfold lgF at q
  generalize (lgS rs 0 .one []).map (·.1) = L at hp2 l2 q
  refine ⟨_,hp2,l2,fun i ys M'=>M' = M2/\ys = ((L.take i).filter nd).map lgD,⟨rfl,rfl⟩,fun i ys M' _ h a e=>by cases e;rw [h.1];exact hp2,?_,?_⟩
  ·rintro i d ys M' hd ⟨rfl,rfl⟩
   rw [List.getElem?_map] at hd
   obtain ⟨x,hx,rfl⟩:=Option.map_eq_some_iff.mp hd
   have e1:((L.take (i + 1)).filter nd) = (L.take i).filter nd ++ [x].filter nd:=by rw [dR hx,List.filter_append]
   decreasing_tactic
   rw [e1]
   cases x with
   | st x y u v =>
    dsimp only [lgD]
    decreasing_tactic
    rw [aO]
    refine ifF (by decide) ?_
    rw [nL]
    by_cases c:x = u/\y = v
    ·refine ifF (by rw [decide_eq_true c];rfl) ⟨rfl,?_⟩
     simp [nd,c]
    ·refine ifT (by rw [decide_eq_false c];rfl) ⟨rfl,?_⟩
     simp [nd,c,lgD]
   | bd a b c d e g h =>
    dsimp only [lgD]
    decreasing_tactic
    rw [aO]
    refine ifT (by decide) (ifT rfl ⟨rfl,?_⟩)
    rw [List.map_append];rfl
  ·rintro ys M' hy ⟨rfl,rfl⟩ p2 hp2'
   have f0:M p2 = none:=by
    cases c:M p2 with
    | none=>rfl
    | some o=>rw [s1 _ _ (sub _ _ c)] at hp2';cases hp2'
   exact bW (q p2 _ f0 (by rw [aJ,List.length_map,List.take_length]) ((sub.trans s1).trans (aX.new hp2' _)))
noncomputable def gpS (gs:List (List Lg)) (l:Lg):List (List Lg):=match gs.getLast? with
 | none=>[[l]]
 | some g=>match g.getLast? with
  | none=>gs ++ [[l]]
  | some b=>if enP b = stP l then gs.dropLast ++ [g ++ [l]] else gs ++ [[l]]
noncomputable def grp (ls:List Lg):List (List Lg):=ls.foldl gpS []
structure LL (B M:DM) (t:Addr) (qs:List Addr) (gs:List (List Lg)):Prop where
 t0:B t = none
 ht:M t = some (qs.map D.ref)
 len:qs.length = gs.length
 it:∀ (i:Nat) q g,qs[i]? = some q->gs[i]? = some g->M q = some (g.map lgD)/\B q = none/\q ≠ t
 nod:qs.Nodup
 sub:aX B M
theorem qN {B M:DM} {a:Addr} (s:aX B M) (h:M a = none):B a = none:=by
 cases c:B a with
 | none=>rfl
 | some o=>rw [s _ _ c] at h;cases h
theorem LL.mono {B M M':DM} {t:Addr} {qs:List Addr} {gs:List (List Lg)} (h:LL B M t qs gs) (s:aX M M'):LL B M' t qs gs :=
 ⟨h.t0,s _ _ h.ht,h.len,fun i q g a b=>⟨s _ _ (h.it i q g a b).1,(h.it i q g a b).2⟩,h.nod,h.sub.trans s⟩
theorem LL.has {B M:DM} {t:Addr} {qs:List Addr} {gs:List (List Lg)} (h:LL B M t qs gs) {q:Addr} (m:q ∈ qs):∃ g,g ∈ gs/\M q = some (g.map lgD)/\B q = none/\q ≠ t:=by
 obtain ⟨i,hi⟩:=List.mem_iff_getElem?.mp m
 have l:=(List.getElem?_eq_some_iff.mp hi).1
 have l2:i < gs.length:=by have:=h.len;omega
 exact ⟨gs[i],List.getElem_mem l2,h.it i q _ hi (List.getElem?_eq_getElem l2)⟩
theorem LL.push {B M M':DM} {t q:Addr} {qs:List Addr} {gs:List (List Lg)} {g:List Lg} (h:LL B M t qs gs) (hq:M q = none) (ht:M' t = some ((qs ++ [q]).map D.ref)) (hq':M' q = some (g.map lgD)) (k:dN M M' [t,q]):LL B M' t (qs ++ [q]) (gs ++ [g]):=by
 have nt:q ≠ t:=fun z=>by rw [z,h.ht] at hq;cases hq
 have bq:=qN h.sub hq
 refine ⟨h.t0,ht,by rw [List.length_append,List.length_append,h.len];rfl,fun i a b ha hb=>?_,?_,gG h.sub k fun a ha=>?_⟩
 ·rcases hZ ha with z | ⟨rfl,rfl⟩
  ·have l:=(List.getElem?_eq_some_iff.mp z).1
   rw [List.getElem?_append_left (by rw [<- h.len];exact l)] at hb
   obtain ⟨h1,h2,h3⟩:=h.it i a b z hb
   refine ⟨k _ (fun c hc y=>?_) _ h1,h2,h3⟩
   rcases List.mem_cons.mp hc with rfl | y2
   ·cases y;exact h3 rfl
   ·rw [List.mem_singleton.mp y2] at y
    cases y;rw [hq] at h1;cases h1
  ·rcases hZ hb with z | ⟨_,rfl⟩
   ·have:=(List.getElem?_eq_some_iff.mp z).1
    have:=h.len;omega
   ·exact ⟨hq',bq,nt⟩
 ·rw [List.nodup_append]
  refine ⟨h.nod,by simp,fun a ha b hb=>?_⟩
  rw [List.mem_singleton.mp hb]
  intro z
  obtain ⟨_,_,h1,_⟩:=h.has ha
  rw [z,hq] at h1;cases h1
 ·rcases List.mem_cons.mp ha with rfl | y
  ·exact h.t0
  ·rw [List.mem_singleton.mp y];exact bq
theorem LL.last {B M:DM} {t:Addr} {qs:List Addr} {gs:List (List Lg)} {g:List Lg} {l:Lg} (h:LL B M t qs (gs ++ [g])):∃ q:Addr,atI (qs.map D.ref) (-1) = some (.ref q)/\M q = some (g.map lgD)/\q ∈ qs/\LL B (bE M q (g.map lgD ++ [lgD l])) t qs (gs ++ [g ++ [l]]):=by
 have ln:=h.len
 rw [List.length_append] at ln
 have ln:qs.length = gs.length + 1:=ln
 have ne:qs ≠ []:=fun z=>by rw [z] at ln;simp at ln
 obtain ⟨q0,q,rfl⟩:∃ q0 q,qs = q0 ++ [q]:=⟨_,_,(List.dropLast_concat_getLast ne).symm⟩
 have lq:q0.length = gs.length:=by rw [List.length_append] at ln;simpa using ln
 clear ln
 have iq:(q0 ++ [q])[q0.length]? = some q:=by rw [List.getElem?_append_right (Nat.le_refl _)];simp
 have ig:(gs ++ [g])[q0.length]? = some g:=by rw [lq,List.getElem?_append_right (Nat.le_refl _)];simp
 obtain ⟨hq,bq,nt⟩:=h.it _ _ _ iq ig
 refine ⟨q,by rw [List.map_append];exact sK,hq,by simp,h.t0,by rw [bS (Ne.symm nt)];exact h.ht,by rw [List.length_append,List.length_append,lq];rfl,fun i a b ha hb=>?_,h.nod,gG h.sub (dN.refl.put (List.mem_singleton.mpr rfl)) fun a ha=>by rw [List.mem_singleton.mp ha];exact bq⟩
 rcases hZ ha with z | ⟨rfl,rfl⟩
 ·have l1:=(List.getElem?_eq_some_iff.mp z).1
  have nq:a ≠ q:=fun y=>by
   have nd:=h.nod
   rw [List.nodup_append] at nd
   exact nd.2.2 a (List.mem_of_getElem? z) q (by simp) y
  rw [List.getElem?_append_left (by omega)] at hb
  obtain ⟨h1,h2⟩:=h.it i a b ha (by rw [List.getElem?_append_left (by omega)];exact hb)
  exact ⟨by rw [bS nq];exact h1,h2⟩
 ·rw [lq,List.getElem?_append_right (Nat.le_refl _)] at hb
  simp at hb
  subst hb
  exact ⟨by rw [aJ,List.map_append];rfl,bq,nt⟩
theorem aLL {gs:List (List Lg)} {l:Lg} (h:∀ g ∈ gs,g ≠ []):∀ g ∈ gpS gs l,g ≠ []:=by
 have s1:∀ g ∈ gs ++ [[l]],g ≠ []:=fun g hg=>(List.mem_append.mp hg).elim (h g) fun z=>by rw [List.mem_singleton.mp z];simp
 unfold gpS
 cases e:gs.getLast? with
 | none=>intro g hg;rw [List.mem_singleton.mp hg];simp
 | some g0 =>
  dsimp only
  cases e2:g0.getLast? with
  | none=>exact s1
  | some b =>
   dsimp only
   by_cases c:enP b = stP l
   ·rw [if_pos c]
    intro g hg
    rcases List.mem_append.mp hg with z | z
    ·exact h g ((List.dropLast_sublist _).subset z)
    ·rw [List.mem_singleton.mp z];simp
   ·rw [if_neg c];exact s1
theorem aIr {gs:List (List Lg)} {l:Lg} (h:∀ g ∈ gs,g ≠ []):(gpS gs l).flatten = gs.flatten ++ [l]:=by
 unfold gpS
 cases e:gs.getLast? with
 | none=>rw [List.getLast?_eq_none_iff.mp e];rfl
 | some g0 =>
  have eg:gs = gs.dropLast ++ [g0]:=by
   have ne:gs ≠ []:=fun z=>by rw [z] at e;cases e
   rw [List.getLast?_eq_some_getLast ne] at e
   rw [<- Option.some.inj e];exact (List.dropLast_concat_getLast ne).symm
  dsimp only
  cases e2:g0.getLast? with
  | none=>exact absurd (List.getLast?_eq_none_iff.mp e2) (h g0 (by rw [eg];simp))
  | some b =>
   dsimp only
   by_cases c:enP b = stP l
   ·rw [if_pos c]
    conv=>rhs;rw [eg]
    simp
   ·rw [if_neg c];simp
theorem vW (ls:List Lg) (l:Lg):grp (ls ++ [l]) = gpS (grp ls) l:=by unfold grp;rw [List.foldl_append];rfl
theorem pM (ls:List Lg):(∀ g ∈ grp ls,g ≠ [])/\(grp ls).flatten = ls:=by
 rw [<- List.reverse_reverse ls]
 generalize ls.reverse = rs
 induction rs with
 | nil=>exact ⟨(fun g hg=>nomatch hg),rfl⟩
 | cons r rs ih =>
  rw [List.reverse_cons,vW]
  exact ⟨aLL ih.1,by rw [aIr ih.1,ih.2]⟩
theorem aG6 {gs:List (List Lg)} {g:List Lg} (h:g ∈ gs):g.length<=gs.flatten.length:=by
 obtain ⟨a,b,rfl⟩:=List.append_of_mem h
 simp
 omega
theorem qK {ls:List Lg} {g:List Lg} (h:g ∈ grp ls):g.length<=ls.length:=by
 have:=aG6 h
 rw [(pM ls).2] at this;exact this
theorem aCm:∀ {gs:List (List Lg)},(∀ g ∈ gs,g ≠ [])->gs.length<=gs.flatten.length
 | [],_=>Nat.le_refl _
 | g :: gs,h=>by
  have:=aCm (gs:=gs) fun x hx=>h x (List.mem_cons_of_mem _ hx)
  have:g.length ≠ 0:=fun z=>h g (List.mem_cons_self ..) (List.eq_nil_of_length_eq_zero z)
  rw [List.flatten_cons,List.length_append,List.length_cons]
  omega
theorem uD (ls:List Lg):(grp ls).length<=ls.length:=by
 have:=aCm (pM ls).1
 rw [(pM ls).2] at this;exact this
noncomputable def pV:DSp:=fun ds M Q=>∃ rs,ds = [.tup (bI rs)]/\aAb rs/\dnS rs<=300/\∀ (r:Addr) (bs:List Addr) M',LL M M' r bs ((grp (lgF rs)).map clo)->Q (.ref r) M'
noncomputable abbrev kJ:Stmt:=top 48
theorem jE:aS ["program","told","leg"] ["program"] (aK kJ):=⟨rfl,rfl,rfl,by decide +kernel,rfl,by decide +kernel,by decide +kernel⟩
theorem aAR (hF:cA K mg "strokes" kJ ["program"]) (aCg:Has P w K mg base 148 "legs" ["program"] aCj) (gK:Has P w K mg base 101 "start_of" ["leg"] nX) (kE:Has P w K mg base 101 "end_of" ["leg"] sE) (vJ:Has P w K mg base 102 "closed" ["stroke"] yT):Has P w K mg base 149 "strokes" ["program"] pV:=by
 refine Has.mkZ hF jE (fun ds M Q ⟨_,z,_⟩=>by rw [z];rfl) fun f cdv A outer s H ds M Q E hr h=>?_
 obtain ⟨rs,rfl,ok,dn,q⟩:=h
 refine ⟨_,(aE (aM (i:=1) jE.nd (bA aD))
  (aE (qL PassesOwn.never rfl (aF aCg hr (by decide) (aA (aB 0) aD)) (aR (i:=2) jE.nd) (kM (bC (mJ (uJ (aQ (aCd hr) (aB 1) (bA aD)) (qW (aQ (rB hr) (aF kE hr (by decide) (aA (aH (aH (aB 1) (cQ aC)) (cQ aC)) aD)) (aF gK hr (by decide) (aA (aB 2) aD)))))) (aG (bZ (cG (aB 1) (bA aD)))) aW)
  (aG (bZ (cG (aH (aB 1) (cQ aC)) (aB 2))))))
  (aG (aP (aCO (⟨rfl,by decide +kernel,by decide +kernel,by decide +kernel,rfl,by decide +kernel⟩:mH ["program","told","leg"] (aK kJ) ["stroke"] [none] _) rfl (aB 1) (fun _ _ _ _ _=>(aR (i:=0) (show List.Nodup (["stroke"]:List Str) by decide +kernel))) (fun _ _ _ _ _=>(aF vJ hr (by decide) (aA (aB 0) aD)))))))),?_⟩
 decreasing_tactic
 refine ⟨by decide,fun t ht=>⟨rs,rfl,ok,dn,fun p M1 hp h1 sub=>?_⟩⟩
 have ll:(lgF rs).length<=300:=by
  have:=kS rs 0 .one []
  have:(lgF rs).length<=((lgS rs 0 .one []).map (·.1)).length:=List.length_filter_le _ _
  rw [List.length_map] at this
  omega
 generalize lgF rs = ls at *
 decreasing_tactic
 have ht1:M1 t = some []:=sub _ _ aJ
 have s0:aX M M1:=(aX.new ht []).trans sub
 have hp0:=(eD hp)
 refine ⟨_,h1,fun i ρ M'=>M' p = some (ls.map lgD)/\(∃ qs,p ∉ qs/\LL M M' t qs (grp (ls.take i)))/\∃ o2,ρ = [some (.tup (bI rs)),some (.ref t),o2],⟨h1,⟨[],by simp,ht,ht1,rfl,(fun i q g a=>by simp at a),List.nodup_nil,s0⟩,_,rfl⟩,fun i ρ M' _ h a e=>by cases e;exact h.1,?_,?_⟩
 ·rintro i d ρ M2 hd ⟨hp2,⟨qs,npq,L⟩,o2,rfl⟩
  rw [List.getElem?_map] at hd
  obtain ⟨l,hx,rfl⟩:=Option.map_eq_some_iff.mp hd
  have hil:=(List.getElem?_eq_some_iff.mp hx).1
  have en:grp (ls.take (i + 1)) = gpS (grp (ls.take i)) l:=by rw [dR hx,vW]
  have gok:=pM (ls.take i)
  have gnum:=uD (ls.take i)
  have glen:=fun g hg=>qK (ls:=ls.take i) (g:=g) hg
  rw [List.length_take] at gnum glen
  decreasing_tactic
  rw [en]
  generalize grp (ls.take i) = gs at *
  refine ⟨fun ρ' M'=>M' p = some (ls.map lgD)/\(∃ qs g0 g,p ∉ qs/\LL M M' t qs (g0 ++ [g])/\g0 ++ [g ++ [l]] = gpS gs l/\g.length<=300)/\ρ' = [some (.tup (bI rs)),some (.ref t),some (lgD l)],?_,?_⟩
  ·refine ⟨by decide,fun p1 hp1=>?_⟩
   have L1:=L.mono (aX.new hp1 [])
   have hp4:=(aX.new hp1 []) _ _ hp2
   have ntp:t ≠ p1:=fun z=>by rw [<- z,L.ht] at hp1;cases hp1
   have he1:bE M2 p1 [] p1 = some []:=aJ
   generalize bE M2 p1 [] = M3 at L1 hp4 he1
   have pt:p ≠ t:=fun z=>by have:=L1.t0;rw [<- z] at this;exact absurd hp0.1 (fun y=>y z)
   have new:gpS gs l = gs ++ [[l]]->(∃ ds,M3 t = some ds)/\0<=1000/\∀ p2:Addr,M3 p2 = none->∃ ds y,[D.ref p2] = [y]/\bE M3 p2 [] t = some ds/\ds.length < 1000/\bE (bE M3 p2 []) t (ds ++ [y]) p = some (ls.map lgD)/\(∃ qs g0 g,p ∉ qs/\LL M (bE (bE M3 p2 []) t (ds ++ [y])) t qs (g0 ++ [g])/\g0 ++ [g ++ [l]] = gpS gs l/\g.length<=300)/\[some (D.tup (bI rs)),some (D.ref t),some (lgD l)] = [some (D.tup (bI rs)),some (D.ref t),some (lgD l)]:=fun e=>by
    refine ⟨⟨_,L1.ht⟩,by decide,fun p2 hp2'=>⟨_,_,rfl,(aX.new hp2' []) _ _ L1.ht,by rw [List.length_map,L1.len];omega,?_,⟨qs ++ [p2],gs,[],?_,?_,by rw [e];rfl,Nat.zero_le _⟩,rfl⟩⟩
    ·rw [bS pt];exact (aX.new hp2' []) _ _ hp4
    ·intro z
     rcases List.mem_append.mp z with y | y
     ·exact npq y
     ·rw [List.mem_singleton.mp y] at hp4;rw [hp2'] at hp4;cases hp4
    ·have n2:p2 ≠ t:=fun z=>by rw [z,L1.ht] at hp2';cases hp2'
     refine L1.push hp2' (by rw [aJ,List.map_append];rfl) (by rw [bS n2];exact aJ) ((dN.refl.put (by simp)).put (by simp))
   cases hg:gs.getLast? with
   | none =>
    have ge:gs = []:=List.getLast?_eq_none_iff.mp hg
    have qe:qs = []:=List.eq_nil_of_length_eq_zero (by rw [L.len,ge];rfl)
    refine ⟨.inr ⟨⟨_,rfl⟩,_,rfl⟩,true,?_,?_⟩
    ·have:=L1.ht
     rw [qe] at this
     exact rJ (n:=19) this he1 ntp (fun x hx=>nomatch hx)
    ·exact ifT rfl (ifT rfl (new (by rw [ge];rfl)))
   | some g =>
    have gne:gs ≠ []:=fun z=>by rw [z] at hg;cases hg
    have eg:gs = gs.dropLast ++ [g]:=by
     rw [List.getLast?_eq_some_getLast gne] at hg
     rw [<- Option.some.inj hg];exact (List.dropLast_concat_getLast gne).symm
    refine ⟨.inr ⟨⟨_,rfl⟩,_,rfl⟩,false,?_,?_⟩
    ·refine ⟨_,_,L1.ht,he1,ntp,fun z=>?_,fun _=>rfl⟩
     rw [List.length_map,L1.len] at z
     exact absurd (List.eq_nil_of_length_eq_zero z) gne
    ·have gm:g ∈ gs:=by rw [eg];simp
     obtain ⟨b,eb⟩:∃ b,g.getLast? = some b:=by
      have:=gok.1 g gm
      exact ⟨_,List.getLast?_eq_some_getLast this⟩
     have egp:gpS gs l = if enP b = stP l then gs.dropLast ++ [g ++ [l]] else gs ++ [[l]]:=by unfold gpS;rw [hg];dsimp only;rw [eb]
     rw [eg] at L1
     obtain ⟨q1,ha1,hq1,_,_⟩:=L1.last (l:=l)
     have bl:g = g.dropLast ++ [b]:=by
      have gn:=gok.1 g gm
      rw [List.getLast?_eq_some_getLast gn] at eb
      rw [<- Option.some.inj eb];exact (List.dropLast_concat_getLast gn).symm
     refine ifF rfl ⟨_,_,L1.ht,ha1,_,_,hq1,by rw [bl,List.map_append];exact sK,b,rfl,l,rfl,?_⟩
     decreasing_tactic
     rw [nL,aC7]
     by_cases c:enP b = stP l
     ·rw [if_pos c] at egp
      refine ifF (by rw [decide_eq_true c];rfl) ⟨hp4,⟨qs,gs.dropLast,g,npq,L1,egp.symm,by have:=glen g gm;omega⟩,rfl⟩
     ·rw [if_neg c] at egp
      exact ifT (by rw [decide_eq_false c];rfl) (new egp)
  ·rintro _ M3 ⟨hp3,⟨qs',g0,g,npq',L3,eg,lg⟩,rfl⟩
   decreasing_tactic
   obtain ⟨q1,ha1,hq1,mq,L4⟩:=L3.last (l:=l)
   rw [eg] at L4
   exact ⟨_,_,L3.ht,ha1,⟨_,hq1⟩,_,_,rfl,hq1,by rw [List.length_map];omega,by rw [bS (show p ≠ q1 from fun z=>npq' (by rw [z];exact mq))];exact hp3,⟨qs',npq',L4⟩,_,rfl⟩
 ·rintro ρ M2 ⟨hp2,⟨qs,npq,L⟩,o2,rfl⟩
  rw [List.length_map,List.take_length] at L
  decreasing_tactic
  have gok:=pM ls
  have gnum:=uD ls
  have glen:=fun g hg=>qK (ls:=ls) (g:=g) hg
  generalize grp ls = gs at *
  refine ⟨_,L.ht,by rw [List.length_map,L.len];omega,fun i ys M'=>aX M2 M'/\∃ bs:List Addr,ys = bs.map D.ref/\bs.length = i/\(∀ (j:Nat) b g,bs[j]? = some b->gs[j]? = some g->M' b = some ((clo g).map lgD)/\M b = none)/\(bs ++ qs.drop i).Nodup,⟨.refl _,[],rfl,rfl,(fun j b g h=>by simp at h),by rw [List.drop_zero];exact L.nod⟩,fun i ys M' _ h a e=>by cases e;exact h.1 _ _ L.ht,?_,?_⟩
  ·rintro i d ys M' hd ⟨sb,bs,rfl,lb,all,nod⟩
   rw [List.getElem?_map] at hd
   obtain ⟨q0,hq0,rfl⟩:=Option.map_eq_some_iff.mp hd
   have hil:=(List.getElem?_eq_some_iff.mp hq0).1
   have hig:i < gs.length:=by rw [<- L.len];exact hil
   have hg0:gs[i]? = some gs[i]:=List.getElem?_eq_getElem hig
   obtain ⟨hm,hn,_⟩:=L.it i q0 _ hq0 hg0
   have gm:=List.getElem_mem hig
   have dr:qs.drop i = q0 :: qs.drop (i + 1):=by
    have e:qs[i] = q0:=(List.getElem?_eq_some_iff.mp hq0).2
    rw [<- e,List.drop_eq_getElem_cons hil]
   decreasing_tactic
   refine ⟨q0,gs[i],rfl,sb _ _ hm,gok.1 _ gm,by have:=glen _ gm;omega,fun b M3 hb s3 hbq=>⟨sb.trans s3,bs ++ [b],by rw [List.map_append];rfl,by rw [List.length_append,lb];rfl,fun j b' g' h1 h2=>?_,?_⟩⟩
   ·rcases hZ h1 with z | ⟨rfl,rfl⟩
    ·obtain ⟨v1,v2⟩:=all j b' g' z h2
     exact ⟨s3 _ _ v1,v2⟩
    ·rw [lb,hg0] at h2
     cases h2
     refine ⟨hb,?_⟩
     rcases hbq with rfl | z
     ·exact hn
     ·exact qN (L.sub.trans sb) z
   ·rw [dr] at nod
    rcases hbq with rfl | z
    ·rw [List.append_assoc];exact nod
    ·rw [List.nodup_append] at nod
     obtain ⟨n1,n2,n3⟩:=nod
     have nb:b ∉ bs:=fun y=>by
      obtain ⟨j,hj⟩:=List.mem_iff_getElem?.mp y
      have lj:=(List.getElem?_eq_some_iff.mp hj).1
      have:=(all j b gs[j] hj (List.getElem?_eq_getElem (by omega))).1
      rw [z] at this;cases this
     have nq:b ∉ qs.drop (i + 1):=fun y=>by
      obtain ⟨g,_,h1,_⟩:=L.has (List.mem_of_mem_drop y)
      rw [sb _ _ h1] at z;cases z
     rw [List.append_assoc,List.nodup_append]
     refine ⟨n1,List.nodup_cons.mpr ⟨nq,(List.nodup_cons.mp n2).2⟩,fun a ha c hc=>?_⟩
     rcases List.mem_cons.mp hc with rfl | y
     ·exact fun e=>nb (e ▸ ha)
     ·exact n3 a ha c (List.mem_cons_of_mem _ y)
  ·rintro ys M' ly ⟨sb,bs,rfl,lb,all,nod⟩ r hr
   have s1:=aX.new hr (bs.map D.ref)
   have lq:bs.length = gs.length:=by rw [lb,List.length_map,L.len]
   refine bW (q r bs _ ⟨qN (L.sub.trans sb) hr,aJ,by rw [List.length_map];exact lq,fun i b g h1 h2=>?_,?_,(L.sub.trans sb).trans s1⟩)
   ·rw [List.getElem?_map] at h2
    obtain ⟨g0,hg0,rfl⟩:=Option.map_eq_some_iff.mp h2
    obtain ⟨v1,v2⟩:=all i b g0 h1 hg0
    exact ⟨s1 _ _ v1,v2,fun z=>by rw [z,hr] at v1;cases v1⟩
   ·rw [List.length_map,List.drop_length,List.append_nil] at nod
    exact nod
theorem aLe {sz h:Rat} {n:Nat} {M:DM} {Q:DQ} (u1:BQ 2 (rq 1 0 n).1) (u2:BQ 2 (rq 1 0 n).2) (u3:BQ 2 (rq 0 h n).1) (u4:BQ 2 (rq 0 h n).2) (bs:BQ 1100 sz) (q:Q (FQ (h * (sz * sz))) M):cK [FQ ((rq 1 0 n).1 * sz),FQ ((rq 0 h n).2 * sz)] M fun x M1=>2<=1000/\cK [FQ ((rq 1 0 n).2 * sz),FQ ((rq 0 h n).1 * sz)] M1 fun y M1=>cK [.tup [.int (-1),.int 1],y] M1 fun z M1=>fC [x,z] M1 Q:=by
 have m1:BQ 2 (-1):=⟨by unfold Bd;decide,by unfold Bd;decide⟩
 refine gE (u1.mul bs) (u4.mul bs) (by decide) ⟨by decide,gE (u2.mul bs) (u3.mul bs) (by decide) ?_⟩
 rw [aFE]
 refine gE m1 ((u2.mul bs).mul (u3.mul bs)) (by decide) (oY ((u1.mul bs).mul (u4.mul bs)) (m1.mul ((u2.mul bs).mul (u3.mul bs))) (by decide) ?_)
 rw [aDO]
 exact q
noncomputable def oU (M M':DM) (p:Addr) (L:List D):Prop:=M' p = some L/\∀ a:AK,a ≠ .l p->∀ x,M a = some x->M' a = some x
theorem oU.sub {M M' M'':DM} {p:Addr} {L:List D} (h:oU M M' p L) (s:aX M' M''):oU M M'' p L:=⟨s _ _ h.1,fun a n x e=>s _ _ (h.2 a n x e)⟩
theorem oU.put {M M':DM} {p:Addr} {L L':List D} (h:oU M M' p L):oU M (bE M' p L') p L':=⟨aJ,fun a n x e=>by rw [gD n];exact h.2 a n x e⟩
theorem oU.trans {M M' M'':DM} {p:Addr} {L L':List D} (h:oU M M' p L) (h2:oU M' M'' p L'):oU M M'' p L':=⟨h2.1,fun a n x e=>h2.2 a n x (h.2 a n x e)⟩
theorem oU.fresh {M M1 M':DM} {p:Addr} {L:List D} (n:M p = none) (s:aX M M1) (h:oU M1 M' p L):aX M M':=fun a x e=>h.2 a (fun z=>by rw [z] at e;rw [n] at e;cases e) x (s _ _ e)
mutual
noncomputable def lnR:Rw->Fm->List Lg
 | .pl p,f=>((gZ p).toList.map (ldL f)).filter nd
 | .ag n rs,f=>(List.range n).flatMap fun i=>lnS rs (Nat.repeat (enS rs) i f)
 | .kp rs,f=>lnS rs f
 | .ev _,_=>[]
noncomputable def lnS:List Rw->Fm->List Lg
 | [],_=>[]
 | r :: rs,f=>lnR r f ++ lnS rs (enR r f)
end
theorem aCT:∀ (xs ys:List Rw) (f:Fm),lnS (xs ++ ys) f = lnS xs f ++ lnS ys (enS xs f)
 | [],ys,f=>by rw [List.nil_append,lnS,enS,List.nil_append]
 | x :: xs,ys,f=>by rw [List.cons_append,lnS,lnS,enS,aCT xs ys,List.append_assoc]
mutual
theorem aDY:∀ (r:Rw) (a:Int) (f:Fm) (rd:List Int),((lgR r a f rd).map (·.1)).filter nd = lnR r f
 | .pl p,a,f,rd=>by rw [lgR,lnR,List.map_map];rfl
 | .ag n rs,a,f,rd=>by
  rw [lgR,lnR,List.map_flatMap,List.filter_flatMap]
  congr 1
  funext i
  exact vS rs _ _ _
 | .kp rs,a,f,rd=>by rw [lgR,lnR];exact vS rs _ _ _
 | .ev rs,a,f,rd=>by rw [lgR,lnR];rfl
theorem vS:∀ (rs:List Rw) (a:Int) (f:Fm) (rd:List Int),((lgS rs a f rd).map (·.1)).filter nd = lnS rs f
 | [],a,f,rd=>by rw [lgS,lnS];rfl
 | r :: rs,a,f,rd=>by rw [lgS,lnS,List.map_append,List.filter_append,aDY r,vS rs]
end
theorem zL (rs:List Rw):lgF rs = lnS rs .one:=vS rs _ _ _
theorem aF2 (r:Rw) (f:Fm):(lnR r f).length<=dnR r:=by
 rw [<- aDY r 0 f []]
 refine Nat.le_trans (List.length_filter_le _ _) ?_
 rw [List.length_map];exact aAx r _ _ _
theorem uA (rs:List Rw) (f:Fm):(lnS rs f).length<=dnS rs:=by
 rw [<- vS rs 0 f []]
 refine Nat.le_trans (List.length_filter_le _ _) ?_
 rw [List.length_map];exact kS rs _ _ _
theorem aGA {f:Fm} (ok:f.Ok) (s0:0 < f.s) {x y:Rat}:(f.px = ldX f.px f.t f.h f.s x y/\f.py = ldY f.py f.t f.h f.s x y) ↔ (0 = x/\0 = y):=by
 constructor
 ·rintro ⟨h1,h2⟩
  unfold ldX at h1
  unfold ldY at h2
  have n:=aHs x ((f.h:Rat) * y) f.t.toNat
  generalize (rq x ((f.h:Rat) * y) f.t.toNat).1 = a at *
  generalize (rq x ((f.h:Rat) * y) f.t.toNat).2 = b at *
  have a0:a = 0:=by
   have:a * f.s = 0:=by grind
   rcases Rat.mul_eq_zero.mp this with z | z
   ·exact z
   ·grind
  have b0:b = 0:=by
   have:b * f.s = 0:=by grind
   rcases Rat.mul_eq_zero.mp this with z | z
   ·exact z
   ·grind
  have hh:(f.h:Rat) * (f.h:Rat) = 1:=by
   rcases ok.2.2 with z | z<;>rw [z]<;>decide +kernel
  have e:x * x + y * y = 0:=by
   have:(f.h:Rat) * y * ((f.h:Rat) * y) = y * y:=by grind
   rw [a0,b0,this] at n
   grind
  have sq:∀ z:Rat,0<=z * z:=fun z=>by
   rcases (show 0<=z ∨ 0<=-z by grind) with c | c
   ·exact Rat.mul_nonneg c c
   ·have:=Rat.mul_nonneg c c;grind
  have x0:=sq x
  have y0:=sq y
  have z1:x * x = 0:=by grind
  have z2:y * y = 0:=by grind
  exact ⟨by rcases Rat.mul_eq_zero.mp z1 with z | z<;>exact z.symm,by rcases Rat.mul_eq_zero.mp z2 with z | z<;>exact z.symm⟩
 ·rintro ⟨rfl,rfl⟩
  exact ⟨jN.1.symm,jN.2.symm⟩
theorem aJv {p:Pl} {x y u v:Rat} (h:skO p = some (.str x y u v)):x = 0/\y = 0/\gZ p = some (.st 0 0 u v)/\(bD p).px = u/\(bD p).py = v:=by
 cases p with
 | go a=>cases h;exact ⟨rfl,rfl,rfl,rfl,rfl⟩
 | side a b=>cases h;exact ⟨rfl,rfl,rfl,rfl,rfl⟩
 | quarter a=>dsimp only [skO] at h;split at h<;>cases h
 | half a=>dsimp only [skO] at h;split at h<;>cases h
 | _=>cases h
theorem aHW {p:Pl} {x y:Rat} (h:skO p = some (.dot x y)):gZ p = some (.st 0 0 0 0):=by
 cases p with
 | dot=>rfl
 | quarter a=>dsimp only [skO] at h;split at h<;>cases h
 | half a=>dsimp only [skO] at h;split at h<;>cases h
 | _=>cases h
theorem aJr {p:Pl} {a b c d e g:Rat} (h:skO p = some (.arc a b c d e g)) (pb:plB 100 p):gZ p = some (.bd a b 0 0 (bD p).px (bD p).py (if 0 = c/\0 = d then 1 else -1)):=by
 cases p with
 | quarter z =>
  dsimp only [skO] at h
  dsimp only [gZ,bD]
  by_cases k:0 < z
  ·rw [if_pos k] at h ⊢;cases h
   rw [if_pos k,if_pos ⟨rfl,rfl⟩]
  ·rw [if_neg k] at h ⊢;cases h
   rw [if_neg k,if_neg (fun y=>pb.2 y.2.symm)]
 | half z =>
  dsimp only [skO] at h
  dsimp only [gZ,bD]
  by_cases k:0 < z
  ·rw [if_pos k] at h ⊢;cases h
   rw [if_pos ⟨rfl,rfl⟩]
  ·rw [if_neg k] at h ⊢;cases h
   rw [if_neg (fun y=>pb.2 (by have:=y.2;grind))]
 | arc x y u v=>cases h;dsimp only [gZ,bD];rw [if_pos ⟨rfl,rfl⟩]
 | _=>cases h
noncomputable def mY (d:Nat):DSp:=fun ds M Q=>∃ (rs:List Rw) (f:Fm) (l:Addr) (L:List D),ds = [.tup (bI rs),mtF f,.ref l]/\DpS d rs/\sfS SfL SeT rs f/\M l = some L/\L.length + dnS rs<=1000/\∀ M',oU M M' l (L ++ (lnS rs f).map lgD)->Q (mtF (enS rs f)) M'
noncomputable abbrev pF:Stmt:=top 73
theorem bQ:aS ["_law_rows","_law_matrix_here","_law_told","_law_row_here","_law_k","_law_sort","_law_points","_law_more","_law_then","_law_a","_law_b","_law_c","_law_d","_law_handed","_law_way"] ["_law_rows","_law_matrix_here","_law_told"] (aK pF):=⟨rfl,rfl,rfl,by decide +kernel,rfl,by decide +kernel,by decide +kernel⟩
theorem aAP (hF:cA K mg "_law_legs" pF ["_law_rows","_law_matrix_here","_law_told"]) (eT:mg "range" = none) (hG:mg "int" = none) (pY:Has P w K mg base 103 "_law_does" ["_law_row_here"] oC) (fV:Has P w K mg base 103 "_law_led" ["_law_matrix_here","_law_p"] jD) (bV:Has P w K mg base 102 "_law_plus" ["_law_one","_law_other"] fC) (aZ:Has P w K mg base 102 "_law_times" ["_law_one","_law_other"] cK) (oA:Has P w K mg base 104 "_law_after" ["_law_one","_law_other"] rA):Has P w K mg base 128 "_law_legs" ["_law_rows","_law_matrix_here","_law_told"] (mY 8):=by
 have all:∀ d,Has P w K mg base (120 + d) "_law_legs" ["_law_rows","_law_matrix_here","_law_told"] (mY d):=fun d=>by
  induction d with
  | zero=>exact (Has.never hF bQ 119).imp fun ds M Q ⟨_,_,_,_,_,z,_⟩=>z
  | succ d gO =>
   refine Has.mkZ (k:=120 + d) hF bQ (fun ds M Q ⟨_,_,_,_,z,_⟩=>by rw [z];rfl) fun f cdv A outer s H ds M Q E hr h=>?_
   obtain ⟨rs,f,l1,L,rfl,dp,sf,hl1,lL,q⟩:=h
   refine ⟨_,(aE (vC PassesOwn.never rfl (aB 0) (aR (i:=3) bQ.nd) (aG (bC (aQ (cN hr) (aH (aB 3) aC) aL) (aG (qO PassesOwn.never rfl eT (aA (aH (aB 3) aC) aD) (aR (i:=4) bQ.nd) (aG (aM (i:=1) bQ.nd (aF gO hr (by omega) (aA (aH (aB 3) aC) (aA (aB 1) (aA (aB 2) aD)))))))) (aG (bC (aQ (cN hr) (aH (aB 3) aC) aL) (aG (bZ (aF gO hr (by omega) (aA (aH (aB 3) aC) (aA (aB 1) (aA (aB 2) aD)))))) (aG (bC (aQ (rB hr) (aH (aB 3) aC) aL) (aE (eS (aF pY hr (by omega) (aA (aB 3) aD)) (eQ (n:=3) rfl (aU (aR (i:=5) bQ.nd) (aU (aR (i:=6) bQ.nd) (aU (aR (i:=7) bQ.nd) dO)))))
  (aE (aM (i:=8) bQ.nd (aF oA hr (by omega) (aA (aB 1) (aA (aB 7) aD))))
  (aE (bC (mJ (lQ (aQ (cN hr) (aB 5) aL) (kK (aQ (rB hr) (aH (aB 6) aC) (aH (aB 6) aC))))) (aG (bZ (cG (aB 2) (aI (aA aL (aA (aH (aB 1) aC) (aA (aH (aB 8) aC) aD))))))) aW)
  (aE (bC (aQ (cN hr) (aB 5) aL) (aE (eS (aH (aB 1) aC) (eQ (n:=4) rfl (aU (aR (i:=9) bQ.nd) (aU (aR (i:=10) bQ.nd) (aU (aR (i:=11) bQ.nd) (aU (aR (i:=12) bQ.nd) dO))))))
  (aE (aM (i:=13) bQ.nd (aF bV hr (by omega) (aA (aF aZ hr (by omega) (aA (aB 9) (aA (aB 12) aD))) (aA (aF aZ hr (by omega) (aA (aI (aA (cQ aC) (aA aC aD))) (aA (aF aZ hr (by omega) (aA (aB 10) (aA (aB 11) aD))) aD))) aD))))
  (aE (aM (i:=14) bQ.nd (aN jW aC (aN cB aC (cU kW hG (aA (gF (rB hr) (aH (aB 6) aC) (aI (aA (aI (aA aC (aA aC aD))) (aA (aI (aA aC (aA aC aD))) aD)))) aD)))))
  (aE (aM (i:=14) bQ.nd (aN cB (aB 14) (aN jW aC (aN cB aC (cU kW hG (aA (gF wD (aH (aB 13) aC) aC) aD))))))
  (aG (bZ (cG (aB 2) (aI (aA aL (aA (aF fV hr (by omega) (aA (aB 1) (aA (aH (aB 6) aC) aD))) (aA (aH (aB 1) aC) (aA (aH (aB 8) aC) (aA (aB 14) aD))))))))))))) aW)
  (aG (aM (i:=1) bQ.nd (aB 8))))))) aW)))))))
  (aG (aP (aB 1)))),?_⟩
   decreasing_tactic
   refine ⟨fun i ρ M'=>oU M M' l1 (L ++ (lnS (rs.take i) f).map lgD)/\∃ o3 o4 o5 o6 o7 o8 o9 o10 o11 o12 o13 o14,ρ = [some (.tup (bI rs)),some (mtF (enS (rs.take i) f)),some (.ref l1),o3,o4,o5,o6,o7,o8,o9,o10,o11,o12,o13,o14],⟨⟨by rw [List.take_zero,lnS,List.map_nil,List.append_nil];exact hl1,fun _ _ _ e=>e⟩,_,_,_,_,_,_,_,_,_,_,_,_,by rw [List.take_zero,enS]⟩,fun i ρ M' _ _ a e=>(by cases e),?_,?_⟩
   ·rintro i d1 ρ M1 hd ⟨told,o3,o4,o5,o6,o7,o8,o9,o10,o11,o12,o13,o14,rfl⟩
    obtain ⟨r,hr',rfl⟩:=iX hd
    have dr:=dp.2 r (List.mem_of_getElem? hr')
    have sr:sfR SfL SeT r (enS (rs.take i) f):=by
     have el:rs = rs.take i ++ r :: rs.drop (i + 1):=by
      have hil:=(List.getElem?_eq_some_iff.mp hr').1
      have e:rs[i] = r:=(List.getElem?_eq_some_iff.mp hr').2
      rw [<- e,List.getElem_cons_drop,List.take_append_drop]
     rw [el,zI,sfS] at sf
     exact sf.2.1
    have fdn:dnS (rs.take (i + 1)) = dnS (rs.take i) + dnR r:=by rw [dR hr',fE,dnS,dnS,Nat.add_zero]
    have ldn:dnS (rs.take (i + 1))<=dnS rs:=by
     have:=fE (rs.take (i + 1)) (rs.drop (i + 1))
     rw [List.take_append_drop] at this
     omega
    have li:=uA (rs.take i) f
    have e2:enS (rs.take (i + 1)) f = enR r (enS (rs.take i) f):=by rw [dR hr',aAt,enS,enS]
    have e3:lnS (rs.take (i + 1)) f = lnS (rs.take i) f ++ lnR r (enS (rs.take i) f):=by rw [dR hr',aCT,lnS,lnS,List.append_nil]
    decreasing_tactic
    rw [e2,e3]
    have lM:(L ++ (lnS (rs.take i) f).map lgD).length + dnR r<=1000:=by rw [List.length_append,List.length_map];omega
    rw [List.map_append,<- List.append_assoc]
    generalize L ++ (lnS (rs.take i) f).map lgD = L1 at told lM
    generalize enS (rs.take i) f = g at sr
    clear e2 e3 fdn ldn li sf
    cases r with
    | pl p =>
     rw [sfR] at sr
     obtain ⟨⟨gd,bs⟩,pb,bss,ldk,skk⟩:=sr
     have pb4:=uU pb
     have sgd:(bD p).Good 4000:=eM.mono (vK pb4) (by decide)
     have hd':=aCl p
     have hdoes:∀ Q',(∀ (l:Addr) xs M',M1 l = none->M' l = some xs->aHL p xs->aX M1 M'->Q' (.tup [.str (soW p),.ref l,mtF (bD p)]) M')->oC [plD p] M1 Q':=fun Q' q'=>⟨p,rfl,pb,q'⟩
     rw [enR,lnR]
     rw [dnR] at lM
     dsimp only [rwD]
     generalize plD p = pd at hd' hdoes
     obtain ⟨w0,cJ,rfl,w1,w2,w3⟩:=hd'
     decreasing_tactic
     rw [aCb]
     decreasing_tactic
     rw [aO]
     refine ifF (decide_eq_false w1) ?_
     rw [aO]
     refine ifF (decide_eq_false w2) ?_
     rw [aO]
     refine ifT (by rw [decide_eq_false w3];rfl) ?_
     refine hdoes _ fun l xs M2 fl hx dr' s2=>?_
     decreasing_tactic
     have t2:=told.sub s2
     refine ⟨rfl,⟨_,_,rfl,gd.mono (by decide),sgd.mono (by decide),bss.mono (by decide),ldk.up,?_⟩⟩
     decreasing_tactic
     have st0:∀ u v,ldL g (.st 0 0 u v) = .st g.px g.py (ldX g.px g.t g.h g.s u v) (ldY g.py g.t g.h g.s u v):=fun u v=>by dsimp only [ldL];rw [jN.1,jN.2]
     have stays:=fun x y=>aGA gd.ok gd.2.2.2.2.2.1 (x:=x) (y:=y)
     cases hk:skO p with
     | none =>
      have w0:soW p = "none":=by unfold soW;rw [hk]
      rcases aIo p with ⟨_,e2⟩ | ⟨k,_,e1,_⟩
      ·rw [w0,aO]
       refine ifF (by decide) (ifF rfl ?_)
       rw [aO]
       refine ifF (by decide) ⟨?_,_,_,_,_,_,_,_,_,_,_,_,_,rfl⟩
       rw [e2]
       simpa using t2
      ·rw [hk] at e1;cases e1
     | some k =>
      have hx':=dr' k hk
      subst hx'
      have w0:soW p = skW k:=by unfold soW;rw [hk]
      rw [w0]
      cases k with
      | dot x y =>
       rw [show skW (.dot x y) = "dot" from rfl,aO]
       refine ifF (by decide) (ifF rfl ?_)
       rw [aO]
       refine ifF (by decide) ⟨?_,_,_,_,_,_,_,_,_,_,_,_,_,rfl⟩
       have n0:nd (.st g.px g.py (ldX g.px g.t g.h g.s 0 0) (ldY g.py g.t g.h g.s 0 0)) = false:=by
        show (!decide _) = false
        rw [decide_eq_true ((stays 0 0).mpr ⟨rfl,rfl⟩)];rfl
       rw [aHW hk]
       show oU M M2 l1 (L1 ++ (List.filter nd [ldL g (.st 0 0 0 0)]).map lgD)
       rw [st0,List.filter_cons,n0]
       simpa using t2
      | str x y u v =>
       obtain ⟨rfl,rfl,e2,e4,e5⟩:=aJv hk
       have nl:=(show nd (.st g.px g.py (ldX g.px g.t g.h g.s u v) (ldY g.py g.t g.h g.s u v)) = !decide (0 = u/\0 = v) by
        show (!decide _) = _
        by_cases c:0 = u/\0 = v
        ·rw [decide_eq_true c,decide_eq_true ((stays u v).mpr c)]
        ·rw [decide_eq_false c,decide_eq_false fun z=>c ((stays u v).mp z)])
       rw [show skW (.str 0 0 u v) = "stretch" from rfl,aO,e2]
       refine ifT (by decide) ⟨_,_,hx,rfl,_,_,hx,rfl,?_⟩
       show dEq not (PQ 0 0) (PQ u v) M2 _
       rw [nL]
       have ef:((some (Lg.st 0 0 u v)).toList.map (ldL g)).filter nd = if 0 = u/\0 = v then [] else [.st g.px g.py (ldX g.px g.t g.h g.s u v) (ldY g.py g.t g.h g.s u v)]:=by
        show List.filter nd [ldL g (.st 0 0 u v)] = _
        rw [st0,List.filter_cons,nl]
        by_cases c:0 = u/\0 = v
        ·rw [decide_eq_true c,if_pos c];rfl
        ·rw [decide_eq_false c,if_neg c];rfl
       rw [ef]
       by_cases c:0 = u/\0 = v
       ·refine ifF (by rw [decide_eq_true c];rfl) ?_
        rw [aO]
        refine ifF (by decide) ⟨?_,_,_,_,_,_,_,_,_,_,_,_,_,rfl⟩
        rw [if_pos c]
        simpa using t2
       ·refine ifT (by rw [decide_eq_false c];rfl) ⟨⟨_,t2.1⟩,?_⟩
        show 3<=1000/\∃ ds y,[D.tup [.str "straight",PQ g.px g.py,PQ (g.comp (bD p)).px (g.comp (bD p)).py]] = [y]/\_
        refine ⟨by decide,_,_,rfl,t2.1,by omega,?_⟩
        rw [aO]
        refine ifF (by decide) ⟨?_,_,_,_,_,_,_,_,_,_,_,_,_,rfl⟩
        rw [if_neg c,show (g.comp (bD p)).px = ldX g.px g.t g.h g.s u v from by rw [<- e4,<- e5];rfl,show (g.comp (bD p)).py = ldY g.py g.t g.h g.s u v from by rw [<- e4,<- e5];rfl]
        exact t2.put
      | arc a b c d e j =>
       have e2:=aJr hk pb
       have sk:=skk _ hk
       obtain ⟨u1,u2,u3,u4⟩:=aDc (n:=g.t.toNat) gd.2.2.2.2.1
       rw [show skW (.arc a b c d e j) = "arc" from rfl,aO,e2]
       refine ifF (by decide) (ifF rfl ?_)
       rw [aO]
       refine ifT (by decide) ?_
       show gU 4 _ (.tup [FQ ((rq 1 0 g.t.toNat).1 * g.s),FQ ((rq 1 0 g.t.toNat).2 * g.s),FQ ((rq 0 (g.h:Rat) g.t.toNat).1 * g.s),FQ ((rq 0 (g.h:Rat) g.t.toNat).2 * g.s)]) _ M2 _
       decreasing_tactic
       refine ⟨rfl,aLe u1 u2 u3 u4 bs ?_⟩
       decreasing_tactic
       have eh:(1 - 2 * if decide (((g.h:Rat) * (g.s * g.s)).num < 0) = true then (1:Int) else 0) = g.h:=by
        have hn:=aCh gd.2.2.2.2.1 gd.2.2.2.2.2.1
        by_cases z:g.h = -1
        ·rw [if_pos (decide_eq_true (hn.mpr z)),z];rfl
        ·rw [if_neg (by rw [decide_eq_false fun y=>z (hn.mp y)];decide)]
         rcases gd.2.2.2.2.1 with y | y
         ·rw [y];rfl
         ·exact absurd y z
       have ew:∀ wv:Int,List.filter nd ((some (Lg.bd a b 0 0 (bD p).px (bD p).py wv)).toList.map (ldL g)) = [.bd (ldX g.px g.t g.h g.s a b) (ldY g.py g.t g.h g.s a b) g.px g.py (g.comp (bD p)).px (g.comp (bD p)).py (wv * g.h)]:=fun wv=>by
        show List.filter nd [ldL g (.bd a b 0 0 (bD p).px (bD p).py wv)] = _
        have:ldL g (.bd a b 0 0 (bD p).px (bD p).py wv) = .bd (ldX g.px g.t g.h g.s a b) (ldY g.py g.t g.h g.s a b) g.px g.py (g.comp (bD p)).px (g.comp (bD p)).py (wv * g.h):=by
         dsimp only [ldL];rw [jN.1,jN.2];rfl
        rw [this];rfl
       rw [ew]
       refine ⟨_,_,hx,rfl,by decide,by decide,by decide,?_⟩
       show dEq not (PQ c d) (PQ 0 0) M2 _
       rw [nL,eh]
       by_cases cc:0 = c/\0 = d
       ·rw [decide_eq_true (show c = 0/\d = 0 from ⟨cc.1.symm,cc.2.symm⟩),if_pos cc]
        refine ⟨eX (by unfold Bd;decide),eX (by unfold Bd;decide),eX (by unfold Bd;decide),⟨_,t2.1⟩,_,_,hx,rfl,aC5 gd sk.1 ?_⟩
        rw [show (1 - 2 * if (!true) = true then (1:Int) else 0) = 1 from rfl]
        exact ⟨by decide,_,_,rfl,t2.1,by omega,t2.put,_,_,_,_,_,_,_,_,_,_,_,_,rfl⟩
       ·rw [decide_eq_false (show ¬ (c = 0/\d = 0) from fun z=>cc ⟨z.1.symm,z.2.symm⟩),if_neg cc]
        refine ⟨eX (by unfold Bd;decide),eX (by unfold Bd;decide),eX (by unfold Bd;decide),⟨_,t2.1⟩,_,_,hx,rfl,aC5 gd sk.1 ?_⟩
        rw [show (1 - 2 * if (!false) = true then (1:Int) else 0) = -1 from rfl]
        exact ⟨by decide,_,_,rfl,t2.1,by omega,t2.put,_,_,_,_,_,_,_,_,_,_,_,_,rfl⟩
    | ag n ws =>
     obtain ⟨hn,dw⟩:=vH dr
     rw [dnR] at lM
     rw [sfR] at sr
     rw [enR,lnR]
     dsimp only [rwD]
     decreasing_tactic
     rw [aO]
     refine ifT (by decide) ⟨⟨by omega,by omega⟩,?_⟩
     rw [Int.toNat_natCast]
     refine ⟨fun j ρ M'=>j<=n/\oU M M' l1 (L1 ++ ((List.range j).flatMap fun i=>lnS ws (Nat.repeat (enS ws) i g)).map lgD)/\∃ o4 o5 o6 o7 o8 o9 o10 o11 o12 o13 o14,ρ = [some (.tup (bI rs)),some (mtF (Nat.repeat (enS ws) j g)),some (.ref l1),some (.tup [.str "again",.int (n:Int),.tup (bI ws)]),o4,o5,o6,o7,o8,o9,o10,o11,o12,o13,o14],⟨Nat.zero_le _,by simpa using told,_,_,_,_,_,_,_,_,_,_,_,rfl⟩,?_,?_⟩
     ·rintro j ρ M2 hj ⟨_,t1,o4,o5,o6,o7,o8,o9,o10,o11,o12,o13,o14,rfl⟩
      decreasing_tactic
      have g1:=aF2 (.ag j ws) g
      rw [lnR,dnR] at g1
      have m1:dnS ws * (j + 1)<=dnS ws * n:=Nat.mul_le_mul_left _ hj
      rw [Nat.mul_succ] at m1
      refine ⟨ws,Nat.repeat (enS ws) j g,l1,_,rfl,dw,sr j hj,t1.1,by rw [List.length_append,List.length_map];omega,fun M3 h3=>⟨hj,?_,_,_,_,_,_,_,_,_,_,_,_,rfl⟩⟩
      rw [List.range_succ,List.flatMap_append,List.map_append,<- List.append_assoc]
      simp only [List.flatMap_cons,List.flatMap_nil,List.append_nil]
      exact t1.trans h3
     ·rintro ρ M2 ⟨_,t1,o4,o5,o6,o7,o8,o9,o10,o11,o12,o13,o14,rfl⟩
      exact ⟨t1,_,_,_,_,_,_,_,_,_,_,_,_,rfl⟩
    | kp ws =>
     have dw:=yG dr
     rw [dnR] at lM
     rw [sfR] at sr
     rw [enR,lnR]
     dsimp only [rwD]
     decreasing_tactic
     rw [aO]
     refine ifF (by decide) ?_
     rw [aO]
     refine ifT (by decide) ?_
     exact ⟨ws,g,l1,L1,rfl,dw,sr,told.1,lM,fun M3 h3=>⟨told.trans h3,_,_,_,_,_,_,_,_,_,_,_,_,rfl⟩⟩
    | ev ws =>
     rw [enR,lnR,List.map_nil,List.append_nil]
     dsimp only [rwD]
     decreasing_tactic
     rw [aO]
     refine ifF (by decide) ?_
     rw [aO]
     refine ifF (by decide) ?_
     rw [aO]
     exact ifF (by decide) ⟨told,_,_,_,_,_,_,_,_,_,_,_,_,rfl⟩
   ·rintro ρ M' ⟨told,o3,o4,o5,o6,o7,o8,o9,o10,o11,o12,o13,o14,rfl⟩
    rw [dI,List.take_length] at *
    exact bW (q _ told)
 exact all 8
noncomputable def tE:DSp:=fun ds M Q=>∃ l,ds = [lgD l]/\Q (.tup [PQ (stP l).1 (stP l).2,PQ (enP l).1 (enP l).2]) M
noncomputable abbrev pE:Stmt:=top 74
theorem aAS:aS ["_law_leg"] ["_law_leg"] (aK pE):=⟨rfl,rfl,rfl,by decide +kernel,rfl,by decide +kernel,by decide +kernel⟩
theorem aAn (hF:cA K mg "_law_ends" pE ["_law_leg"]):Has P w K mg base 101 "_law_ends" ["_law_leg"] tE:=by
 refine Has.mkZ hF aAS (fun ds M Q ⟨_,z,_⟩=>by rw [z];rfl) fun f cdv A outer s H ds M Q E hr h=>?_
 obtain ⟨l,rfl,q⟩:=h
 refine ⟨_,(aE (bC (aQ (cN hr) (aH (aB 0) aC) aL) (aG (aP (fA (aB 0) (dH aC) (dH aC)))) aW)
  (aG (aP (fA (aB 0) (dH aC) (dH aC))))),?_⟩
 cases l with
 | st x y u v =>
  dsimp only [lgD,stP,enP] at q ⊢
  decreasing_tactic
  rw [aO]
  exact ifF (by decide) (bW q)
 | bd a b c d e g i =>
  dsimp only [lgD,stP,enP] at q ⊢
  decreasing_tactic
  rw [aO]
  exact ifT (by decide) (bW q)
theorem aDq {gs:List (List Lg)} {xs:List Lg} {b:Lg} (h:∀ g ∈ gs,g ≠ []) (e:gs.flatten = xs ++ [b]):∃ g,gs.getLast? = some g/\g.getLast? = some b:=by
 have gne:gs ≠ []:=fun z=>by rw [z] at e;simp at e
 obtain ⟨g0,g,rfl⟩:∃ g0 g,gs = g0 ++ [g]:=⟨_,_,(List.dropLast_concat_getLast gne).symm⟩
 have gn:=h g (by simp)
 obtain ⟨a,c,rfl⟩:∃ a c,g = a ++ [c]:=⟨_,_,(List.dropLast_concat_getLast gn).symm⟩
 rw [List.flatten_append] at e
 simp at e
 rw [<- List.append_assoc] at e
 have:=List.append_inj_right' e rfl
 simp at this
 exact ⟨a ++ [c],by simp,by simp [this]⟩
theorem zX:∀ {qs:List Addr} {i j:Nat} {a:Addr},qs.Nodup->qs[i]? = some a->qs[j]? = some a->i = j
 | [],_,_,_,_,h,_=>by simp at h
 | q :: qs,0,0,_,_,_,_=>rfl
 | q :: qs,0,j + 1,a,n,h1,h2=>by
  simp at h1 h2
  rw [h1] at n
  exact absurd (List.mem_of_getElem? h2) (List.nodup_cons.mp n).1
 | q :: qs,i + 1,0,a,n,h1,h2=>by
  simp at h1 h2
  rw [h2] at n
  exact absurd (List.mem_of_getElem? h1) (List.nodup_cons.mp n).1
 | q :: qs,i + 1,j + 1,a,n,h1,h2=>by
  simp at h1 h2
  rw [zX (List.nodup_cons.mp n).2 h1 h2]
theorem LL.set {B M:DM} {t q:Addr} {qs:List Addr} {gs hs:List (List Lg)} {i:Nat} {g:List Lg} (h:LL B M t qs gs) (hq:qs[i]? = some q) (lh:hs.length = gs.length) (hi:hs[i]? = some g) (ho:∀ j,j ≠ i->hs[j]? = gs[j]?):LL B (bE M q (g.map lgD)) t qs hs:=by
 have hil:=(List.getElem?_eq_some_iff.mp hq).1
 have hig:i < gs.length:=by rw [<- h.len];exact hil
 obtain ⟨_,bq,nt⟩:=h.it i q gs[i] hq (List.getElem?_eq_getElem hig)
 refine ⟨h.t0,by rw [bS (Ne.symm nt)];exact h.ht,by rw [lh];exact h.len,fun j a b ha hb=>?_,h.nod,gG h.sub (dN.refl.put (List.mem_singleton.mpr rfl)) fun a ha=>by rw [List.mem_singleton.mp ha];exact bq⟩
 by_cases e:j = i
 ·subst e
  rw [hq] at ha
  rw [hi] at hb
  cases ha
  cases hb
  exact ⟨aJ,bq,nt⟩
 ·rw [ho j e] at hb
  obtain ⟨h1,h2⟩:=h.it j a b ha hb
  have nq:a ≠ q:=fun z=>by
   rw [z] at ha
   exact e (zX h.nod ha hq)
  exact ⟨by rw [bS nq];exact h1,h2⟩
noncomputable def nM:DSp:=fun ds M Q=>∃ rs,ds = [.tup (bI rs)]/\DpS 8 rs/\sfS SfL SeT rs .one/\dnS rs<=300/\∀ (r:Addr) (bs:List Addr) M',LL M M' r bs ((grp (lnS rs .one)).map clo)->Q (.ref r) M'
noncomputable abbrev jX:Stmt:=top 75
theorem dJ:aS ["_law_rows","_law_told","_law_found","_law_k","_law_leg","_law_legs_here","_law_start","_law_last"] ["_law_rows"] (aK jX):=⟨rfl,rfl,rfl,by decide +kernel,rfl,by decide +kernel,by decide +kernel⟩
theorem tQ (hF:cA K mg "_law_strokes" jX ["_law_rows"]) (oB:mg "enumerate" = none) (gO:Has P w K mg base 128 "_law_legs" ["_law_rows","_law_matrix_here","_law_told"] (mY 8)) (oG:Has P w K mg base 104 "_law_begin" [] qM) (gL:Has P w K mg base 101 "_law_ends" ["_law_leg"] tE):Has P w K mg base 129 "_law_strokes" ["_law_rows"] nM:=by
 refine Has.mkZ hF dJ (fun ds M Q ⟨_,z,_⟩=>by rw [z];rfl) fun f cdv A outer s H ds M Q E hr h=>?_
 obtain ⟨rs,rfl,dp,sf,dn,q⟩:=h
 refine ⟨_,(aE (aM (i:=1) dJ.nd (bA aD))
  (aE (bZ (aF gO hr (by decide) (aA (aB 0) (aA (lS oG hr (by decide)) (aA (aB 1) aD)))))
  (aE (aM (i:=2) dJ.nd (bA aD))
  (aE (aEb PassesOwn.never rfl oB (aA (aB 1) aD) (eQ (n:=2) rfl (aU (aR (i:=3) dJ.nd) (aU (aR (i:=4) dJ.nd) dO))) (kM (bC (mJ (uJ (aQ (cN hr) (aB 3) aC) (qW (aQ (rB hr) (aH (aF gL hr (by decide) (aA (aH (aB 1) (aN jW (aB 3) aC)) aD)) aC) (aH (aF gL hr (by decide) (aA (aB 4) aD)) aC))))) (aG (bZ (cG (aB 2) (bA aD)))) aW)
  (aG (bZ (cG (aH (aB 2) (cQ aC)) (aB 4))))))
  (aE (qL PassesOwn.never rfl (aB 2) (aR (i:=5) dJ.nd) (aE (oO (i:=6) (j:=7) rfl dJ.nd (aA (aH (aF gL hr (by decide) (aA (aH (aB 5) aC) aD)) aC) (aA (aH (aF gL hr (by decide) (aA (aH (aB 5) (cQ aC)) aD)) aC) aD)))
  (aG (bC (aQ (rB hr) (aB 6) (aB 7)) (aG (bZ (cG (aB 5) (aI (aA aL (aA (aB 7) (aA (aB 6) aD))))))) aW))))
  (aG (aP (aB 2)))))))),?_⟩
 decreasing_tactic
 refine ⟨by decide,fun t ht=>⟨rfl,rs,.one,t,[],rfl,dp,sf,aJ,by show 0 + _<=1000;omega,fun M1 told=>?_⟩⟩
 have ll:(lnS rs .one).length<=300:=Nat.le_trans (uA _ _) dn
 rw [List.nil_append] at told
 generalize lnS rs .one = ls at *
 decreasing_tactic
 refine ⟨by decide,fun p hp=>?_⟩
 have ht1:=told.1
 have npt:p ≠ t:=fun z=>by rw [z,ht1] at hp;cases hp
 have s0:aX M (bE M1 p []):=(told.fresh ht (aX.new ht [])).trans (aX.new hp [])
 have hp0:M p = none:=qN (told.fresh ht (aX.new ht [])) hp
 have ht2:bE M1 p [] t = some (ls.map lgD):=by rw [bS (Ne.symm npt)];exact ht1
 have hp2:bE M1 p [] p = some []:=aJ
 generalize bE M1 p [] = M2 at s0 ht2 hp2 ⊢
 clear told ht1 hp
 refine ⟨_,ht2,?_⟩
 refine ⟨fun i ρ M'=>M' t = some (ls.map lgD)/\(∃ qs,t ∉ qs/\LL M M' p qs (grp (ls.take i)))/\∃ o3 o4 o5 o6 o7,ρ = [some (.tup (bI rs)),some (.ref t),some (.ref p),o3,o4,o5,o6,o7],⟨ht2,⟨[],by simp,hp0,hp2,rfl,(fun i q g a=>by simp at a),List.nodup_nil,s0⟩,_,_,_,_,_,rfl⟩,fun i ρ M' _ h=>h.1,?_,?_⟩
 ·rintro i d ρ M3 hd ⟨ht3,⟨qs,ntq,L⟩,o3,o4,o5,o6,o7,rfl⟩
  rw [List.getElem?_map] at hd
  obtain ⟨l,hx,rfl⟩:=Option.map_eq_some_iff.mp hd
  have hil:=(List.getElem?_eq_some_iff.mp hx).1
  have en:grp (ls.take (i + 1)) = gpS (grp (ls.take i)) l:=by rw [dR hx,vW]
  have gok:=pM (ls.take i)
  have gnum:=uD (ls.take i)
  have glen:=fun g hg=>qK (ls:=ls.take i) (g:=g) hg
  rw [List.length_take] at gnum glen
  decreasing_tactic
  rw [en]
  generalize grp (ls.take i) = gs at *
  have pt:t ≠ p:=Ne.symm npt
  refine ⟨rfl,fun ρ' M'=>M' t = some (ls.map lgD)/\(∃ qs g0 g,t ∉ qs/\LL M M' p qs (g0 ++ [g])/\g0 ++ [g ++ [l]] = gpS gs l/\g.length<=300)/\ρ' = [some (.tup (bI rs)),some (.ref t),some (.ref p),some (.int (i:Int)),some (lgD l),o5,o6,o7],?_,?_⟩
  ·have new:gpS gs l = gs ++ [[l]]->(∃ ds,M3 p = some ds)/\0<=1000/\∀ p2:Addr,M3 p2 = none->∃ ds y,[D.ref p2] = [y]/\bE M3 p2 [] p = some ds/\ds.length < 1000/\bE (bE M3 p2 []) p (ds ++ [y]) t = some (ls.map lgD)/\(∃ qs g0 g,t ∉ qs/\LL M (bE (bE M3 p2 []) p (ds ++ [y])) p qs (g0 ++ [g])/\g0 ++ [g ++ [l]] = gpS gs l/\g.length<=300)/\[some (D.tup (bI rs)),some (D.ref t),some (D.ref p),some (D.int (i:Int)),some (lgD l),o5,o6,o7] = [some (D.tup (bI rs)),some (D.ref t),some (D.ref p),some (D.int (i:Int)),some (lgD l),o5,o6,o7]:=fun e=>by
    refine ⟨⟨_,L.ht⟩,by decide,fun p2 hp2'=>⟨_,_,rfl,(aX.new hp2' []) _ _ L.ht,by rw [List.length_map,L.len];omega,?_,⟨qs ++ [p2],gs,[],?_,?_,by rw [e];rfl,Nat.zero_le _⟩,rfl⟩⟩
    ·rw [bS pt];exact (aX.new hp2' []) _ _ ht3
    ·intro z
     rcases List.mem_append.mp z with y | y
     ·exact ntq y
     ·rw [List.mem_singleton.mp y,hp2'] at ht3;cases ht3
    ·have n2:p2 ≠ p:=fun z=>by rw [z,L.ht] at hp2';cases hp2'
     exact L.push hp2' (by rw [aJ,List.map_append];rfl) (by rw [bS n2];exact aJ) ((dN.refl.put (by simp)).put (by simp))
   rw [iI]
   by_cases i0:i = 0
   ·subst i0
    have ge:gs = []:=by
     have:=gok.2
     cases gs with
     | nil=>rfl
     | cons g r =>
      have gn:=gok.1 g (by simp)
      rw [List.flatten_cons,List.take_zero] at this
      exact absurd (List.append_eq_nil_iff.mp this).1 gn
    exact ifT rfl (ifT rfl (new (by rw [ge];rfl)))
   ·obtain ⟨k,rfl⟩:∃ k,i = k + 1:=⟨i - 1,by omega⟩
    have hkl:k < ls.length:=by omega
    have ek:ls.take (k + 1) = ls.take k ++ [ls[k]]:=dR (List.getElem?_eq_getElem hkl)
    obtain ⟨g,hg,hb⟩:=aDq gok.1 (gok.2.trans ek)
    have gne:gs ≠ []:=fun z=>by rw [z] at hg;cases hg
    have eg:gs = gs.dropLast ++ [g]:=by
     rw [List.getLast?_eq_some_getLast gne] at hg
     rw [<- Option.some.inj hg];exact (List.dropLast_concat_getLast gne).symm
    have gm:g ∈ gs:=by rw [eg];simp
    have egp:gpS gs l = if enP ls[k] = stP l then gs.dropLast ++ [g ++ [l]] else gs ++ [[l]]:=by unfold gpS;rw [hg];dsimp only;rw [hb]
    have ak:atI (ls.map lgD) (((k + 1:Nat):Int) - 1) = some (lgD ls[k]):=by
     rw [show ((k + 1:Nat):Int) - 1 = (k:Int) by omega]
     exact aAa (by rw [List.getElem?_map,List.getElem?_eq_getElem hkl];rfl)
    refine ifF (decide_eq_false (by omega)) ⟨_,_,ht3,ak,_,rfl,?_⟩
    decreasing_tactic
    refine ⟨l,rfl,?_⟩
    decreasing_tactic
    rw [nL,aC7]
    by_cases c:enP ls[k] = stP l
    ·rw [if_pos c] at egp
     refine ifF (by rw [decide_eq_true c];rfl) ⟨ht3,⟨qs,gs.dropLast,g,ntq,by rw [<- eg];exact L,egp.symm,by have:=glen g gm;omega⟩,rfl⟩
    ·rw [if_neg c] at egp
     exact ifT (by rw [decide_eq_false c];rfl) (new egp)
  ·rintro _ M4 ⟨ht4,⟨qs',g0,g,ntq',L3,eg,lg⟩,rfl⟩
   decreasing_tactic
   obtain ⟨q1,ha1,hq1,mq,L4⟩:=L3.last (l:=l)
   rw [eg] at L4
   exact ⟨_,_,L3.ht,ha1,⟨_,hq1⟩,_,_,rfl,hq1,by rw [List.length_map];omega,by rw [bS (show t ≠ q1 from fun z=>ntq' (by rw [z];exact mq))];exact ht4,⟨qs',ntq',L4⟩,_,_,_,_,_,rfl⟩
 ·rintro ρ M3 ⟨ht3,⟨qs,ntq,L⟩,o3,o4,o5,o6,o7,rfl⟩
  rw [List.length_map,List.take_length] at L
  have gok:=pM ls
  have glen:=fun g hg=>qK (ls:=ls) (g:=g) hg
  generalize grp ls = gs at *
  decreasing_tactic
  refine ⟨_,L.ht,fun i ρ M'=>LL M M' p qs ((gs.take i).map clo ++ gs.drop i)/\∃ o5 o6 o7,ρ = [some (.tup (bI rs)),some (.ref t),some (.ref p),o3,o4,o5,o6,o7],⟨L,_,_,_,rfl⟩,fun i ρ M' _ h a e=>by cases e;exact h.1.ht,?_,?_⟩
  ·rintro i d ρ M4 hd ⟨L4,o5,o6,o7,rfl⟩
   rw [List.getElem?_map] at hd
   obtain ⟨q0,hq0,rfl⟩:=Option.map_eq_some_iff.mp hd
   have hil:=(List.getElem?_eq_some_iff.mp hq0).1
   have hig:i < gs.length:=by rw [<- L.len];exact hil
   have la:((gs.take i).map clo).length = i:=by rw [List.length_map,List.length_take];omega
   have dr:gs.drop i = gs[i] :: gs.drop (i + 1):=List.drop_eq_getElem_cons hig
   have gm:=List.getElem_mem hig
   have hg0:((gs.take i).map clo ++ gs.drop i)[i]? = some gs[i]:=by rw [List.getElem?_append_right (by omega),la,dr];simp
   have eh:(gs.take (i + 1)).map clo ++ gs.drop (i + 1) = (gs.take i).map clo ++ clo gs[i] :: gs.drop (i + 1):=by
    rw [dR (List.getElem?_eq_getElem hig),List.map_append,List.append_assoc];rfl
   have hm:=(L4.it i q0 _ hq0 hg0).1
   have gn:=gok.1 _ gm
   have gl:=glen _ gm
   decreasing_tactic
   rw [eh]
   rw [dr] at L4
   obtain ⟨g,hgi⟩:∃ g,g = gs[i]:=⟨_,rfl⟩
   rw [<- hgi] at hm gn gl L4 ⊢
   obtain ⟨l0,cJ,e0⟩:∃ l0 cJ,g = l0 :: cJ:=by
    cases g with
    | nil=>exact absurd rfl gn
    | cons a b=>exact ⟨a,b,rfl⟩
   obtain ⟨pre,lz,ez⟩:∃ pre lz,g = pre ++ [lz]:=⟨_,_,(List.dropLast_concat_getLast gn).symm⟩
   have ec:=aD7 (ls:=g) (a:=l0) (b:=lz) (by rw [e0];rfl) (by rw [ez];simp)
   refine ⟨_,_,hm,by rw [e0];exact aCb,l0,rfl,?_⟩
   decreasing_tactic
   refine ⟨_,_,hm,by rw [ez,List.map_append];exact sK,lz,rfl,?_⟩
   decreasing_tactic
   rw [nL,aC7]
   by_cases c:stP l0 = enP lz
   ·rw [if_pos c] at ec
    refine ifF (by rw [decide_eq_true c];rfl) ⟨?_,_,_,_,rfl⟩
    rw [ec];exact L4
   ·rw [if_neg c] at ec
    have e9:(clo g).map lgD = g.map lgD ++ [D.tup [.str "straight",PQ (enP lz).1 (enP lz).2,PQ (stP l0).1 (stP l0).2]]:=by rw [ec,List.map_append];rfl
    refine ifT (by rw [decide_eq_false c];rfl) ⟨⟨_,hm⟩,by decide,_,_,rfl,hm,by rw [List.length_map];omega,?_,_,_,_,rfl⟩
    rw [<- e9]
    refine L4.set hq0 (by rw [List.length_append,List.length_append];rfl) (by rw [List.getElem?_append_right (by omega),la];simp) fun j nj=>?_
    by_cases ji:j < i
    ·rw [List.getElem?_append_left (by omega),List.getElem?_append_left (by omega)]
    ·obtain ⟨m,rfl⟩:∃ m,j = i + 1 + m:=⟨j - i - 1,by omega⟩
     rw [List.getElem?_append_right (by omega),List.getElem?_append_right (by omega),la,show i + 1 + m - i = m + 1 by omega]
     rfl
  ·rintro ρ M4 ⟨L4,o5,o6,o7,rfl⟩
   decreasing_tactic
   rw [List.length_map,L.len,List.take_length,List.drop_length,List.append_nil] at L4
   exact bW (q p qs M4 L4)
theorem aFz {C_TooMuch:Addr} (hF:cA K mg "legs" pR ["program"]) (kU:aDS P w K mg base 147 "gone_along" ["program"] C_TooMuch vM):aDS P w K mg base 148 "legs" ["program"] C_TooMuch vM:=by
 refine iF.mkP hF tX (fun ds M ⟨_,z,_⟩=>by rw [z];rfl) fun f cdv A outer s H ds M E hr h hPO=>?_
 refine ⟨_,(aE (uM (i:=1) (⟨rfl,by decide +kernel,by decide +kernel,by decide +kernel,rfl,by decide +kernel⟩:mH ["program","found"] (aK pR) ["row"] [none] _) rfl tX.nd (aH (zF kU hr (by decide) hPO (aA (aB 0) aD)) aC) (fun _ _ _ _ _=>(aR (i:=0) (show List.Nodup (["row"]:List Str) by decide +kernel))) (fun _ _ _ _ _=>(aH (aB 0) aC))) wI),?_⟩
 obtain ⟨rs,rfl,dp,dn⟩:=h
 decreasing_tactic
 exact ⟨⟨rs,rfl,dp,dn⟩,fun M' h=>h⟩
theorem aAW {C_TooMuch:Addr} (hF:cA K mg "strokes" kJ ["program"]) (aBR:aDS P w K mg base 148 "legs" ["program"] C_TooMuch vM):aDS P w K mg base 149 "strokes" ["program"] C_TooMuch vM:=by
 refine iF.mkP hF jE (fun ds M ⟨_,z,_⟩=>by rw [z];rfl) fun f cdv A outer s H ds M E hr h hPO=>?_
 refine ⟨_,(aE (aM (i:=1) jE.nd (bA aD))
  (aE (aFK (zF aBR hr (by decide) hPO (aA (aB 0) aD))) wI)),?_⟩
 obtain ⟨rs,rfl,dp,dn⟩:=h
 decreasing_tactic
 exact ⟨by decide,fun t ht=>⟨⟨rs,rfl,dp,dn⟩,fun M' h=>(aX.new ht _).trans h⟩⟩
noncomputable def jG:DSp:=fun ds M Q=>vM ds/\Q (.bl true) M
noncomputable abbrev gC:Stmt:=top 76
theorem iZ:aS ["_law_rows","e"] ["_law_rows"] (aK gC):=⟨rfl,rfl,rfl,by decide +kernel,rfl,by decide +kernel,by decide +kernel⟩
theorem oS {C_TooMuch C_MillError:Addr} (hF:cA K mg "_law_is_too_much" gC ["_law_rows"]) (fI:Has P w K mg base 149 "strokes" ["program"] pV) (sI:aDS P w K mg base 149 "strokes" ["program"] C_TooMuch vM) (dQ:mg "isinstance" = none) (kY:mg "ValueError" = none)
  (nP:wS K mg "MillError" C_MillError) (iS:wS K mg "TooMuch" C_TooMuch) (hU:PySem.W.exmOne K (.ref C_TooMuch) (.ref C_MillError) = some true)
  (yY:aLd K C_TooMuch) (sM:PySem.W.kitOne K (.ref C_TooMuch) (.ref C_TooMuch) = some true) (fX:PySem.W.kitOne K (.ref C_TooMuch) (.type "ValueError") = some true):Has P w K mg base 150 "_law_is_too_much" ["_law_rows"] jG:=by
 refine Has.mkZ hF iZ (fun ds M Q ⟨⟨_,z,_⟩,_⟩=>by rw [z];rfl) fun f cdv A outer s H ds M Q E hr h=>?_
 obtain ⟨mc,q⟩:=h
 obtain ⟨rs,rfl,dp,dn⟩:=id mc
 refine ⟨_,(aE (aFs (j:=1) sI fI hr (by decide) (by decide) iZ.nd nP hU (aA (aB 0) aD) (fun _ _ ho=>(aG (aP (aAD (aG9 (j:=1) ho iS sM dQ) (uG (aER (j:=1) ho fX dQ kY)))))))
  (aG (aP uT))),?_⟩
 decreasing_tactic
 exact .inl ⟨mc,fun a=>⟨rfl,ifT rfl ⟨rfl,bW q⟩⟩⟩
noncomputable def nC:DSp:=fun ds M Q=>∃ (ns:List Int) (k:Nat),ds = [.fz (ns.map D.int),.int (k:Int)]/\∀ c:Int,Q (.int c) M
noncomputable abbrev jR:Stmt:=top 54
theorem uQ:aS ["_law_script","_law_k"] ["_law_script","_law_k"] (aK jR):=⟨rfl,rfl,rfl,by decide +kernel,rfl,by decide +kernel,by decide +kernel⟩
theorem tN (hF:cA K mg "_law_cell_at" jR ["_law_script","_law_k"]) (tH:mg "len" = none):Has P w K mg base 101 "_law_cell_at" ["_law_script","_law_k"] nC:=by
 refine Has.mkZ hF uQ (fun ds M Q ⟨a,n,z,_⟩=>by rw [z];rfl) fun f cdv A outer s H ds M Q E hr h=>?_
 obtain ⟨ns,k,rfl,q⟩:=h
 refine ⟨_,(aE (bC (aQ wD (aB 1) (eC aAA tH (aA (aB 0) aD))) (aG (aP (aH (aB 0) (aB 1)))) aW)
  (aG (aP aC))),?_⟩
 decreasing_tactic
 show (fun x M1=>_) _ _
 refine dif (fun c=>?_) (fun c=>⟨M,.refl _,q 0⟩)
 have hk:k < (ns.map D.int).length:=by
  have:(k:Int) < ((ns.map D.int).length:Int):=c
  omega
 have hat:atI (ns.map D.int) (k:Int) = some (.int (ns[k]'(by simpa using hk))):=aAa (by rw [List.getElem?_eq_getElem hk];simp)
 try dsimp only [jS]
 rw [hat]
 exact ⟨M,.refl _,q _⟩
theorem aKE {A:Nat} (a0:0 < A) (h:A<=2 ^ (48 * 36)):aCe A (2 ^ 25) 704:=by
 refine ⟨a0,Nat.lt_of_le_of_lt (Nat.mul_le_mul_left _ h) (by decide +kernel),Nat.lt_of_le_of_lt (Nat.mul_le_mul_left _ h) (by decide +kernel)⟩
theorem aGi {A:Nat} (a0:0 < A) (h:A<=2 ^ (48 * 36)):vD A (2 ^ 25) 300 :=
 ⟨a0,by decide,Nat.lt_of_le_of_lt (Nat.mul_le_mul_left _ (Nat.mul_le_mul_left _ h)) (by decide +kernel),by decide +kernel⟩
structure Pk (rs:List Rw):Prop where
 dp:DpS 8 rs
 sa:sfS SfA SeA rs .one
 sl:sfS SfL SeT rs .one
 ev:evS rs<=1000
 dn:dnS rs<=300
theorem aHt {rs:List Rw} {A:Nat} (a0:0 < A) (a1:A<=2 ^ (48 * 36)) (dp:DpS 8 rs) (ev:evS rs<=1000) (dn:dnS rs<=300) (al:alS (FA A) rs):Pk rs:=by
 have n3:=aGi a0 a1
 have nm:=aKE a0 a1
 obtain ⟨s1,_⟩:=wU (C:=300) (Sf:=SfA) (Se:=SeA) (fun f p k G h l=>G.sf n3 (by omega) h.1 (uU h.2)) (fun f g k j G H l1 l2=>aMq nm G H (by omega)) rs 0 .one Gf.one Gm.one al (by omega)
 obtain ⟨s2,_⟩:=wU (C:=300) (Sf:=SfL) (Se:=SeT) (fun f p k G h l=>G.sl n3 l h) (fun f g k j G H l1 l2=>trivial) rs 0 .one Gf.one Gm.one al (by omega)
 exact ⟨dp,s1,s2,ev,dn⟩
theorem aCy (l:Lg):bH 18 (lgD l) = true:=by cases l<;>rfl
theorem aHI {B0 B M:DM} {t t':Addr} {bs bs':List Addr} {gs:List (List Lg)} (d:LL B0 B t' bs' gs) (h:LL B M t bs gs):Cm M 20 (.ref t) (.ref t') true:=by
 have d':=d.mono h.sub
 have ln:(bs.map D.ref).length = (bs'.map D.ref).length:=by rw [List.length_map,List.length_map,h.len,d.len]
 refine ⟨_,_,h.ht,d'.ht,fun z=>?_,fun _=>⟨fun _=>true,fun j x y hx hy=>?_,by simp⟩,fun z=>absurd ln z⟩
 ·have:=h.t0
  rw [z,d.ht] at this;cases this
 ·rw [List.getElem?_map] at hx hy
  obtain ⟨b,hb,rfl⟩:=Option.map_eq_some_iff.mp hx
  obtain ⟨b',hb',rfl⟩:=Option.map_eq_some_iff.mp hy
  have l1:=(List.getElem?_eq_some_iff.mp hb).1
  have l2:j < gs.length:=by rw [<- h.len];exact l1
  obtain ⟨h1,h2,_⟩:=h.it j b _ hb (List.getElem?_eq_getElem l2)
  have h3:=(d.it j b' _ hb' (List.getElem?_eq_getElem l2)).1
  exact rJ (n:=18) h1 (h.sub _ _ h3) (fun z=>by rw [z,h3] at h2;cases h2) fun x hx=>by
   obtain ⟨l,_,rfl⟩:=List.mem_map.mp hx
   exact aCy l
theorem aIT {B0 B M:DM} {t t':Addr} {bs bs':List Addr} {gs:List (List Lg)} (d:LL B0 B t' bs' gs) (h:LL B M t bs gs):Cm M 20 (.ref t') (.ref t) true:=by
 have d':=d.mono h.sub
 have ln:(bs'.map D.ref).length = (bs.map D.ref).length:=by rw [List.length_map,List.length_map,h.len,d.len]
 refine ⟨_,_,d'.ht,h.ht,fun z=>?_,fun _=>⟨fun _=>true,fun j x y hx hy=>?_,by simp⟩,fun z=>absurd ln z⟩
 ·have:=h.t0
  rw [<- z,d.ht] at this;cases this
 ·rw [List.getElem?_map] at hx hy
  obtain ⟨b',hb',rfl⟩:=Option.map_eq_some_iff.mp hx
  obtain ⟨b,hb,rfl⟩:=Option.map_eq_some_iff.mp hy
  have l1:=(List.getElem?_eq_some_iff.mp hb).1
  have l2:j < gs.length:=by rw [<- h.len];exact l1
  obtain ⟨h1,h2,_⟩:=h.it j b _ hb (List.getElem?_eq_getElem l2)
  have h3:=(d.it j b' _ hb' (List.getElem?_eq_getElem l2)).1
  exact rJ (n:=18) (h.sub _ _ h3) h1 (fun z=>by rw [<- z,h3] at h2;cases h2) fun x hx=>by
   obtain ⟨l,_,rfl⟩:=List.mem_map.mp hx
   exact aCy l
theorem aBy {α:Type} {x:α}:∀ n,(List.replicate n [x]).flatten = List.replicate n x
 | 0=>rfl
 | n + 1=>by rw [List.replicate_succ,List.flatten_cons,aBy n,List.replicate_succ];rfl
theorem aFT (g:List Lg):(clo g).length<=g.length + 1:=by
 unfold clo
 split
 ·split
  ·omega
  ·rw [List.length_append];exact Nat.le_refl _
 ·omega
noncomputable def twR:Rw:=.ag 12 [.ag 12 [.pl (.go (1 / 3))]]
noncomputable def moR (n:Nat):List Rw:=[twR,.ev [.pl .dot,.pl (.skip 1)],.pl .left,twR] ++ List.replicate n (.pl (.half (1 / 2)))
theorem e12:FQ (1 / 2:Rat) = D.tup [.int 1,.int 2]:=by
 unfold FQ
 rw [show (1 / 2:Rat).num = 1 by decide +kernel,show (1 / 2:Rat).den = 2 by decide +kernel];rfl
theorem aL9:rwD twR = D.tup [.str "again",.int 12,.tup [D.tup [.str "again",.int 12,.tup [D.tup [.str "go",.tup [.int 1,.int 3]]]]]]:=by
 unfold twR
 simp only [bI,rwD,plD,e13]
 rfl
theorem aJH (n:Nat):bI (moR n) = [D.tup [.str "again",.int 12,.tup [D.tup [.str "again",.int 12,.tup [D.tup [.str "go",.tup [.int 1,.int 3]]]]]],D.tup [.str "ever",.tup [D.tup [.str "dot"],D.tup [.str "skip",.tup [.int 1,.int 1]]]],D.tup [.str "left"],D.tup [.str "again",.int 12,.tup [D.tup [.str "again",.int 12,.tup [D.tup [.str "go",.tup [.int 1,.int 3]]]]]]] ++ List.replicate n (D.tup [.str "half",.tup [.int 1,.int 2]]):=by
 have h1:rwD (.pl (.half (1 / 2))) = D.tup [.str "half",.tup [.int 1,.int 2]]:=by
  show D.tup [.str "half",FQ (1 / 2)] = _
  rw [e12]
 have h2:rwD (.ev [.pl .dot,.pl (.skip 1)]) = D.tup [.str "ever",.tup [D.tup [.str "dot"],D.tup [.str "skip",.tup [.int 1,.int 1]]]]:=by
  simp only [bI,rwD,plD]
  rfl
 have h3:rwD (.pl .left) = D.tup [.str "left"]:=by simp only [rwD,plD]
 unfold moR
 rw [iP,yZ,h1,bI,bI,bI,bI,bI,aL9,h2,h3]
theorem aHy (n:Nat):dnS (moR n) = 291 + n:=by
 unfold moR twR
 rw [fE]
 have:dnS (List.replicate n (.pl (.half (1 / 2)))) = n:=aBW
 rw [this]
 simp [dnS,dnR]
theorem aGT {n:Nat} {p:Pl}:evS (List.replicate n (.pl p)) = 0:=by
 induction n with
 | zero=>rw [List.replicate_zero,evS]
 | succ n ih=>rw [List.replicate_succ,evS,ih,evR]
theorem aHF {n:Nat} (h:n<=100):DpS 8 (moR n):=by
 refine ⟨by unfold moR;rw [List.length_append,List.length_replicate];show 4 + n<=1000;omega,fun r hr=>?_⟩
 unfold moR at hr
 rcases List.mem_append.mp hr with z | z
 ·simp at z
  rcases z with rfl | rfl | rfl | rfl
  ·unfold twR;simp [Dp]
  ·simp [Dp]
  ·unfold Dp;trivial
  ·unfold twR;simp [Dp]
 ·rw [(List.mem_replicate.mp z).2];unfold Dp;trivial
theorem aLN {n:Nat} (h:n<=9):Pk (moR n):=by
 have g1:FA 6 (.go (1 / 3)):=⟨⟨⟨2,by decide +kernel⟩,by unfold Ab;decide +kernel⟩,⟨by unfold Bd;decide +kernel,by unfold Bd;decide +kernel⟩⟩
 have g2:FA 6 (.skip 1):=⟨⟨⟨6,by decide +kernel⟩,by unfold Ab;decide +kernel⟩,⟨by unfold Bd;decide +kernel,by unfold Bd;decide +kernel⟩⟩
 have g3:FA 6 (.half (1 / 2)):=⟨⟨⟨3,by decide +kernel⟩,by unfold Ab;decide +kernel,by unfold Ab;decide +kernel⟩,⟨by unfold Bd;decide +kernel,by unfold Bd;decide +kernel⟩,by decide +kernel⟩
 have g4:FA 6 .left:=⟨trivial,trivial⟩
 refine aHt (A:=6) (by decide) (by decide) (aHF (by omega)) ?_ (by rw [aHy];omega) ?_
 ·unfold moR twR
  rw [aAv,aGT]
  simp [evS,evR]
 ·unfold moR twR
  refine lP.mpr ⟨?_,aB5 (by rw [alR];exact g3)⟩
  simp only [alS,alR]
  exact ⟨⟨⟨g1,trivial⟩,trivial⟩,⟨aFF 6,g2,trivial⟩,g4,⟨⟨g1,trivial⟩,trivial⟩,trivial⟩
theorem aBs:∀ {L:List D},(∀ d ∈ L,∃ c,d = .int c)->∃ cs:List Int,L = cs.map D.int
 | [],_=>⟨[],rfl⟩
 | d :: L,h=>by
  obtain ⟨c,rfl⟩:=h d (List.mem_cons_self ..)
  obtain ⟨cs,e⟩:=aBs fun x hx=>h x (List.mem_cons_of_mem _ hx)
  exact ⟨c :: cs,by rw [e];rfl⟩
theorem aKX (ns:List Int):∃ cs:List Int,Dd.cutD (ns.map D.int) none (some 36) = cs.map D.int/\cs.length<=36:=by
 obtain ⟨cs,e⟩:=aBs (L:=Dd.cutD (ns.map D.int) none (some 36)) fun d hd=>by
  obtain ⟨c,_,e⟩:=List.mem_map.mp (aGr hd)
  exact ⟨c,e.symm⟩
 have l:(Dd.cutD (ns.map D.int) none (some 36)).length<=36:=by
  unfold Dd.cutD
  rw [show (36:Int) = ((36:Nat):Int) from rfl,HT.sIx_nat,HT.sIx_none,List.length_take]
  omega
 rw [e,List.length_map] at l
 exact ⟨cs,e,l⟩
noncomputable def sp_law:DSp:=fun ds M Q=>∃ ns:List Int,ds = [.fz (ns.map D.int)]/\ns.length<=63/\∀ M',Q (.bl true) M'
noncomputable abbrev qU:Stmt:=top 77
theorem kZ:aS ["_law_script","_law_rows","_law_due","_law_found","_law_one","_law_many","_law_twelve","_law_ever","_law_more"] ["_law_script"] (aK qU):=⟨rfl,rfl,rfl,by decide +kernel,rfl,by decide +kernel,by decide +kernel⟩
theorem aGK {f0:Addr} {fd0:FuncData} (hF:L2.Fun K "law" "law" qU f0 fd0) (dQ:mg "isinstance" = none) (aAl:mg "list" = none) (kB:Has P w K mg base 101 "_law_cell_at" ["_law_script","_law_k"] nC) (iO:Has P w K mg base 101 "_law_row" ["_law_cell","_law_many"] pB) (jQ:Has P w K mg base 121 "_law_program" ["_law_cells"] nQ) (gW:Has P w K mg base 129 "_law_strokes" ["_law_rows"] nM) (fI:Has P w K mg base 149 "strokes" ["program"] pV) (fW:Has P w K mg base 150 "_law_is_too_much" ["_law_rows"] jG) :
  jH P w K mg base CX0 151 f0 fd0 ["_law_script"] (qS K sp_law):=by
 refine Fun.okZ hF kZ (fun ds M Q ⟨ns,e,_⟩=>by rw [e];rfl) fun cdv A outer s H ds M Q E hr h=>?_
 obtain ⟨ns,rfl,hl,fin⟩:=h
 refine ⟨_,(aE (aM (i:=1) kZ.nd (aF jQ hr (by decide) (aA (zD (aB 0) nZ (dH aC)) aD)))
  (aE (aM (i:=2) kZ.nd (aF gW hr (by decide) (aA (aB 1) aD)))
  (aE (aM (i:=3) kZ.nd (aF fI hr (by decide) (aA (aB 1) aD)))
  (aE (bC (mJ (uJ (aCG (zR (aAX (aB 3) dQ aAl))) (qW (aQ (aFm hr) (aB 3) (aB 2))))) (aG (aP uT)) aW)
  (aE (qL PassesOwn.never rfl (aB 3) (aR (i:=4) kZ.nd) (aE (bC (aCG (zR (aAX (aB 4) dQ aAl))) (aG (aP uT)) aW)
  (aG (bZ (cG (aB 4) (aI (aA aL (aA aC (aA aC aD)))))))))
  (aE (bZ (cG (aB 3) (bA aD)))
  (aE (bC (aQ (aFm hr) (aF fI hr (by decide) (aA (aB 1) aD)) (aB 2)) (aG (aP uT)) aW)
  (aE (aM (i:=5) kZ.nd (aN cP aC (aN cW (aH (aF iO hr (by decide) (aA (aF kB hr (by decide) (aA (aB 0) (aA aC aD))) (aA aC aD))) aC) aC)))
  (aE (aM (i:=6) kZ.nd (aI (aA aL (aA aC (aA (aI (aA (aI (aA aL (aA aC (aA (aI (aA (aI (aA aL (aA (aI (aA aC (aA aC aD))) aD))) aD)) aD)))) aD)) aD)))))
  (aE (aM (i:=7) kZ.nd (aI (aA aL (aA (aI (aA (aI (aA aL aD)) (aA (aI (aA aL (aA (aI (aA aC (aA aC aD))) aD))) aD))) aD))))
  (aE (aM (i:=8) kZ.nd (aN uI (aI (aA (aB 6) (aA (aB 7) (aA (aI (aA aL aD)) (aA (aB 6) aD))))) (aN aGm (aI (aA (aI (aA aL (aA (aI (aA aC (aA aC aD))) aD))) aD)) (aN jW (aB 5) aC))))
  (aE (bC (aQ jP (aB 5) aC) (aG (aP (aF fW hr (by decide) (aA (aB 8) aD)))) aW)
  (aG (aP (aAD (gF (aCd hr) (aF fI hr (by decide) (aA (aB 8) aD)) (aF gW hr (by decide) (aA (aB 8) aD))) (uG (gF (aCd hr) (aF fI hr (by decide) (aA (aI aD) aD)) (bA aD)))))))))))))))))),?_⟩
 decreasing_tactic
 intro p0 hp0
 obtain ⟨cs,ec,lc⟩:=aKX ns
 rw [ec]
 refine ⟨p0,cs,rfl,aJ,lc,fun rs A M1 a0 a1 dp lr dn gw al sub=>?_⟩
 have evl:=aA1 (d:=3) rs dp gw
 have pk:Pk rs:=aHt a0 a1 ⟨by omega,fun r hr=>lR (d':=7) (dp r hr) (by decide)⟩ (by omega) dn al
 clear dp lr gw al a0 a1 sub evl dn
 decreasing_tactic
 refine ⟨rs,rfl,pk.dp,pk.sl,pk.dn,fun r0 bs0 M2 d0=>?_⟩
 decreasing_tactic
 have ok:aAb rs:=⟨pk.dp,pk.sa,pk.ev⟩
 have lens:∀ g ∈ (grp (lnS rs .one)).map clo,g.length<=301:=fun g hg=>by
  obtain ⟨g0,h0,rfl⟩:=List.mem_map.mp hg
  have h1:=qK h0
  have h2:=uA rs .one
  have h3:=pk.dn
  have:=aFT g0
  omega
 have numb:((grp (lnS rs .one)).map clo).length<=300:=by
  have h1:=uD (lnS rs .one)
  have h2:=uA rs .one
  have h3:=pk.dn
  rw [List.length_map];omega
 refine ⟨rs,rfl,ok,pk.dn,fun r1 bs1 M3 d1=>?_⟩
 rw [zL] at d1
 decreasing_tactic
 refine aCU d1.ht rfl (ifF rfl ?_)
 refine ⟨.inr ⟨⟨_,rfl⟩,_,rfl⟩,true,aHI d0 d1,ifF rfl ⟨_,d1.ht,?_⟩⟩
 have lb:=d1.len
 refine ⟨fun i ρ M'=>aX M2 M'/\M' r1 = some (bs1.map D.ref)/\(∀ (j:Nat) b g,i<=j->bs1[j]? = some b->((grp (lnS rs .one)).map clo)[j]? = some g->M' b = some (g.map lgD))/\∃ o4,ρ = [some (.fz (ns.map D.int)),some (.tup (bI rs)),some (.ref r0),some (.ref r1),o4,none,none,none,none],⟨d1.sub,d1.ht,fun j b g _ h1 h2=>(d1.it j b g h1 h2).1,_,rfl⟩,fun i ρ M' _ h a e=>by cases e;exact h.2.1,?_,?_⟩
 ·rintro i d ρ M4 hd ⟨sb,hr,all,o4,rfl⟩
  rw [List.getElem?_map] at hd
  obtain ⟨b,hb,rfl⟩:=Option.map_eq_some_iff.mp hd
  have hil:=(List.getElem?_eq_some_iff.mp hb).1
  have hig:i < ((grp (lnS rs .one)).map clo).length:=by omega
  have hm:=all i b _ (Nat.le_refl _) hb (List.getElem?_eq_getElem hig)
  obtain ⟨_,fb,nb⟩:=d1.it i b _ hb (List.getElem?_eq_getElem hig)
  have lg:=lens _ (List.getElem_mem hig)
  decreasing_tactic
  refine aCU hm rfl (ifF rfl ⟨⟨_,hm⟩,by decide,_,_,rfl,hm,by rw [List.length_map];omega,gG sb (dN.refl.put (List.mem_singleton.mpr rfl)) (fun a ha=>by rw [List.mem_singleton.mp ha];exact fb),by rw [bS (Ne.symm nb)];exact hr,fun j b' g hij h1 h2=>?_,_,rfl⟩)
  have nq:b' ≠ b:=fun z=>by
   rw [z] at h1
   have:=zX d1.nod h1 hb
   omega
  rw [bS nq];exact all j b' g (by omega) h1 h2
 ·rintro ρ M4 ⟨sb,hr,_,o4,rfl⟩
  decreasing_tactic
  refine ⟨⟨_,hr⟩,by decide,fun p hp=>⟨_,_,rfl,(aX.new hp []) _ _ hr,by rw [List.length_map];omega,?_⟩⟩
  have s5:aX M2 (bE (bE M4 p []) r1 (bs1.map D.ref ++ [.ref p])):=gG (sb.trans (aX.new hp [])) (dN.refl.put (List.mem_singleton.mpr rfl)) (fun a ha=>by rw [List.mem_singleton.mp ha];exact d1.t0)
  generalize bE (bE M4 p []) r1 _ = M5 at s5
  refine ⟨rs,rfl,ok,pk.dn,fun r2 bs2 M6 d2=>?_⟩
  rw [zL] at d2
  decreasing_tactic
  refine ⟨.inr ⟨⟨_,rfl⟩,_,rfl⟩,true,aHI (d0.mono s5) d2,ifF rfl ?_⟩
  clear d2 d0 d1 s5 hr sb lens numb lb ok pk
  decreasing_tactic
  refine ⟨ns,36,rfl,fun c=>⟨c,1,rfl,by decide,by decide,fun pr L hpr hL=>?_⟩⟩
  have hpr2:bE M6 pr L pr = some L:=aJ
  have hL:kC 1 L:=hL
  generalize bE M6 pr L = M7 at hpr2 ⊢
  obtain ⟨z,ez,_⟩:=hL.at (i:=0) (by omega)
  refine ⟨L,_,hpr2,ez,?_⟩
  decreasing_tactic
  have z0:=Int.fmod_nonneg_of_pos z (show (0:Int) < 5 by decide)
  have z1:=Int.fmod_lt_of_pos z (show (0:Int) < 5 by decide)
  obtain ⟨k,hk⟩:∃ k:Nat,(10 + z.fmod 5 - 2).toNat = k:=⟨_,rfl⟩
  rw [hk,aBy]
  refine ⟨by decide,by decide,by decide,by decide,by decide,by decide,by decide,by decide,by decide,by decide,by decide,by decide,by decide,by decide,by decide,by decide,by decide,by simp,by omega,by omega,by omega,by rw [List.length_replicate];omega,?_⟩
  by_cases c11:11 < 10 + z.fmod 5
  ·refine ifT (decide_eq_true c11) ⟨⟨moR k,by rw [aJH];rfl,aHF (by omega),by rw [aHy];omega⟩,bW (fin _)⟩
  ·have pk:=aLN (n:=k) (by omega)
   refine ifF (decide_eq_false c11) ⟨moR k,by rw [aJH];rfl,⟨pk.dp,pk.sa,pk.ev⟩,pk.dn,fun r3 bs3 M8 d3=>?_⟩
   rw [zL] at d3
   decreasing_tactic
   refine ⟨moR k,by rw [aJH];rfl,pk.dp,pk.sl,pk.dn,fun r4 bs4 M9 d4=>?_⟩
   decreasing_tactic
   refine ⟨.inr ⟨⟨_,rfl⟩,_,rfl⟩,true,aIT d3 d4,ifT rfl ?_⟩
   decreasing_tactic
   refine ⟨by decide,[],by rw [bI],⟨⟨by decide,fun r h=>nomatch h⟩,by rw [sfS];trivial,by rw [evS];decide⟩,by rw [dnS];decide,fun r5 bs5 M10 d5=>⟨by decide,fun p hp=>?_⟩⟩
   have e0:((grp (lgF [])).map clo) = []:=by rw [zL,lnS];rfl
   rw [e0] at d5
   have b0:bs5 = []:=List.eq_nil_of_length_eq_zero d5.len
   have h5:=d5.ht
   rw [b0] at h5
   exact ⟨.inr ⟨⟨_,rfl⟩,_,rfl⟩,true,rJ (n:=19) ((aX.new hp []) _ _ h5) aJ (fun z=>by rw [z,hp] at h5;cases h5) (fun x hx=>nomatch hx),bW (fin _)⟩
theorem law_here (ns:List Int) (hl:ns.length<=63) (M:DM):sp_law [.fz (ns.map D.int)] M fun d _=>d = .bl true:=⟨ns,rfl,hl,fun _=>rfl⟩
end
theorem all_mk {l:PySem.W.OpenLaw} {w:World} {K:PySem.W.Frag} {h:Heap} {mg:Str->Option Value} {fa f0 f1 f2 f3 f4 f5 f6 f7 f8 f9 f10 f11 f12 f13 f14 f15 f16 f17 f18 f19 f20 f21 f22 f23 f24 f25 f26 f27 f28 f29 f30 f31 f32 f33 f34 f35 f36 f37 f38 f39 f40 f41 f42 f43 f44 f45 f46 f47 f48 f49 f50 f51 f52 f53 f54 f55 f56 f57 f58 f59 f60 f61:Addr} (X:K.In h) (G:h.Ns mainGlobals mg) (hfa:mg "law" = some (.ref fa))
  {od61 an61:Option Addr} {sl61:Array (Option Value)} {oc61 kV61 dc61 pm61 cd61 ct61:Value}
  (b0:FK K "greatest_divisor" f0 fP)
  (b1:FK K "plus" f1 aBL)
  (b2:FK K "times" f2 aAB)
  (b3:FK K "over" f3 aBF)
  (b4:FK K "together" f4 qC)
  (b5:FK K "grown" f5 aAr)
  (b6:FK K "turned" f6 xA)
  (b7:FK K "led" f7 aFe)
  (b8:FK K "first" f8 aAj)
  (b9:FK K "_law_ratio" f9 mR)
  (b10:FK K "_law_plus" f10 qD)
  (b11:FK K "_law_times" f11 nI)
  (b12:FK K "_law_drawn" f12 nB)
  (b13:FK K "behind" f13 vR)
  (b14:FK K "undone" f14 vO)
  (b15:FK K "_law_done" f15 qA)
  (b16:FK K "_law_draws" f16 mT)
  (b17:FK K "_law_size" f17 pS)
  (b18:FK K "_law_is_endless" f18 gP)
  (b19:FK K "_law_close" f19 nN)
  (b20:FK K "at_place" f20 qB)
  (b21:FK K "side_deed" f21 mX)
  (b22:FK K "go_deed" f22 rS)
  (b23:FK K "skip_deed" f23 mM)
  (b24:FK K "dot_deed" f24 pC)
  (b25:FK K "left_deed" f25 nS)
  (b26:FK K "round_deed" f26 kT)
  (b27:FK K "right_deed" f27 lD)
  (b28:FK K "mirror_deed" f28 jU)
  (b29:FK K "grow_deed" f29 mQ)
  (b30:FK K "quarter_deed" f30 jB)
  (b31:FK K "half_deed" f31 nK)
  (b32:FK K "arc_deed" f32 pX)
  (b33:FK K "deed_of" f33 sA)
  (b34:FK K "rows_within" f34 jV)
  (b35:FK K "how_many_done" f35 iC)
  (b36:FK K "how_many_numbers" f36 dM)
  (b37:FK K "numbers_of_rows" f37 eR)
  (b38:FK K "led_leg" f38 oP)
  (b39:FK K "draw_row" f39 lF)
  (b40:FK K "draw_rows" f40 nF)
  (b41:FK K "gone_along" f41 iM)
  (b42:FK K "_law_row" f42 sL)
  (b43:FK K "_law_matrix" f43 iL)
  (b44:FK K "_law_led" f44 sR)
  (b45:FK K "_law_bow" f45 sD)
  (b46:FK K "_law_after" f46 mU)
  (b47:FK K "_law_plain" f47 nJ)
  (b48:FK K "_law_does" f48 pP)
  (b49:FK K "_law_program" f49 gX)
  (b50:FK K "_law_begin" f50 mZ)
  (b51:FK K "start_of" f51 pU)
  (b52:FK K "end_of" f52 vB)
  (b53:FK K "closed" f53 vN)
  (b54:FK K "legs" f54 pR)
  (b55:FK K "strokes" f55 kJ)
  (b56:FK K "_law_legs" f56 pF)
  (b57:FK K "_law_ends" f57 pE)
  (b58:FK K "_law_strokes" f58 jX)
  (b59:FK K "_law_is_too_much" f59 gC)
  (b60:FK K "_law_cell_at" f60 jR)
  (a61:PySem.W.nsIn K mainGlobals "law" = some (some (.ref f61))) (l61:K.lookup f61 = some ⟨oc61,od61,.func (PySem.W.fnOf "law" "law" (lV qU) (eK qU) (aK qU) .none kV61 dc61 pm61 an61 cd61 ct61),sl61⟩) (c61:PySem.W.codeIn K cd61 "law" = true) (k61:PySem.W.keepIn K (.ref f61) = true)
  (z_ValueError:PySem.W.nsIn K mainGlobals "ValueError" = some none)
  (z_abs:PySem.W.nsIn K mainGlobals "abs" = some none)
  (z_enumerate:PySem.W.nsIn K mainGlobals "enumerate" = some none)
  (z_int:PySem.W.nsIn K mainGlobals "int" = some none)
  (z_isinstance:PySem.W.nsIn K mainGlobals "isinstance" = some none)
  (z_len:PySem.W.nsIn K mainGlobals "len" = some none)
  (z_list:PySem.W.nsIn K mainGlobals "list" = some none)
  (z_min:PySem.W.nsIn K mainGlobals "min" = some none)
  (z_range:PySem.W.nsIn K mainGlobals "range" = some none)
  (z_sum:PySem.W.nsIn K mainGlobals "sum" = some none)
  (z_tuple:PySem.W.nsIn K mainGlobals "tuple" = some none)
  {GDEEDS:Addr} {esGDEEDS:Array DictEntry} {epGDEEDS:Nat} (at_DEEDS:PySem.W.nsIn K mainGlobals "DEEDS" = some (some (.ref GDEEDS))) (lt_DEEDS:K.lookup GDEEDS = some ⟨.type "dict",none,.dict esGDEEDS epGDEEDS,#[]⟩) (kt_DEEDS:PySem.W.KeysLit w.params esGDEEDS.toList)
  (et_DEEDS_go:PySem.W.nsIn K GDEEDS "go" = some (some (.ref f22)))
  (et_DEEDS_skip:PySem.W.nsIn K GDEEDS "skip" = some (some (.ref f23)))
  (et_DEEDS_side:PySem.W.nsIn K GDEEDS "side" = some (some (.ref f21)))
  (et_DEEDS_dot:PySem.W.nsIn K GDEEDS "dot" = some (some (.ref f24)))
  (et_DEEDS_left:PySem.W.nsIn K GDEEDS "left" = some (some (.ref f25)))
  (et_DEEDS_right:PySem.W.nsIn K GDEEDS "right" = some (some (.ref f27)))
  (et_DEEDS_round:PySem.W.nsIn K GDEEDS "round" = some (some (.ref f26)))
  (et_DEEDS_mirror:PySem.W.nsIn K GDEEDS "mirror" = some (some (.ref f28)))
  (et_DEEDS_grow:PySem.W.nsIn K GDEEDS "grow" = some (some (.ref f29)))
  (et_DEEDS_quarter:PySem.W.nsIn K GDEEDS "quarter" = some (some (.ref f30)))
  (et_DEEDS_half:PySem.W.nsIn K GDEEDS "half" = some (some (.ref f31)))
  (et_DEEDS_arc:PySem.W.nsIn K GDEEDS "arc" = some (some (.ref f32)))
  {GMIDDLE:Addr} {odGMIDDLE:Option Addr} {nGMIDDLE:Nat} {slGMIDDLE:Array (Option Value)}
  {GMIDDLE_0:Addr} {odGMIDDLE_0:Option Addr} {nGMIDDLE_0:Nat} {slGMIDDLE_0:Array (Option Value)} {tGMIDDLE_0_0:Tok} {tGMIDDLE_0_1:Tok}
  {GMIDDLE_1:Addr} {odGMIDDLE_1:Option Addr} {nGMIDDLE_1:Nat} {slGMIDDLE_1:Array (Option Value)} {tGMIDDLE_1_0:Tok} {tGMIDDLE_1_1:Tok}
  (ag_MIDDLE:PySem.W.nsIn K mainGlobals "MIDDLE" = some (some (.ref GMIDDLE)))
  (lGMIDDLE:K.lookup GMIDDLE = some ⟨.type "tuple",odGMIDDLE,.seq #[.ref GMIDDLE_0,.ref GMIDDLE_1] nGMIDDLE,slGMIDDLE⟩)
  (lGMIDDLE_0:K.lookup GMIDDLE_0 = some ⟨.type "tuple",odGMIDDLE_0,.seq #[.int 0 tGMIDDLE_0_0,.int 1 tGMIDDLE_0_1] nGMIDDLE_0,slGMIDDLE_0⟩)
  (lGMIDDLE_1:K.lookup GMIDDLE_1 = some ⟨.type "tuple",odGMIDDLE_1,.seq #[.int 0 tGMIDDLE_1_0,.int 1 tGMIDDLE_1_1] nGMIDDLE_1,slGMIDDLE_1⟩)
  {tGMOST_DONE:Tok} (ag_MOST_DONE:PySem.W.nsIn K mainGlobals "MOST_DONE" = some (some (.int 300 tGMOST_DONE)))
  {GNOTHING:Addr} {odGNOTHING:Option Addr} {nGNOTHING:Nat} {slGNOTHING:Array (Option Value)} {tGNOTHING_0:Tok} {tGNOTHING_1:Tok}
  (ag_NOTHING:PySem.W.nsIn K mainGlobals "NOTHING" = some (some (.ref GNOTHING)))
  (lGNOTHING:K.lookup GNOTHING = some ⟨.type "tuple",odGNOTHING,.seq #[.int 0 tGNOTHING_0,.int 1 tGNOTHING_1] nGNOTHING,slGNOTHING⟩)
  {GONE:Addr} {odGONE:Option Addr} {nGONE:Nat} {slGONE:Array (Option Value)} {tGONE_0:Tok} {tGONE_1:Tok}
  (ag_ONE:PySem.W.nsIn K mainGlobals "ONE" = some (some (.ref GONE)))
  (lGONE:K.lookup GONE = some ⟨.type "tuple",odGONE,.seq #[.int 1 tGONE_0,.int 1 tGONE_1] nGONE,slGONE⟩)
  {C_MillError C_TooMuch:Addr}
  (ac_MillError:PySem.W.nsIn K mainGlobals "MillError" = some (some (.ref C_MillError))) (xc_MillError:PySem.W.excIn K C_MillError bmV "ValueError.__new__" = true)
  (ac_TooMuch:PySem.W.nsIn K mainGlobals "TooMuch" = some (some (.ref C_TooMuch))) (xc_TooMuch:PySem.W.excIn K C_TooMuch bmV "ValueError.__new__" = true)
  (ex0_TooMuch:PySem.W.findIn K (.ref C_TooMuch) "__getattribute__" = some (some (.builtin "BaseException.__getattribute__")))
  (ex1_TooMuch:PySem.W.findIn K (.ref C_TooMuch) "__getattr__" = some none)
  (ex2_TooMuch:PySem.W.findIn K (.ref C_TooMuch) "__class__" = some (some (.builtin "object.__class__")))
  (ex3_TooMuch:PySem.W.specialIn K (.builtin "object.__class__") "__get__" = some (some (.builtin "getset_descriptor.__get__")))
  (ex4_TooMuch:PySem.W.takesIn K (.builtin "object.__class__") = some true)
  (ex5_TooMuch:PySem.W.mroIn K C_TooMuch (.type "object") = some true)
  (ex6_TooMuch:PySem.W.mroIn K C_TooMuch (.type "BaseException") = some true)
  (hU:PySem.W.exmOne K (.ref C_TooMuch) (.ref C_MillError) = some true)
  (fX:PySem.W.kitOne K (.ref C_TooMuch) (.type "ValueError") = some true)
 :∃ fd:FuncData,(∀ (s:Shared) (v:Value),BindsTo s fd ⟨[v],[]⟩ [("_law_script",v)])/\∀ base:Heap,K.In base->base.Ns mainGlobals mg->jH l.prog w K mg base CX0 151 fa fd ["_law_script"] (qS K sp_law):=by
 have e:=hfa.symm.trans (PySem.W.mg_of X G a61)
 cases e
 have H0:=b0.has X G (ps:=["one","other"]) fun _ _ _ _ _ _ us hl=>by obtain ⟨_,_,rfl⟩:=us2 hl;rfl
 have H1:=b1.has X G (ps:=["one","other"]) fun _ _ _ _ _ _ us hl=>by obtain ⟨_,_,rfl⟩:=us2 hl;rfl
 have H2:=b2.has X G (ps:=["one","other"]) fun _ _ _ _ _ _ us hl=>by obtain ⟨_,_,rfl⟩:=us2 hl;rfl
 have H3:=b3.has X G (ps:=["one","other"]) fun _ _ _ _ _ _ us hl=>by obtain ⟨_,_,rfl⟩:=us2 hl;rfl
 have H4:=b4.has X G (ps:=["p","q"]) fun _ _ _ _ _ _ us hl=>by obtain ⟨_,_,rfl⟩:=us2 hl;rfl
 have H5:=b5.has X G (ps:=["p","number"]) fun _ _ _ _ _ _ us hl=>by obtain ⟨_,_,rfl⟩:=us2 hl;rfl
 have H6:=b6.has X G (ps:=["p","quarters"]) fun _ _ _ _ _ _ us hl=>by obtain ⟨_,_,rfl⟩:=us2 hl;rfl
 have H7:=b7.has X G (ps:=["frame","p"]) fun _ _ _ _ _ _ us hl=>by obtain ⟨_,_,rfl⟩:=us2 hl;rfl
 have H8:=b8.has X G (ps:=[]) fun _ _ _ _ _ _ us hl=>by obtain rfl:=us0 hl;rfl
 have H9:=b9.has X G (ps:=["_law_top","_law_bottom"]) fun _ _ _ _ _ _ us hl=>by obtain ⟨_,_,rfl⟩:=us2 hl;rfl
 have H10:=b10.has X G (ps:=["_law_one","_law_other"]) fun _ _ _ _ _ _ us hl=>by obtain ⟨_,_,rfl⟩:=us2 hl;rfl
 have H11:=b11.has X G (ps:=["_law_one","_law_other"]) fun _ _ _ _ _ _ us hl=>by obtain ⟨_,_,rfl⟩:=us2 hl;rfl
 have H12:=b12.has X G (ps:=["_law_one","_law_other"]) fun _ _ _ _ _ _ us hl=>by obtain ⟨_,_,rfl⟩:=us2 hl;rfl
 have H13:=b13.has X G (ps:=["one","other"]) fun _ _ _ _ _ _ us hl=>by obtain ⟨_,_,rfl⟩:=us2 hl;rfl
 have H14:=b14.has X G (ps:=["frame"]) fun _ _ _ _ _ _ us hl=>by obtain ⟨_,rfl⟩:=us1 hl;rfl
 have H15:=b15.has X G (ps:=["_law_rows"]) fun _ _ _ _ _ _ us hl=>by obtain ⟨_,rfl⟩:=us1 hl;rfl
 have H16:=b16.has X G (ps:=["_law_rows"]) fun _ _ _ _ _ _ us hl=>by obtain ⟨_,rfl⟩:=us1 hl;rfl
 have H17:=b17.has X G (ps:=["_law_rows"]) fun _ _ _ _ _ _ us hl=>by obtain ⟨_,rfl⟩:=us1 hl;rfl
 have H18:=b18.has X G (ps:=["_law_rows"]) fun _ _ _ _ _ _ us hl=>by obtain ⟨_,rfl⟩:=us1 hl;rfl
 have H19:=b19.has X G (ps:=["_law_stack"]) fun _ _ _ _ _ _ us hl=>by obtain ⟨_,rfl⟩:=us1 hl;rfl
 have H20:=b20.has X G (ps:=["place","turns"]) fun _ _ _ _ _ _ us hl=>by obtain ⟨_,_,rfl⟩:=us2 hl;rfl
 have H21:=b21.has X G (ps:=["row"]) fun _ _ _ _ _ _ us hl=>by obtain ⟨_,rfl⟩:=us1 hl;rfl
 have H22:=b22.has X G (ps:=["row"]) fun _ _ _ _ _ _ us hl=>by obtain ⟨_,rfl⟩:=us1 hl;rfl
 have H23:=b23.has X G (ps:=["row"]) fun _ _ _ _ _ _ us hl=>by obtain ⟨_,rfl⟩:=us1 hl;rfl
 have H24:=b24.has X G (ps:=["row"]) fun _ _ _ _ _ _ us hl=>by obtain ⟨_,rfl⟩:=us1 hl;rfl
 have H25:=b25.has X G (ps:=["row"]) fun _ _ _ _ _ _ us hl=>by obtain ⟨_,rfl⟩:=us1 hl;rfl
 have H26:=b26.has X G (ps:=["row"]) fun _ _ _ _ _ _ us hl=>by obtain ⟨_,rfl⟩:=us1 hl;rfl
 have H27:=b27.has X G (ps:=["row"]) fun _ _ _ _ _ _ us hl=>by obtain ⟨_,rfl⟩:=us1 hl;rfl
 have H28:=b28.has X G (ps:=["row"]) fun _ _ _ _ _ _ us hl=>by obtain ⟨_,rfl⟩:=us1 hl;rfl
 have H29:=b29.has X G (ps:=["row"]) fun _ _ _ _ _ _ us hl=>by obtain ⟨_,rfl⟩:=us1 hl;rfl
 have H30:=b30.has X G (ps:=["row"]) fun _ _ _ _ _ _ us hl=>by obtain ⟨_,rfl⟩:=us1 hl;rfl
 have H31:=b31.has X G (ps:=["row"]) fun _ _ _ _ _ _ us hl=>by obtain ⟨_,rfl⟩:=us1 hl;rfl
 have H32:=b32.has X G (ps:=["row"]) fun _ _ _ _ _ _ us hl=>by obtain ⟨_,rfl⟩:=us1 hl;rfl
 have H33:=b33.has X G (ps:=["row"]) fun _ _ _ _ _ _ us hl=>by obtain ⟨_,rfl⟩:=us1 hl;rfl
 have H34:=b34.has X G (ps:=["row"]) fun _ _ _ _ _ _ us hl=>by obtain ⟨_,rfl⟩:=us1 hl;rfl
 have H35:=b35.has X G (ps:=["rows"]) fun _ _ _ _ _ _ us hl=>by obtain ⟨_,rfl⟩:=us1 hl;rfl
 have H36:=b36.has X G (ps:=["row"]) fun _ _ _ _ _ _ us hl=>by obtain ⟨_,rfl⟩:=us1 hl;rfl
 have H37:=b37.has X G (ps:=["rows"]) fun _ _ _ _ _ _ us hl=>by obtain ⟨_,rfl⟩:=us1 hl;rfl
 have H38:=b38.has X G (ps:=["frame","leg"]) fun _ _ _ _ _ _ us hl=>by obtain ⟨_,_,rfl⟩:=us2 hl;rfl
 have H39:=b39.has X G (ps:=["row","at","frame","rounds","sheet"]) fun _ _ _ _ _ _ us hl=>by obtain ⟨_,_,_,_,_,rfl⟩:=us5 hl;rfl
 have H40:=b40.has X G (ps:=["rows","number","frame","rounds","sheet"]) fun _ _ _ _ _ _ us hl=>by obtain ⟨_,_,_,_,_,rfl⟩:=us5 hl;rfl
 have H41:=b41.has X G (ps:=["program"]) fun _ _ _ _ _ _ us hl=>by obtain ⟨_,rfl⟩:=us1 hl;rfl
 have H42:=b42.has X G (ps:=["_law_cell","_law_many"]) fun _ _ _ _ _ _ us hl=>by obtain ⟨_,_,rfl⟩:=us2 hl;rfl
 have H43:=b43.has X G (ps:=["_law_frame"]) fun _ _ _ _ _ _ us hl=>by obtain ⟨_,rfl⟩:=us1 hl;rfl
 have H44:=b44.has X G (ps:=["_law_matrix_here","_law_p"]) fun _ _ _ _ _ _ us hl=>by obtain ⟨_,_,rfl⟩:=us2 hl;rfl
 have H45:=b45.has X G (ps:=["_law_row_here"]) fun _ _ _ _ _ _ us hl=>by obtain ⟨_,rfl⟩:=us1 hl;rfl
 have H46:=b46.has X G (ps:=["_law_one","_law_other"]) fun _ _ _ _ _ _ us hl=>by obtain ⟨_,_,rfl⟩:=us2 hl;rfl
 have H47:=b47.has X G (ps:=["_law_row_here"]) fun _ _ _ _ _ _ us hl=>by obtain ⟨_,rfl⟩:=us1 hl;rfl
 have H48:=b48.has X G (ps:=["_law_row_here"]) fun _ _ _ _ _ _ us hl=>by obtain ⟨_,rfl⟩:=us1 hl;rfl
 have H49:=b49.has X G (ps:=["_law_cells"]) fun _ _ _ _ _ _ us hl=>by obtain ⟨_,rfl⟩:=us1 hl;rfl
 have H50:=b50.has X G (ps:=[]) fun _ _ _ _ _ _ us hl=>by obtain rfl:=us0 hl;rfl
 have H51:=b51.has X G (ps:=["leg"]) fun _ _ _ _ _ _ us hl=>by obtain ⟨_,rfl⟩:=us1 hl;rfl
 have H52:=b52.has X G (ps:=["leg"]) fun _ _ _ _ _ _ us hl=>by obtain ⟨_,rfl⟩:=us1 hl;rfl
 have H53:=b53.has X G (ps:=["stroke"]) fun _ _ _ _ _ _ us hl=>by obtain ⟨_,rfl⟩:=us1 hl;rfl
 have H54:=b54.has X G (ps:=["program"]) fun _ _ _ _ _ _ us hl=>by obtain ⟨_,rfl⟩:=us1 hl;rfl
 have H55:=b55.has X G (ps:=["program"]) fun _ _ _ _ _ _ us hl=>by obtain ⟨_,rfl⟩:=us1 hl;rfl
 have H56:=b56.has X G (ps:=["_law_rows","_law_matrix_here","_law_told"]) fun _ _ _ _ _ _ us hl=>by obtain ⟨_,_,_,rfl⟩:=us3 hl;rfl
 have H57:=b57.has X G (ps:=["_law_leg"]) fun _ _ _ _ _ _ us hl=>by obtain ⟨_,rfl⟩:=us1 hl;rfl
 have H58:=b58.has X G (ps:=["_law_rows"]) fun _ _ _ _ _ _ us hl=>by obtain ⟨_,rfl⟩:=us1 hl;rfl
 have H59:=b59.has X G (ps:=["_law_rows"]) fun _ _ _ _ _ _ us hl=>by obtain ⟨_,rfl⟩:=us1 hl;rfl
 have H60:=b60.has X G (ps:=["_law_script","_law_k"]) fun _ _ _ _ _ _ us hl=>by obtain ⟨_,_,rfl⟩:=us2 hl;rfl
 have F61:=fun_mk (st:=qU) l61 c61 k61
 have kY:=PySem.W.mg_none_of X G z_ValueError
 have kD:=PySem.W.mg_none_of X G z_abs
 have oB:=PySem.W.mg_none_of X G z_enumerate
 have hG:=PySem.W.mg_none_of X G z_int
 have dQ:=PySem.W.mg_none_of X G z_isinstance
 have tH:=PySem.W.mg_none_of X G z_len
 have aAl:=PySem.W.mg_none_of X G z_list
 have aE3:=PySem.W.mg_none_of X G z_min
 have eT:=PySem.W.mg_none_of X G z_range
 have aD2:=PySem.W.mg_none_of X G z_sum
 have gS:=PySem.W.mg_none_of X G z_tuple
 have zT:aGH w K mg "DEEDS" [("go","go_deed"),("skip","skip_deed"),("side","side_deed"),("dot","dot_deed"),("left","left_deed"),("right","right_deed"),("round","round_deed"),("mirror","mirror_deed"),("grow","grow_deed"),("quarter","quarter_deed"),("half","half_deed"),("arc","arc_deed")]:=⟨_,_,_,PySem.W.mg_of X G at_DEEDS,lt_DEEDS,kt_DEEDS,fun k n e=>by
  by_cases c_go:k = "go"
  ·subst c_go;cases e;exact ⟨_,et_DEEDS_go,PySem.W.mg_of X G b22.1⟩
  by_cases c_skip:k = "skip"
  ·subst c_skip;cases e;exact ⟨_,et_DEEDS_skip,PySem.W.mg_of X G b23.1⟩
  by_cases c_side:k = "side"
  ·subst c_side;cases e;exact ⟨_,et_DEEDS_side,PySem.W.mg_of X G b21.1⟩
  by_cases c_dot:k = "dot"
  ·subst c_dot;cases e;exact ⟨_,et_DEEDS_dot,PySem.W.mg_of X G b24.1⟩
  by_cases c_left:k = "left"
  ·subst c_left;cases e;exact ⟨_,et_DEEDS_left,PySem.W.mg_of X G b25.1⟩
  by_cases c_right:k = "right"
  ·subst c_right;cases e;exact ⟨_,et_DEEDS_right,PySem.W.mg_of X G b27.1⟩
  by_cases c_round:k = "round"
  ·subst c_round;cases e;exact ⟨_,et_DEEDS_round,PySem.W.mg_of X G b26.1⟩
  by_cases c_mirror:k = "mirror"
  ·subst c_mirror;cases e;exact ⟨_,et_DEEDS_mirror,PySem.W.mg_of X G b28.1⟩
  by_cases c_grow:k = "grow"
  ·subst c_grow;cases e;exact ⟨_,et_DEEDS_grow,PySem.W.mg_of X G b29.1⟩
  by_cases c_quarter:k = "quarter"
  ·subst c_quarter;cases e;exact ⟨_,et_DEEDS_quarter,PySem.W.mg_of X G b30.1⟩
  by_cases c_half:k = "half"
  ·subst c_half;cases e;exact ⟨_,et_DEEDS_half,PySem.W.mg_of X G b31.1⟩
  by_cases c_arc:k = "arc"
  ·subst c_arc;cases e;exact ⟨_,et_DEEDS_arc,PySem.W.mg_of X G b32.1⟩
  simp only [List.lookup,beq_eq_false_iff_ne.mpr c_go,beq_eq_false_iff_ne.mpr c_skip,beq_eq_false_iff_ne.mpr c_side,beq_eq_false_iff_ne.mpr c_dot,beq_eq_false_iff_ne.mpr c_left,beq_eq_false_iff_ne.mpr c_right,beq_eq_false_iff_ne.mpr c_round,beq_eq_false_iff_ne.mpr c_mirror,beq_eq_false_iff_ne.mpr c_grow,beq_eq_false_iff_ne.mpr c_quarter,beq_eq_false_iff_ne.mpr c_half,beq_eq_false_iff_ne.mpr c_arc] at e;cases e⟩
 have yY:aLd K C_TooMuch:=⟨ex0_TooMuch,ex1_TooMuch,ex2_TooMuch,ex3_TooMuch,ex4_TooMuch,ex5_TooMuch,ex6_TooMuch⟩
 have sM:PySem.W.kitOne K (.ref C_TooMuch) (.ref C_TooMuch) = some true:=aEc
 have nP:wS K mg "MillError" C_MillError:=⟨PySem.W.mg_of X G ac_MillError,xc_MillError⟩
 have iS:wS K mg "TooMuch" C_TooMuch:=⟨PySem.W.mg_of X G ac_TooMuch,xc_TooMuch⟩
 have bB:gH K mg "MIDDLE" rT:=⟨_,.ref GMIDDLE,PySem.W.mg_of X G ag_MIDDLE,rfl,fun H=>(cE (xs:=[.ref GMIDDLE_0,.ref GMIDDLE_1]) (.inr ⟨_,_,_,lGMIDDLE,rfl,rfl,by show (2:Nat)<=sizeLine;decide,(.cons rfl (.cons rfl .nil))⟩) (cC (cE (xs:=[.int (0),.int (1)]) (.inr ⟨_,_,_,lGMIDDLE_0,rfl,rfl,by show (2:Nat)<=sizeLine;decide,(.cons ⟨_,rfl⟩ (.cons ⟨_,rfl⟩ .nil))⟩) (cC bY (cC bY cO))) (cC (cE (xs:=[.int (0),.int (1)]) (.inr ⟨_,_,_,lGMIDDLE_1,rfl,rfl,by show (2:Nat)<=sizeLine;decide,(.cons ⟨_,rfl⟩ (.cons ⟨_,rfl⟩ .nil))⟩) (cC bY (cC bY cO))) cO)))⟩
 have fS:gH K mg "MOST_DONE" (.int 300):=⟨_,.int 300,PySem.W.mg_of X G ag_MOST_DONE,⟨_,rfl⟩,fun H=>bY⟩
 have cZ:gH K mg "NOTHING" aAQ:=⟨_,.ref GNOTHING,PySem.W.mg_of X G ag_NOTHING,rfl,fun H=>(cE (xs:=[.int (0),.int (1)]) (.inr ⟨_,_,_,lGNOTHING,rfl,rfl,by show (2:Nat)<=sizeLine;decide,(.cons ⟨_,rfl⟩ (.cons ⟨_,rfl⟩ .nil))⟩) (cC bY (cC bY cO)))⟩
 have mF:gH K mg "ONE" aFJ:=⟨_,.ref GONE,PySem.W.mg_of X G ag_ONE,rfl,fun H=>(cE (xs:=[.int (1),.int (1)]) (.inr ⟨_,_,_,lGONE,rfl,rfl,by show (2:Nat)<=sizeLine;decide,(.cons ⟨_,rfl⟩ (.cons ⟨_,rfl⟩ .nil))⟩) (cC bY (cC bY cO)))⟩
 refine ⟨PySem.W.fnOf "law" "law" (lV qU) (eK qU) (aK qU) .none kV61 dc61 pm61 an61 cd61 ct61,fun s v=>.of_eq rfl,fun base _ _=>?_⟩
 have cD:=oE (P:=l.prog) (w:=w) (base:=base) H0 kD
 have pI:=aFc (P:=l.prog) (w:=w) (base:=base) H1 cD
 have gB:=aDC (P:=l.prog) (w:=w) (base:=base) H2 cD
 have aB4:=aE5 (P:=l.prog) (w:=w) (base:=base) H3 gB
 have pW:=aAp (P:=l.prog) (w:=w) (base:=base) H4 pI
 have oM:=aDt (P:=l.prog) (w:=w) (base:=base) H5 gB
 have vY:=aB0 (P:=l.prog) (w:=w) (base:=base) H6
 have nG:=aHq (P:=l.prog) (w:=w) (base:=base) H7 pW oM vY
 have iJ:=aDT (P:=l.prog) (w:=w) (base:=base) H8 bB mF
 have bP:=xO (P:=l.prog) (w:=w) (base:=base) H9 kD
 have bV:=aAs (P:=l.prog) (w:=w) (base:=base) H10 bP
 have aZ:=yD (P:=l.prog) (w:=w) (base:=base) H11 bP
 have eF:=xP (P:=l.prog) (w:=w) (base:=base) H12 bP
 have kP:=aBK (P:=l.prog) (w:=w) (base:=base) H13 nG gB
 have oF:=aB8 (P:=l.prog) (w:=w) (base:=base) H14 bB mF nG aB4 oM
 have dA:=aAq (P:=l.prog) (w:=w) (base:=base) H15
 have eE:=xR (P:=l.prog) (w:=w) (base:=base) H16
 have iY:=aAm (P:=l.prog) (w:=w) (base:=base) H17 eT aZ
 have fH:=pH (P:=l.prog) (w:=w) (base:=base) H18 dA iY eE
 have jJ:=xT (P:=l.prog) (w:=w) (base:=base) H19 hG gS dA fH eE
 have bF:=aAM (P:=l.prog) (w:=w) (base:=base) H20 mF
 have fU:=xX (P:=l.prog) (w:=w) (base:=base) H21 bB bF
 have sS:=aA9 (P:=l.prog) (w:=w) (base:=base) H22 cZ fU
 have mP:=yB (P:=l.prog) (w:=w) (base:=base) H23 cZ bF
 have pN:=zK (P:=l.prog) (w:=w) (base:=base) H24 bB iJ
 have mO:=yA (P:=l.prog) (w:=w) (base:=base) H25 bB bF
 have lT:=wB (P:=l.prog) (w:=w) (base:=base) H26 bB bF
 have lY:=wK (P:=l.prog) (w:=w) (base:=base) H27 bB bF
 have jY:=tO (P:=l.prog) (w:=w) (base:=base) H28 bB mF
 have nR:=yC (P:=l.prog) (w:=w) (base:=base) H29 bB
 have jA:=rX (P:=l.prog) (w:=w) (base:=base) H30 bB cZ bF
 have oH:=xS (P:=l.prog) (w:=w) (base:=base) H31 bB cZ pI bF
 have pJ:=aAf (P:=l.prog) (w:=w) (base:=base) H32 bB bF
 have kG:=aBv (P:=l.prog) (w:=w) (base:=base) H33 zT sS fU mP pN mO lT lY jY nR jA oH pJ
 have cI:=tR (P:=l.prog) (w:=w) (base:=base) H34
 have cS:=rL (P:=l.prog) (w:=w) (base:=base) H35 cI
 have dS:=oR (P:=l.prog) (w:=w) (base:=base) H37 H36 cI aD2
 have dL:=mK (P:=l.prog) (w:=w) (base:=base) H36 cI dS
 have kH:=aBC (P:=l.prog) (w:=w) (base:=base) H38 nG
 have dE:=xK (P:=l.prog) (w:=w) (base:=base) H40 H39 eT kP oF kG kH dL
 have lB:=vL (P:=l.prog) (w:=w) (base:=base) H41 fS cS iJ dE
 have kU:=wF (P:=l.prog) (w:=w) (base:=base) H41 iS fS cS iJ dE
 have iO:=aBu (P:=l.prog) (w:=w) (base:=base) H42 kD eT
 have lK:=uK (P:=l.prog) (w:=w) (base:=base) H43 aZ gS
 have fV:=aBp (P:=l.prog) (w:=w) (base:=base) H44 bV aZ
 have sO:=aBl (P:=l.prog) (w:=w) (base:=base) H45 eF bP bV aZ aE3
 have oA:=xZ (P:=l.prog) (w:=w) (base:=base) H46 fV
 have mL:=xM (P:=l.prog) (w:=w) (base:=base) H47 hG eF bP sO
 have pY:=zQ (P:=l.prog) (w:=w) (base:=base) H48 hG kD bV
 have jQ:=tS (P:=l.prog) (w:=w) (base:=base) H49 tH gS iO mL jJ dA
 have oG:=xQ (P:=l.prog) (w:=w) (base:=base) H50 lK
 have gK:=aAy (P:=l.prog) (w:=w) (base:=base) H51
 have kE:=aB7 (P:=l.prog) (w:=w) (base:=base) H52
 have vJ:=aBG (P:=l.prog) (w:=w) (base:=base) H53 gK kE
 have aCg:=aEw (P:=l.prog) (w:=w) (base:=base) H54 lB
 have aBR:=aFz (P:=l.prog) (w:=w) (base:=base) H54 kU
 have fI:=aAR (P:=l.prog) (w:=w) (base:=base) H55 aCg gK kE vJ
 have sI:=aAW (P:=l.prog) (w:=w) (base:=base) H55 aBR
 have gO:=aAP (P:=l.prog) (w:=w) (base:=base) H56 eT hG pY fV bV aZ oA
 have gL:=aAn (P:=l.prog) (w:=w) (base:=base) H57
 have gW:=tQ (P:=l.prog) (w:=w) (base:=base) H58 oB gO oG gL
 have fW:=oS (P:=l.prog) (w:=w) (base:=base) H59 fI sI dQ kY nP iS hU yY sM fX
 have kB:=tN (P:=l.prog) (w:=w) (base:=base) H60 tH
 exact aGK (P:=l.prog) (w:=w) (base:=base) F61 dQ aAl kB iO jQ gW fI fW
end Lw
def PySem.W.Fast.tw18332513990912034946:Unit:=()
def PySem.W.Fast.tw4088031600468537218:Unit:=()
def PySem.W.Fast.tw4115949617706188995:Unit:=()
def PySem.W.Fast.tw4330902101381274564:Unit:=()
def PySem.W.Fast.tw2162898453973736742:Unit:=()
def PySem.W.Fast.tw10263265434037129287:Unit:=()
def PySem.W.Fast.tw7414375080469665415:Unit:=()
def PySem.W.Fast.tw12648352136683130632:Unit:=()
def PySem.W.Fast.tw5737434720461910409:Unit:=()
def PySem.W.Fast.tw2018930811839016841:Unit:=()
def PySem.W.Fast.tw12316109964042736553:Unit:=()
def PySem.W.Fast.tw473612133036793451:Unit:=()
def PySem.W.Fast.tw1571820145512262095:Unit:=()
def PySem.W.Fast.tw11478307571071888911:Unit:=()
def PySem.W.Fast.tw15449701767635944402:Unit:=()
def PySem.W.Fast.tw668317897803465815:Unit:=()
def PySem.W.Fast.tw13899988553200232506:Unit:=()
def PySem.W.Fast.tw822012981648274362:Unit:=()
def PySem.W.Fast.tw1281384204404456635:Unit:=()
def PySem.W.Fast.tw16420914446050961147:Unit:=()
def PySem.W.Fast.tw16657017524426548956:Unit:=()
def PySem.W.Fast.tw12326328551055018493:Unit:=()
def PySem.W.Fast.tw14344526039324200094:Unit:=()
def PySem.W.Fast.tw18309901923948075859:Unit:=()
def PySem.W.Fast.tw8455952780505196767:Unit:=()
def PySem.W.Fast.tw15569208486184960009:Unit:=()
def PySem.W.Fast.tw4432697087733569351:Unit:=()
def PySem.W.Fast.tw11203555212095435186:Unit:=()
def PySem.W.Fast.tw223127035692582999:Unit:=()
def PySem.W.Fast.tw10013320840604649714:Unit:=()
def PySem.W.Fast.tw11490682126801425551:Unit:=()
def PySem.W.Fast.tw6888822867347392306:Unit:=()
def PySem.W.Fast.tw3351744545103217404:Unit:=()
def PySem.W.Fast.tw6376245896440077041:Unit:=()
def PySem.W.Fast.tw4353300645865128757:Unit:=()
def PySem.W.Fast.tw7531546930721687099:Unit:=()
def PySem.W.Fast.tw13550099254521152289:Unit:=()
def PySem.W.Fast.tw16806589048288042399:Unit:=()
def PySem.W.Fast.tw17405288666134614517:Unit:=()
def PySem.W.Fast.tw9732962608934347383:Unit:=()
def PySem.W.Fast.tw12372094563759232863:Unit:=()
def PySem.W.Fast.tw14436799944093409831:Unit:=()
def PySem.W.Fast.tw765924465143301578:Unit:=()
def PySem.W.Fast.tw8515398825721258864:Unit:=()
def PySem.W.Fast.tw13433330108987016114:Unit:=()
def PySem.W.Fast.tw9620606122230199347:Unit:=()
def PySem.W.Fast.tw6282621006596158327:Unit:=()
def PySem.W.Fast.tw10978429128685513868:Unit:=()
def PySem.W.Fast.tw10729340550326670205:Unit:=()
def PySem.W.Fast.tw13903325117372286513:Unit:=()
def PySem.W.Fast.tw15674620647673391329:Unit:=()
def PySem.W.Fast.tw12511637209518897954:Unit:=()
def PySem.W.Fast.tw2998643721079319549:Unit:=()
def PySem.W.Fast.tw12307243403683888871:Unit:=()
def PySem.W.Fast.tw11241167953445459054:Unit:=()
def PySem.W.Fast.tw5164162640748583243:Unit:=()
def PySem.W.Fast.tw4500533909194448210:Unit:=()
def PySem.W.Fast.tw18055080031688367214:Unit:=()
def PySem.W.Fast.tw3107157795288157121:Unit:=()
def PySem.W.Fast.tw5279511497754390503:Unit:=()
def PySem.W.Fast.tw2250221563575016715:Unit:=()
def PySem.W.Fast.tw10505810797948473633:Unit:=()
def PySem.W.Fast.tw7310382652882062413:Unit:=()
def PySem.W.Fast.tw11348096773703207716:Unit:=()
def PySem.W.Fast.tw5787448745428388704:Unit:=()
def PySem.W.Fast.tw5678636263348420814:Unit:=()
def PySem.W.Fast.tw6895902058520279634:Unit:=()
def PySem.W.Fast.tw15838032679540636234:Unit:=()
def PySem.W.Fast.tw964145327818138570:Unit:=()
def PySem.W.Fast.tw2798616545203078896:Unit:=()
def PySem.W.Fast.tw13970230890915829582:Unit:=()
def PySem.W.Fast.tw12845847796882907425:Unit:=()
def PySem.W.Fast.tw2380664033988895032:Unit:=()
def PySem.W.Fast.tw10759372459002985025:Unit:=()
def PySem.W.Fast.tw17109907655628037302:Unit:=()
def PySem.W.Fast.tw5986521721808612203:Unit:=()
def PySem.W.Fast.tw9576809963664212509:Unit:=()
def PySem.W.Fast.tw6475941308679500935:Unit:=()
def PySem.W.Fast.tw6052675273891359432:Unit:=()
def PySem.W.Fast.tw10183038519297864262:Unit:=()
open PySem PySem.W PyProof.Rows
set_option maxRecDepth 100000 in
set_option maxHeartbeats 0 in
theorem PySem.Challenge.cw_arcmill_k70_strokes_drawn_holds : PySem.Challenge.rw_arcmill_k70_strokes_drawn.Holds := by
 w_on;o_law;k_head;(case hw=>w_witness2)
 k_fill
 refine Dd.walk_ofD (l:=PySem.Challenge.rw_arcmill_k70_strokes_drawn) (n:=63) (k:=151) (x:="_law_script") (sp:=Lw.sp_law) rfl (by decide) rfl ⟨rfl,by decide,by decide⟩ (fun w h Y=>PySem.W.kIn_of Y) ?F Lw.law_here
 case F =>
  intro w mg fa h KX G hmg
  refine' Lw.all_mk KX G hmg ?b0 ?b1 ?b2 ?b3 ?b4 ?b5 ?b6 ?b7 ?b8 ?b9 ?b10 ?b11 ?b12 ?b13 ?b14 ?b15 ?b16 ?b17 ?b18 ?b19 ?b20 ?b21 ?b22 ?b23 ?b24 ?b25 ?b26 ?b27 ?b28 ?b29 ?b30 ?b31 ?b32 ?b33 ?b34 ?b35 ?b36 ?b37 ?b38 ?b39 ?b40 ?b41 ?b42 ?b43 ?b44 ?b45 ?b46 ?b47 ?b48 ?b49 ?b50 ?b51 ?b52 ?b53 ?b54 ?b55 ?b56 ?b57 ?b58 ?b59 ?b60 ?a61 ?l61 ?c61 ?k61 ?z_ValueError ?z_abs ?z_enumerate ?z_int ?z_isinstance ?z_len ?z_list ?z_min ?z_range ?z_sum ?z_tuple ?at_DEEDS ?lt_DEEDS ?kt_DEEDS ?et_DEEDS_go ?et_DEEDS_skip ?et_DEEDS_side ?et_DEEDS_dot ?et_DEEDS_left ?et_DEEDS_right ?et_DEEDS_round ?et_DEEDS_mirror ?et_DEEDS_grow ?et_DEEDS_quarter ?et_DEEDS_half ?et_DEEDS_arc ?ag_MIDDLE ?lGMIDDLE ?lGMIDDLE_0 ?lGMIDDLE_1 ?ag_MOST_DONE ?ag_NOTHING ?lGNOTHING ?ag_ONE ?lGONE ?ac_MillError ?xc_MillError ?ac_TooMuch ?xc_TooMuch ?ex0_TooMuch ?ex1_TooMuch ?ex2_TooMuch ?ex3_TooMuch ?ex4_TooMuch ?ex5_TooMuch ?ex6_TooMuch ?hU ?fX
  (case b0 | b1 | b2 | b3 | b4 | b5 | b6 | b7 | b8 | b9 | b10 | b11 | b12 | b13 | b14 | b15 | b16 | b17 | b18 | b19 | b20 | b21 | b22 | b23 | b24 | b25 | b26 | b27 | b28 | b29 | b30 | b31 | b32 | b33 | b34 | b35 | b36 | b37 | b38 | b39 | b40 | b41 | b42 | b43 | b44 | b45 | b46 | b47 | b48 | b49 | b50 | b51 | b52 | b53 | b54 | b55 | b56 | b57 | b58 | b59 | b60 =>exact ⟨by k_is,_,L2.fun_mk (by k_is) (by k_is) (by k_is)⟩)
  (case a61 | l61 | c61 | k61 | z_ValueError | z_abs | z_enumerate | z_int | z_isinstance | z_len | z_list | z_min | z_range | z_sum | z_tuple | at_DEEDS | lt_DEEDS =>k_is)
  (case kt_DEEDS=>k_keys)
  (case et_DEEDS_go | et_DEEDS_skip | et_DEEDS_side | et_DEEDS_dot | et_DEEDS_left | et_DEEDS_right | et_DEEDS_round | et_DEEDS_mirror | et_DEEDS_grow | et_DEEDS_quarter | et_DEEDS_half | et_DEEDS_arc | ag_MIDDLE | lGMIDDLE | lGMIDDLE_0 | lGMIDDLE_1 | ag_MOST_DONE | ag_NOTHING | lGNOTHING | ag_ONE | lGONE | ac_MillError =>k_is)
  (case xc_MillError=>unfold Dd.bmV;k_exc)
  (case ac_TooMuch=>k_is)
  (case xc_TooMuch=>unfold Dd.bmV;k_exc)
  (case ex0_TooMuch | ex1_TooMuch | ex2_TooMuch | ex3_TooMuch | ex4_TooMuch | ex5_TooMuch | ex6_TooMuch =>k_is)
  (case hU=>kts_exm)
  (case fX=>kit_is)
