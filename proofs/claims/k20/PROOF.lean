import PyProof.Rows.All
import Wide.All
import OpenK.AllK
import Wide.FinOn
import Lean
import PyProof.EqAt
import PyProof.EqKinds
import PyProof.TupleCall
import PyProof.NeKinds
import PyProof.IsRules
import PyProof.CompFree
import KE.LcSums
import PyProof.FactsAll.range_1
import PyProof.SeqRoads2
import KE.KRevSl
import PyProof.ZipIter
import PyProof.TupleIter
import PyProof.FitsBits
import PyProof.NoPylong
import KE.IntBitsLaws
import PyProof.CompMap
import PyProof.AutoSeq1
import PyProof.SeqInW
import KE.KDictList
import PyProof.Rows.TupDisplay
import KE.KSortTup
import PyProof.ListMulRoad
import PyProof.Rows.SumAny
import PySem.Challenge.RW_arcmill_k20_rows_without_blocks
set_option Elab.async false
set_option linter.all false
set_option bootstrap.genMatcherCode false
set_option maxRecDepth 100000
namespace L2
open PySem PySem.Spec PyProof.Rows
noncomputable abbrev Key:=Sum Int Str
noncomputable def aDc:Key->Value->Bool
 | .inl k,v=>Value.isInt k v
 | .inr x,v=>Value.isStrOf x v
noncomputable def aHn (w:World):Key->Int
 | .inl k=>hashInt k
 | .inr x=>hashStr w x
theorem cT:∀ {k:Key} {v:Value},aDc k v = true->(∃ i t,k = Sum.inl i/\v = Value.int i t) ∨ (∃ x t,k = Sum.inr x/\v = Value.str x t)
 | .inl i,v,h=>by
  obtain ⟨t,e⟩:=Value.isInt_shape (k:=i) (v:=v) h
  exact .inl ⟨i,t,rfl,e⟩
 | .inr x,v,h=>by
  obtain ⟨t,e⟩:=Value.isStrOf_shape (x:=x) (v:=v) h
  exact .inr ⟨x,t,rfl,e⟩
theorem aD7 (a b:Int):decide ((Sum.inl a:Key) = Sum.inl b) = (a == b):=by
 by_cases e:a = b
 ·subst e;simp
 ·have h:¬ (Sum.inl a:Key) = Sum.inl b:=fun q=>e (Sum.inl.inj q)
  rw [decide_eq_false h]
  exact (beq_eq_false_iff_ne.mpr e).symm
theorem aE5 (a b:Str):decide ((Sum.inr a:Key) = Sum.inr b) = decide (a = b):=by
 by_cases e:a = b
 ·subst e;simp
 ·have h:¬ (Sum.inr a:Key) = Sum.inr b:=fun q=>e (Sum.inr.inj q)
  rw [decide_eq_false h,decide_eq_false e]
theorem aEm (a:Int) (b:Str):decide ((Sum.inl a:Key) = Sum.inr b) = false:=decide_eq_false (fun q=>nomatch q)
theorem aD4 (a:Str) (b:Int):decide ((Sum.inr a:Key) = Sum.inl b) = false:=decide_eq_false (fun q=>nomatch q)
noncomputable def wV (prog:Program) (w:World):PySem.KeyKind prog w Key where
 is:=aDc
 hash:=aHn w
 inj:=fun v a b ha hb=>by
  rcases cT ha with ⟨i,t,rfl,rfl⟩ | ⟨x,t,rfl,rfl⟩
  ·rcases cT hb with ⟨j,u,rfl,e⟩ | ⟨y,u,rfl,e⟩
   ·injection e with e1 _;rw [e1]
   ·exact nomatch e
  ·rcases cT hb with ⟨j,u,rfl,e⟩ | ⟨y,u,rfl,e⟩
   ·exact nomatch e
   ·injection e with e1 _;rw [e1]
 byValue:=fun k v h=>by
  rcases cT h with ⟨i,t,rfl,rfl⟩ | ⟨x,t,rfl,rfl⟩<;>rfl
 pyHash:=fun hv h=>by
  rcases cT hv with ⟨i,t,rfl,rfl⟩ | ⟨x,t,rfl,rfl⟩
  ·exact wpAny_pyHash_int h
  ·exact wpAny_pyHash_str h
 eqBool:=fun hu hv h=>by
  rcases cT hu with ⟨i,t,rfl,rfl⟩ | ⟨x,t,rfl,rfl⟩
  ·rcases cT hv with ⟨j,u,rfl,rfl⟩ | ⟨y,u,rfl,rfl⟩
   ·rw [aD7] at h;exact wpAny_eqBool_int h
   ·rw [aEm] at h;exact SeqAt.EqAt.int_str i t y u _ _ _ _ h
  ·rcases cT hv with ⟨j,u,rfl,rfl⟩ | ⟨y,u,rfl,rfl⟩
   ·rw [aD4] at h;exact SeqAt.EqAt.str_int x t j u _ _ _ _ h
   ·rw [aE5] at h;exact wpAny_eqBool_str h
 «strs»:=fun k x t v h=>by
  rcases cT h with ⟨i,u,rfl,e⟩ | ⟨y,u,rfl,e⟩
  ·exact nomatch e
  ·injection e with e1 _
   subst e1
   cases v<;>rfl
end L2
namespace L2
open PySem PySem.Spec PyProof.Rows
inductive V where
 | non | bl (b:Bool) | int (i:Int) | str (x:Str) | byt (b:Array UInt8) | flt (b:UInt64) | ref (a:Addr) | ty (n:String)
 deriving DecidableEq
noncomputable def bF:V->Value->Prop
 | .non,u=>u = Value.none
 | .bl b,u=>u = Value.bool b
 | .int i,u=>∃ t,u = Value.int i t
 | .str x,u=>∃ t,u = Value.str x t
 | .byt b,u=>∃ t,u = Value.bytes b t
 | .flt b,u=>∃ t,u = Value.float b t
 | .ref a,u=>u = Value.ref a
 | .ty n,u=>u = Value.type n
noncomputable abbrev bM:List V->List Value->Prop:=Paired bF
theorem bM.length {xs:List V} {us:List Value} (r:bM xs us):xs.length = us.length:=Paired.length r
theorem bM.get:∀ {xs:List V} {us:List Value} {i:Nat} {x:V},bM xs us->xs[i]? = some x->∃ u,us[i]? = some u/\bF x u
 | _,_,_,_,.nil,e=>by simp at e
 | _,_,0,_,.cons r _,e=>by simp at e;subst e;exact ⟨_,rfl,r⟩
 | _,_,i + 1,x,.cons _ t,e=>by
  obtain ⟨u,h1,h2⟩:=bM.get (i:=i) (x:=x) t (by simpa using e)
  exact ⟨u,by simpa using h1,h2⟩
theorem bM.append:∀ {xs ys:List V} {us ws:List Value},bM xs us->bM ys ws->bM (xs ++ ys) (us ++ ws)
 | _,_,_,_,.nil,s=>s
 | _,_,_,_,.cons r t,s=>.cons r (bM.append t s)
theorem bM.take:∀ {xs:List V} {us:List Value} (n:Nat),bM xs us->bM (xs.take n) (us.take n)
 | _,_,0,_=>.nil
 | _,_,_ + 1,.nil=>.nil
 | _,_,n + 1,.cons r t=>.cons r (bM.take n t)
theorem bM.drop:∀ {xs:List V} {us:List Value} (n:Nat),bM xs us->bM (xs.drop n) (us.drop n)
 | _,_,0,r=>r
 | _,_,_ + 1,.nil=>.nil
 | _,_,n + 1,.cons _ t=>bM.drop n t
noncomputable def aCl:Option V->Option Value->Prop
 | some v,some u=>bF v u
 | none,none=>True
 | _,_=>False
noncomputable def KV {κ:Type}:List (κ × V)->List (κ × Value)->Prop:=Paired fun (p:κ × V) (q:κ × Value)=>p.1 = q.1/\bF p.2 q.2
noncomputable def kV:Key->V
 | .inl i=>.int i
 | .inr x=>.str x
inductive HO where
  | lst (xs:List V)
  | tup (xs:List V)
  | dK (kvs:List (Key × V)) | dT (kvs:List (List Key × V))
  | set (S:Int->Bool) (n:Nat)
  | ins (C dx:Addr) (fs:List (Str × V))
  | own (x:Addr)
  | xd (fs:List (Str × V))
  | met (f x:Addr)
  | rng (lo hi:Int)
  | frz (o:Obj) (u:HO)
  | tbl (ps:Array Value)
  | ext (φ:Heap->Prop)
noncomputable abbrev Hp:=Addr->Option HO
noncomputable def upd (H:Hp) (a:Addr) (o:HO):Hp:=fun b=>if b = a then some o else H b
theorem cR {H:Hp} {a:Addr} {o:HO}:upd H a o a = some o:=by unfold upd;rw [if_pos rfl]
theorem bB {H:Hp} {a b:Addr} {o:HO} (h:b ≠ a):upd H a o b = H b:=by unfold upd;rw [if_neg h]
theorem lB {H:Hp} {a b:Addr} {o u:HO} (h:H a = some o) (h':H b = some u) (d:o ≠ u):a ≠ b:=by
 intro e;subst e;rw [h] at h';exact d (Option.some.inj h')
theorem bH {H:Hp} {a b:Addr} {o:HO} (h:H a = some o) (h':H b = none):a ≠ b:=by
 intro e;subst e;rw [h] at h';cases h'
section
variable (P:Program) (w:World)
noncomputable def dM (H:Hp) (h:Heap) (a:Addr):HO->Prop
 | .lst xs=>xs.length<=sizeLine/\∃ (its:List Value) (n:Nat),bM xs its/\h.get? a = some { cls:=.type "list",data:=.seq its.toArray n }
 | .tup xs=>xs.length<=sizeLine/\∃ its:List Value,bM xs its/\IsTup h a its.toArray
 | .dK kvs=>kvs.length<=sizeLine/\(a == sysModules) = false/\∃ vs,KV kvs vs/\h.DictOf (wV P w) a vs
 | .dT kvs=>kvs.length<=sizeLine/\(a == sysModules) = false/\∃ xs:List (List Key × Addr × Value),
   Paired (fun (p:List Key × V) (q:List Key × Addr × Value)=>p.1 = q.1/\H q.2.1 = some (.tup (p.1.map kV))/\bF p.2 q.2.2) kvs xs /\
   ∃ o es ep,h.get? a = some o/\o.ExactDict/\o.data = .dict es ep/\es.toList = xs.map (entryOfKey (tupleKind (wV P w)))/\(xs.map (·.1)).Nodup
 | .set S n=>h.SetOf (intKind P w) a S n
 | .ins C dx fs=>H dx = some (.own a)/\fs.length<=1000/\dx ≠ a/\h.get? a = some (PySem.W.instObj C dx) /\
   ∃ mA,h.Ns1 dx mA/\(∀ f,aCl (fs.lookup f) (mA f))/\PySem.Within mA (fs.map (·.1))
 | .own _=>∃ o,h.get? a = some o
 | .xd fs=>∃ mA,h.Ns1 a mA/\∀ f,aCl (fs.lookup f) (mA f)
 | .rng lo hi=>∃ t u v,h.get? a = some { cls:=.type "range",data:=.fields #[.int lo t,.int hi u,.int 1 v] }
 | .frz o u=>h.get? a = some o/\dM H h a u
 | .tbl ps=>h.get? a = some { cls:=.none,data:=.fields ps }
 | .met f x=>h.get? a = some (PySem.W.methodObj (.ref f) (.ref x))
 | .ext φ=>φ h/\(∃ o,h.get? a = some o)/\∀ h1 h2:Heap,φ h1->(∀ o,h1.get? a = some o->h2.get? a = some o)->φ h2
noncomputable def HOk (H:Hp) (h:Heap):Prop:=∀ a o,H a = some o->dM P w H h a o
end
section
variable {P:Program} {w:World} {H H':Hp} {h h':Heap} {a:Addr} {o:HO}
theorem dM.lt (x:dM P w H h a o):a < h.objs.size:=by
 cases o with
 | lst xs=>obtain ⟨_,_,_,_,e⟩:=x;exact Heap.lt_size e
 | tup xs=>obtain ⟨_,_,_,p⟩:=x;exact p.lt
 | dK kvs=>obtain ⟨_,_,_,_,o,_,_,e,_⟩:=x;exact Heap.lt_size e
 | dT kvs=>obtain ⟨_,_,_,_,o,_,_,e,_⟩:=x;exact Heap.lt_size e
 | set S n=>obtain ⟨o,_,_,_,e,_⟩:=x;exact Heap.lt_size e
 | ins C dx fs=>obtain ⟨_,_,_,e,_⟩:=x;exact Heap.lt_size e
 | own y=>obtain ⟨_,e⟩:=x;exact Heap.lt_size e
 | xd fs=>obtain ⟨_,⟨_,_,_,e,_⟩,_⟩:=x;exact Heap.lt_size e
 | rng lo hi=>obtain ⟨_,_,_,e⟩:=x;exact Heap.lt_size e
 | frz ob u=>obtain ⟨e,_⟩:=x;exact Heap.lt_size e
 | tbl ps=>exact Heap.lt_size (show h.get? a = some _ from x)
 | met f y=>exact Heap.lt_size (show h.get? a = some _ from x)
 | ext φ=>obtain ⟨_,⟨_,e⟩,_⟩:=x;exact Heap.lt_size e
theorem Paired.mapP {α β:Type} {F G:α->β->Prop}:∀ {l₁:List α} {l₂:List β},Paired F l₁ l₂->(∀ a b,F a b->G a b)->Paired G l₁ l₂
 | _,_,.nil,_=>.nil
 | _,_,.cons r t,f=>.cons (f _ _ r) (Paired.mapP t f)
theorem dM.stay (x:dM P w H h a o) (k:∀ b u,(b = a ∨ H b = some (.own a))->h.get? b = some u->h'.get? b = some u)
  (ho:∀ b,H b = some (.own a)->H' b = some (.own a)) (ht:∀ b xs,H b = some (.tup xs)->H' b = some (.tup xs)):dM P w H' h' a o:=by
 induction o with
 | lst xs=>obtain ⟨z,its,n,r,e⟩:=x;exact ⟨z,its,n,r,k _ _ (.inl rfl) e⟩
 | tup xs=>obtain ⟨z,its,r,ob,e,c⟩:=x;exact ⟨z,its,r,ob,k _ _ (.inl rfl) e,c⟩
 | dK kvs=>obtain ⟨z,y,vs,r,ob,es,ep,e,c⟩:=x;exact ⟨z,y,vs,r,ob,es,ep,k _ _ (.inl rfl) e,c⟩
 | dT kvs =>
  obtain ⟨z,y,xs,r,ob,es,ep,e,c⟩:=x
  exact ⟨z,y,xs,Paired.mapP r fun p q z=>⟨z.1,ht _ _ z.2.1,z.2.2⟩,ob,es,ep,k _ _ (.inl rfl) e,c⟩
 | set S n=>obtain ⟨ob,es,ep,t,e,c⟩:=x;exact ⟨ob,es,ep,t,k _ _ (.inl rfl) e,c⟩
 | ins C dx fs =>
  obtain ⟨d,z,ne,e,mA,⟨od,es,ep,e2,c⟩,r⟩:=x
  exact ⟨ho _ d,z,ne,k _ _ (.inl rfl) e,mA,⟨od,es,ep,k _ _ (.inr d) e2,c⟩,r⟩
 | own y=>obtain ⟨ob,e⟩:=x;exact ⟨ob,k _ _ (.inl rfl) e⟩
 | xd fs=>obtain ⟨mA,⟨od,es,ep,e,c⟩,r⟩:=x;exact ⟨mA,⟨od,es,ep,k _ _ (.inl rfl) e,c⟩,r⟩
 | rng lo hi=>obtain ⟨t,u,v,e⟩:=x;exact ⟨t,u,v,k _ _ (.inl rfl) e⟩
 | frz ob u ih=>obtain ⟨e,q⟩:=x;exact ⟨k _ _ (.inl rfl) e,ih q⟩
 | tbl ps =>
  have e:h.get? a = some { cls:=.none,data:=.fields ps }:=x
  show h'.get? a = some { cls:=.none,data:=.fields ps }
  exact k a _ (.inl rfl) e
 | met f y =>
  have e:h.get? a = some (PySem.W.methodObj (.ref f) (.ref y)):=x
  show h'.get? a = some (PySem.W.methodObj (.ref f) (.ref y))
  exact k a _ (.inl rfl) e
 | ext φ=>obtain ⟨p,⟨o,e⟩,st⟩:=x;exact ⟨st _ _ p fun o q=>k _ _ (.inl rfl) q,⟨o,k _ _ (.inl rfl) e⟩,st⟩
theorem HOk.lt (x:HOk P w H h) (e:H a = some o):a < h.objs.size:=(x a o e).lt
theorem HOk.fresh (x:HOk P w H h) (e:h.objs.size<=a):H a = none:=by
 cases q:H a with
 | none=>rfl
 | some u=>exact absurd (Nat.lt_of_lt_of_le (x.lt q) e) (Nat.lt_irrefl _)
theorem HOk.kept (x:HOk P w H h) (k:∀ b u,h.get? b = some u->h'.get? b = some u):HOk P w H h':=fun a o e =>
 (x a o e).stay (fun b u _ q=>k b u q) (fun _ q=>q) fun _ _ q=>q
theorem HOk.laid (x:HOk P w H h) (k:∀ b u,h.get? b = some u->h'.get? b = some u) (hp:h.objs.size<=a) (new:dM P w (upd H a o) h' a o):HOk P w (upd H a o) h':=fun b u e=>by
 have hn:=x.fresh hp
 by_cases hb:b = a
 ·subst hb;rw [cR] at e;cases e;exact new
 ·rw [bB hb] at e
  exact (x b u e).stay (fun c v _ q=>k c v q) (fun c q=>by rw [bB (bH q hn)];exact q) fun c xs q=>by rw [bB (bH q hn)];exact q
end
noncomputable def Rd (H:Hp) (a:Addr) (u:HO):Prop:=H a = some u ∨ ∃ o,H a = some (.frz o u)
theorem Rd.ok {P:Program} {w:World} {H:Hp} {h:Heap} {a:Addr} {u:HO} (r:Rd H a u) (x:HOk P w H h):dM P w H h a u:=by
 rcases r with r | ⟨o,r⟩
 ·exact x a u r
 ·obtain ⟨_,q⟩:=x a _ r
  exact q
noncomputable def Mut:Option HO->Prop
 | some (.lst _)=>True
 | some (.dK _)=>True
 | some (.dT _)=>True
 | some (.set _ _)=>True
 | some (.ins _ _ _)=>True
 | some (.ext _)=>True
 | _=>False
section
variable {P:Program} {w:World} {H:Hp} {h h':Heap} {x e:Addr} {o':HO}
theorem HOk.write (ok:HOk P w H h) (mu:Mut (H x)) (he:e = x ∨ H e = some (.own x)) (k:∀ b u,b ≠ e->h.get? b = some u->h'.get? b = some u) (heo:∃ u,h'.get? e = some u)
  (new:dM P w (upd H x o') h' x o'):HOk P w (upd H x o') h':=fun b u q=>by
 have nown:∀ c y,H c = some (.own y)->c ≠ x:=fun c y r z=>by subst z;rw [r] at mu;exact mu
 have ntup:∀ c xs,H c = some (.tup xs)->c ≠ x:=fun c xs r z=>by subst z;rw [r] at mu;exact mu
 by_cases hb:b = x
 ·subst hb;rw [cR] at q;cases q;exact new
 ·rw [bB hb] at q
  by_cases hbe:b = e
  ·have q':H b = some (.own x):=by
    rcases he with z | z
    ·exact absurd (hbe.trans z) hb
    ·rw [hbe];exact z
   rw [q] at q';cases q'
   obtain ⟨v,hv⟩:=heo
   exact ⟨v,by rw [hbe];exact hv⟩
  ·refine (ok b u q).stay (fun c v hc r=>k c v ?_ r) (fun c r=>by rw [bB (nown c b r)];exact r) fun c xs r=>by rw [bB (ntup c xs r)];exact r
   rcases hc with rfl | hc
   ·exact hbe
   ·rintro rfl
    rcases he with z | z
    ·exact nown c b hc z
    ·rw [hc] at z;cases z;exact hb rfl
end
structure Un (fs ex:List Addr) (H H':Hp) (h h':Heap):Prop where
 keep:∀ b o,h.get? b = some o->H b = none->b ∉ fs->b ∉ ex->h'.get? b = some o
 slot:∀ b o,h.get? b = some o->H b = none->b ∈ fs->b ∉ ex->∃ sl,h'.get? b = some { o with slots:=sl }
 free:∀ b o,h.get? b = some o->H b = none->b ∉ ex->H' b = none
 there:∀ b o,h.get? b = some o->b ∉ ex->∃ o',h'.get? b = some o'
 tups:∀ b xs,H b = some (.tup xs)->H' b = some (.tup xs)
 frzs:∀ b o u,H b = some (.frz o u)->H' b = some (.frz o u)
 tbls:∀ b ps,H b = some (.tbl ps)->∃ more,H' b = some (.tbl (ps ++ more))
section
variable {fs fs' ex ex':List Addr} {H H1 H2:Hp} {h h1 h2 h':Heap} {a x e:Addr} {o:HO}
theorem Un.any (u:Un fs ex H H1 h h1) {b:Addr} {ob:Obj} (q:h.get? b = some ob) (n:H b = none) (hx:b ∉ ex):∃ sl,h1.get? b = some { ob with slots:=sl }:=by
 by_cases hb:b ∈ fs
 ·exact u.slot b ob q n hb hx
 ·exact ⟨ob.slots,u.keep b ob q n hb hx⟩
theorem Un.trans (a:Un fs ex H H1 h h1) (b:Un fs ex H1 H2 h1 h2):Un fs ex H H2 h h2 where
 keep:=fun c ob q n hc hx=>b.keep c ob (a.keep c ob q n hc hx) (a.free c ob q n hx) hc hx
 slot:=fun c ob q n hc hx=>by
  obtain ⟨sl,e1⟩:=a.slot c ob q n hc hx
  obtain ⟨sl',e2⟩:=b.slot c _ e1 (a.free c ob q n hx) hc hx
  exact ⟨sl',e2⟩
 free:=fun c ob q n hx=>by
  obtain ⟨o',e1⟩:=a.there c ob q hx
  exact b.free c o' e1 (a.free c ob q n hx) hx
 there:=fun c ob q hx=>by
  obtain ⟨o',e1⟩:=a.there c ob q hx
  exact b.there c o' e1 hx
 tups:=fun c xs q=>b.tups c xs (a.tups c xs q)
 frzs:=fun c ob xs q=>b.frzs c ob xs (a.frzs c ob xs q)
 tbls:=fun c ps q=>by
  obtain ⟨m1,e1⟩:=a.tbls c ps q
  obtain ⟨m2,e2⟩:=b.tbls c _ e1
  exact ⟨m1 ++ m2,by rw [e2,Array.append_assoc]⟩
theorem Un.kept (k:∀ b u,h.get? b = some u->h'.get? b = some u):Un fs ex H H h h' :=
 ⟨fun b ob q _ _ _=>k b ob q,fun b ob q _ _ _=>⟨ob.slots,k b ob q⟩,fun _ _ _ n _=>n,fun b ob q _=>⟨ob,k b ob q⟩,fun _ _ q=>q,fun _ _ _ q=>q,fun _ ps q=>⟨#[],by rw [q];simp⟩⟩
theorem Un.refl:Un fs ex H H h h:=Un.kept fun _ _ q=>q
theorem Un.laid (k:∀ b u,h.get? b = some u->h'.get? b = some u) (hp:h.objs.size<=a) (hn:H a = none):Un fs ex H (upd H a o) h h' where
 keep:=fun b u q _ _ _=>k b u q
 slot:=fun b u q _ _ _=>⟨u.slots,k b u q⟩
 free:=fun b u q n _=>by rw [bB (Nat.ne_of_lt (Nat.lt_of_lt_of_le (Heap.lt_size q) hp))];exact n
 there:=fun b u q _=>⟨u,k b u q⟩
 tups:=fun b xs q=>by rw [bB (bH q hn)];exact q
 frzs:=fun b u xs q=>by rw [bB (bH q hn)];exact q
 tbls:=fun b ps q=>⟨#[],by rw [bB (bH q hn),q];simp⟩
theorem Un.write (mu:Mut (H x)) (he:e = x ∨ H e = some (.own x)) (k:∀ b u,b ≠ e->h.get? b = some u->h'.get? b = some u) (heo:∃ u,h'.get? e = some u):Un fs ex H (upd H x o) h h':=by
 have hx:∀ b,H b = none->b ≠ x:=fun b n z=>by subst z;rw [n] at mu;exact mu
 have hb:∀ b,H b = none->b ≠ e:=fun b n z=>by
  subst z
  rcases he with r | r
  ·exact hx b n r
  ·rw [n] at r;cases r
 have hm:∀ b u,H b = some u->¬ Mut (some u)->b ≠ x:=fun b u q nm z=>by subst z;rw [q] at mu;exact nm mu
 refine ⟨fun b u q n _ _=>k b u (hb b n) q,fun b u q n _ _=>⟨u.slots,k b u (hb b n) q⟩,fun b u q n _=>by rw [bB (hx b n)];exact n,fun b u q _=>?_,
  fun b xs q=>by rw [bB (hm b _ q fun z=>z)];exact q,fun b u xs q=>by rw [bB (hm b _ q fun z=>z)];exact q,fun b ps q=>⟨#[],by rw [bB (hm b _ q fun z=>z),q];simp⟩⟩
 by_cases hbe:b = e
 ·subst hbe;exact heo
 ·exact ⟨u,k b u hbe q⟩
end
noncomputable def trk (h:Heap) (H:Hp):List Addr:=(List.range h.objs.size).filter fun a=>(H a).isSome
noncomputable def tW (h:Heap) (H:Hp):Heap:=PySem.W.hideAll h (trk h H)
theorem yC (h:Heap) (H:Hp):(tW h H).objs.size = h.objs.size:=PySem.W.hideAll_size _ _
theorem aBg {h:Heap} {H:Hp} {b:Addr} {o:Obj} (e:h.get? b = some o) (n:H b = none):(tW h H).get? b = some o :=
 PySem.W.hideAll_get _ e fun hm=>by
  have q:(H b).isSome = true:=(List.mem_filter.mp hm).2
  rw [n] at q;simp at q
theorem aCC {h:Heap} {H:Hp} {b:Addr} {o:Obj} (e:(tW h H).get? b = some o):h.get? b = some o/\H b = none:=by
 have e':h.get? b = some o:=PySem.W.of_hideAll (trk h H) e
 refine ⟨e',?_⟩
 cases q:H b with
 | none=>rfl
 | some x =>
  have hm:b ∈ trk h H:=List.mem_filter.mpr ⟨List.mem_range.mpr (Heap.lt_size e'),by simp [q]⟩
  have z:(tW h H).get? b = none:=PySem.W.hideAll_none (trk h H) hm
  rw [z] at e;cases e
noncomputable def aCc (g h:Heap) (L:Addr):List (Addr × Obj):=(List.range h.objs.size).filterMap fun a=>if a = L ∨ (g.get? a).isSome = true then none else (h.get? a).map fun o=>(a,o)
noncomputable def cU (g h:Heap) (L d:Addr):List (Addr × Obj):=(aCc g h L).filter fun p=>decide (p.1 ≠ d)
end L2
namespace L2
open PySem PySem.Spec PyProof.Rows
structure Mod (K:PySem.W.Frag) (mg:Str->Option Value) (base:Heap):Prop where
 kin:K.In base
 glob:base.Ns mainGlobals mg
 blt:∃ mb,base.Ns builtinsNs mb/\∀ x:Str,x ≠ "__name__"->mb x = bootBuiltins x
 nolimit:base.NoLimit
structure Cx where
 prog:Program
 w:World
 K:PySem.W.Frag
 mg:Str->Option Value
 base:Heap
 A:Around
 N:List Str
 s₀:Shared
 H₀:Hp
 env:Env
 outer:List Env
 stack:List Env
 ex:List Addr
 fn:Str->Bool
 calm:Bool
 pn:List (Addr × Obj)
 xe:Value->Shared->Prop
noncomputable def frs (l:List Env):List Addr:=l.filterMap (·.frame)
noncomputable abbrev Cx.fs (X:Cx):List Addr:=frs X.outer
noncomputable def Vis (sc:Scope) (x:Str):Prop:=sc.names.lookup x = some .local ∨ sc.names.lookup x = some .cell ∨ sc.names.lookup x = some .free
noncomputable def Loc (sc:Scope) (x:Str):Prop:=sc.names.lookup x = some .local ∨ sc.names.lookup x = some .cell
noncomputable def aFT (env:Env) (h:Heap) (m:Str->Option Value) (x:Str) (u:Value):Prop :=
 (env.kindOf x = some .local/\m x = some u) ∨ ((env.kindOf x = some .cell ∨ env.kindOf x = some .free)/\∃ c,env.cells.lookup x = some c/\h.IsCell c (some u))
structure Cx.Ok (X:Cx):Prop where
 mod:Mod X.K X.mg X.base
 kind:X.env.scope.kind = .function
 glob:X.env.globals = mainGlobals
 blt:X.env.builtins = builtinsNs
 above:X.s₀.heap.objs.size<=X.env.locals
 inj:∀ x y c,X.env.cells.lookup x = some c->X.env.cells.lookup y = some c->x = y
 has:∀ x,(X.env.kindOf x = some .cell ∨ X.env.kindOf x = some .free)->∃ c,X.env.cells.lookup x = some c
 cab:∀ x c,X.fn x = true->X.env.cells.lookup x = some c->X.s₀.heap.objs.size<=c
 hd:X.calm = true->X.A.handled = none
 frames:X.A.frames = some X.stack
 stk:X.stack = X.outer ∨ (X.stack = X.env :: X.outer/\X.env.frame = some X.env.locals)
 exf:∀ b ∈ X.ex,b ≠ X.env.locals/\∀ x c,X.env.cells.lookup x = some c->c ≠ b
 bs:∀ b o,X.base.get? b = some o->X.s₀.heap.get? b = some o/\X.H₀ b = none
 bsz:X.base.objs.size<=X.s₀.heap.objs.size
 noex:∀ b o,X.base.get? b = some o->b ∉ X.ex
 exfs:∀ b ∈ X.ex,b ∉ X.fs
 funs:X.s₀.heap.FunFrames X.base X.outer
 frf:∀ b ∈ X.fs,X.H₀ b = none
structure Inv (X:Cx) (pins:List (Addr × Obj)) (σ:List (Option V)) (H:Hp) (s:Shared):Prop where
 ok:X.Ok
 os:s.os = X.s₀.os
 bare:AllBare s.gens
 base:Un X.fs X.ex X.H₀ H X.s₀.heap s.heap
 loc:∃ m,s.heap.Ns X.env.locals m/\∀ (i:Nat) (x:Str) (v:V),X.N[i]? = some x->σ[i]? = some (some v)->Vis X.env.scope x->∃ u,bF v u/\aFT X.env s.heap m x u
 cell:∀ x c,X.env.cells.lookup x = some c->∃ v,s.heap.IsCell c v
 free:H X.env.locals = none
 freeC:∀ x c,X.env.cells.lookup x = some c->H c = none
 pin:∀ p ∈ X.pn ++ pins,s.heap.get? p.1 = some p.2/\H p.1 = none/\p.1 ≠ X.env.locals/\p.1 ∉ X.fs/\∀ v,p.2.data ≠ .cell v
 hok:HOk X.prog X.w H s.heap
 len:σ.length = X.N.length
section
variable {X:Cx} {pins:List (Addr × Obj)} {σ:List (Option V)} {H H':Hp} {s:Shared} {h':Heap}
theorem Cx.Ok.nofr (ok:X.Ok) {b:Addr} {o:Obj} (e:X.base.get? b = some o):b ∉ X.fs:=fun hb=>by
 have:=(ok.funs.mem hb).1
 rw [e] at this;cases this
theorem Inv.bs (I:Inv X pins σ H s):∀ b o,X.base.get? b = some o->s.heap.get? b = some o/\H b = none:=fun b o e =>
 ⟨I.base.keep b o (I.ok.bs b o e).1 (I.ok.bs b o e).2 (I.ok.nofr e) (I.ok.noex b o e),I.base.free b o (I.ok.bs b o e).1 (I.ok.bs b o e).2 (I.ok.noex b o e)⟩
theorem Inv.bk (I:Inv X pins σ H s):∀ b o,X.base.get? b = some o->s.heap.get? b = some o:=fun b o e=>(I.bs b o e).1
theorem Inv.mod (I:Inv X pins σ H s):Mod X.K X.mg X.base:=I.ok.mod
theorem Inv.kIn (I:Inv X pins σ H s):X.K.In s.heap:=I.ok.mod.kin.keeps I.bk
theorem Inv.lt (I:Inv X pins σ H s):X.env.locals < s.heap.objs.size:=let ⟨_,hn,_⟩:=I.loc;hn.lt
theorem Inv.sz (I:Inv X pins σ H s):X.s₀.heap.objs.size<=s.heap.objs.size:=Nat.le_trans I.ok.above (Nat.le_of_lt I.lt)
theorem Inv.nofs (I:Inv X pins σ H s) {a:Addr} (h:s.heap.objs.size<=a):a ∉ X.fs:=fun hb=>by
 obtain ⟨_,o,ho,_⟩:=I.ok.funs.mem hb
 exact absurd (Nat.lt_of_lt_of_le (Heap.lt_size ho) (Nat.le_trans I.sz h)) (Nat.lt_irrefl _)
theorem Inv.cne (I:Inv X pins σ H s):∀ x c,X.env.cells.lookup x = some c->c ≠ X.env.locals:=fun x c e z=>by
 obtain ⟨v,o,ho,hd⟩:=I.cell x c e
 obtain ⟨m,⟨o',es,ep,ho',hd',_⟩,_⟩:=I.loc
 rw [z,ho'] at ho;cases ho;rw [hd'] at hd;cases hd
theorem Inv.funs (I:Inv X pins σ H s):s.heap.FunFrames X.base X.outer:=by
 have all:∀ (l:List Env),(∀ b ∈ frs l,b ∈ X.fs)->X.s₀.heap.FunFrames X.base l->s.heap.FunFrames X.base l:=by
  intro l
  induction l with
  | nil=>intro _ _;trivial
  | cons env r ih =>
   intro hs hl
   obtain ⟨hk,⟨L,o,hf,hn,ho,hd⟩,hr⟩:=hl
   have hL:L ∈ X.fs:=hs L (by unfold frs;rw [List.filterMap_cons,hf];exact List.mem_cons_self)
   obtain ⟨sl,e⟩:=I.base.slot L o ho (I.ok.frf L hL) hL fun z=>I.ok.exfs L z hL
   exact ⟨hk,⟨L,_,hf,hn,e,hd⟩,ih (fun b hb=>hs b (by unfold frs;rw [List.filterMap_cons,hf];exact List.mem_cons_of_mem _ hb)) hr⟩
 exact all X.outer (fun _ hb=>hb) I.ok.funs
theorem Inv.stack (I:Inv X pins σ H s):s.heap.FunFrames X.base X.stack:=by
 rcases I.ok.stk with e | ⟨e,hf⟩
 ·rw [e];exact I.funs
 ·rw [e]
  obtain ⟨m,hn,_⟩:=I.loc
  refine .cons (by rw [I.ok.kind];decide) hf hn ?_ I.funs
  exact Heap.get?_none_of_le (Nat.le_trans I.ok.bsz I.ok.above)
theorem Inv.stkSub (I:Inv X pins σ H s):∀ b ∈ frs X.stack,b ∈ X.env.locals :: X.fs:=fun b hb=>by
 rcases I.ok.stk with e | ⟨e,hf⟩
 ·rw [e] at hb;exact List.mem_cons_of_mem _ hb
 ·rw [e] at hb
  unfold frs at hb
  rw [List.filterMap_cons,hf] at hb
  exact hb
theorem Inv.stkFree (I:Inv X pins σ H s):∀ b ∈ frs X.stack,H b = none:=fun b hb=>by
 rcases List.mem_cons.mp (I.stkSub b hb) with e | hb
 ·rw [e];exact I.free
 ·obtain ⟨_,o,ho,_⟩:=I.ok.funs.mem hb
  exact I.base.free b o ho (I.ok.frf b hb) fun z=>I.ok.exfs b z hb
theorem Inv.step {g':Array GenState} {t':Nat} {d':Drawn} {ch:List Addr} (I:Inv X pins σ H s)
  (hch:∀ b ∈ ch,(b ∈ X.ex ∨ X.s₀.heap.objs.size<=b)/\b ≠ X.env.locals/\(∀ x c,X.env.cells.lookup x = some c->c ≠ b)/\∀ p ∈ X.pn ++ pins,p.1 ≠ b)
  (keep:∀ b o,b ≠ X.env.locals->b ∉ X.fs->b ∉ ch->s.heap.get? b = some o->H b = none->h'.get? b = some o)
  (slot:∀ b o,b ≠ X.env.locals->b ∈ X.fs->b ∉ ch->s.heap.get? b = some o->H b = none->∃ sl,h'.get? b = some { o with slots:=sl }) (free:∀ b o,b ∉ ch->s.heap.get? b = some o->H b = none->H' b = none)
  (there:∀ b o,b ∉ ch->s.heap.get? b = some o->∃ o',h'.get? b = some o')
  (tups:∀ b xs,H b = some (.tup xs)->H' b = some (.tup xs)) (frzs:∀ b o u,H b = some (.frz o u)->H' b = some (.frz o u)) (tbls:∀ b ps,H b = some (.tbl ps)->∃ more,H' b = some (.tbl (ps ++ more)))
  (ns:∀ m,s.heap.Ns X.env.locals m->h'.Ns X.env.locals m) (hok:HOk X.prog X.w H' h') (hg:AllBare g') :
  Inv X pins σ H' { s with heap:=h',gens:=g',drawn:=d',toks:=t' }:=by
 have neL:∀ b o,X.s₀.heap.get? b = some o->b ≠ X.env.locals:=fun b o e=>Nat.ne_of_lt (Nat.lt_of_lt_of_le (Heap.lt_size e) I.ok.above)
 have neC:∀ b o,X.s₀.heap.get? b = some o->b ∉ X.ex->b ∉ ch:=fun b o e hx hb=>by
  rcases (hch b hb).1 with z | z
  ·exact hx z
  ·exact absurd (Nat.lt_of_lt_of_le (Heap.lt_size e) z) (Nat.lt_irrefl _)
 have cellK:∀ x c,X.env.cells.lookup x = some c->∀ v,s.heap.IsCell c v->h'.IsCell c v:=fun x c e v ⟨o,ho,hd⟩=>by
  have nch:c ∉ ch:=fun z=>(hch c z).2.2.1 x c e rfl
  by_cases hc:c ∈ X.fs
  ·obtain ⟨sl,q⟩:=slot c o (I.cne x c e) hc nch ho (I.freeC x c e)
   exact ⟨_,q,hd⟩
  ·exact ⟨o,keep c o (I.cne x c e) hc nch ho (I.freeC x c e),hd⟩
 refine ⟨I.ok,I.os,hg,⟨fun b o e n hb hx=>?_,fun b o e n hb hx=>?_,fun b o e n hx=>?_,fun b o e hx=>?_,fun b xs e=>tups b xs (I.base.tups b xs e),fun b o xs e=>frzs b o xs (I.base.frzs b o xs e),fun b ps e=>?_⟩,?_,fun x c e=>?_,?_,fun x c e=>?_,fun p hp=>?_,hok,I.len⟩
 ·exact keep b o (neL b o e) hb (neC b o e hx) (I.base.keep b o e n hb hx) (I.base.free b o e n hx)
 ·obtain ⟨sl,e1⟩:=I.base.slot b o e n hb hx
  obtain ⟨sl',e2⟩:=slot b _ (neL b o e) hb (neC b o e hx) e1 (I.base.free b o e n hx)
  exact ⟨sl',e2⟩
 ·obtain ⟨o',e1⟩:=I.base.there b o e hx
  exact free b o' (neC b o e hx) e1 (I.base.free b o e n hx)
 ·obtain ⟨o',e1⟩:=I.base.there b o e hx
  exact there b o' (neC b o e hx) e1
 ·obtain ⟨m1,e1⟩:=I.base.tbls b ps e
  obtain ⟨m2,e2⟩:=tbls b _ e1
  exact ⟨m1 ++ m2,by rw [e2,Array.append_assoc]⟩
 ·obtain ⟨m,hn,hl⟩:=I.loc
  refine ⟨m,ns m hn,fun i x v e1 e2 e3=>?_⟩
  obtain ⟨u,r,l⟩:=hl i x v e1 e2 e3
  refine ⟨u,r,?_⟩
  rcases l with l | ⟨k,c,e,z⟩
  ·exact .inl l
  ·exact .inr ⟨k,c,e,cellK x c e _ z⟩
 ·obtain ⟨v,z⟩:=I.cell x c e
  exact ⟨v,cellK x c e v z⟩
 ·obtain ⟨m,⟨o,_,_,ho,_⟩,_⟩:=I.loc
  exact free _ o (fun z=>(hch _ z).2.1 rfl) ho I.free
 ·obtain ⟨v,o,ho,hd⟩:=I.cell x c e
  exact free c o (fun z=>(hch c z).2.2.1 x c e rfl) ho (I.freeC x c e)
 ·obtain ⟨e,n,ne,nf,d⟩:=I.pin p hp
  have nch:p.1 ∉ ch:=fun z=>(hch p.1 z).2.2.2 p hp rfl
  exact ⟨keep p.1 p.2 ne nf nch e n,free p.1 p.2 nch e n,ne,nf,d⟩
theorem Inv.un {t':Nat} (I:Inv X pins σ H s) (u:Un X.fs [] H H' s.heap h') (hok:HOk X.prog X.w H' h'):Inv X pins σ H' { s with heap:=h',toks:=t' }:=by
 obtain ⟨m,⟨o,es,ep,ho,r⟩,_⟩:=id I.loc
 obtain ⟨sl,hL⟩:=u.any ho I.free (by simp)
 exact I.step (g':=s.gens) (d':=s.drawn) (ch:=[]) (fun _ z=>nomatch z) (fun b o _ hb _ e n=>u.keep b o e n hb (by simp)) (fun b o _ hb _ e n=>u.slot b o e n hb (by simp)) (fun b o _ e n=>u.free b o e n (by simp)) (fun b o _ e=>u.there b o e (by simp)) u.tups u.frzs u.tbls (fun m' hm=>by
  obtain ⟨o',es',ep',ho',r'⟩:=hm
  rw [ho] at ho';cases ho'
  exact ⟨_,es',ep',hL,r'⟩) hok I.bare
theorem Inv.call {g':Array GenState} {t':Nat} {d':Drawn} {ch:List Addr} (I:Inv X pins σ H s) (u:Un (frs X.stack) ch H H' s.heap h') (hok:HOk X.prog X.w H' h') (hg:AllBare g')
  (hch:∀ b ∈ ch,(b ∈ X.ex ∨ X.s₀.heap.objs.size<=b)/\b ≠ X.env.locals/\(∀ x c,X.env.cells.lookup x = some c->c ≠ b)/\∀ p ∈ X.pn ++ pins,p.1 ≠ b) :
  Inv X pins σ H' { s with heap:=h',gens:=g',drawn:=d',toks:=t' }:=by
 obtain ⟨m,⟨o,es,ep,ho,r⟩,_⟩:=id I.loc
 obtain ⟨sl,hL⟩:=u.any ho I.free fun z=>(hch _ z).2.1 rfl
 exact I.step (ch:=ch) hch (fun b o hL hb hc e n=>u.keep b o e n (fun z=>(List.mem_cons.mp (I.stkSub b z)).elim hL hb) hc) (fun b o _ _ hc e n=>u.any e n hc) (fun b o hc e n=>u.free b o e n hc) (fun b o hc e=>u.there b o e hc) u.tups u.frzs u.tbls (fun m' hm=>by
  obtain ⟨o',es',ep',ho',r'⟩:=hm
  rw [ho] at ho';cases ho'
  exact ⟨_,es',ep',hL,r'⟩) hok hg
theorem Inv.turned {t':Nat} {it:Addr} (I:Inv X pins σ H s) (k:∀ b o,b ≠ it->s.heap.get? b = some o->h'.get? b = some o) (hn:H it = none) (hL:it ≠ X.env.locals)
  (h1:it ∈ X.ex ∨ X.s₀.heap.objs.size<=it) (h2:∀ x c,X.env.cells.lookup x = some c->c ≠ it) (h3:∀ p ∈ X.pn ++ pins,p.1 ≠ it):Inv X pins σ H { s with heap:=h',toks:=t' }:=by
 have nit:∀ b u,H b = some u->b ≠ it:=fun b u e z=>by rw [z,hn] at e;cases e
 refine I.step (g':=s.gens) (d':=s.drawn) (ch:=[it]) (fun b hb=>?_) (fun b o _ _ hc e _=>k b o (fun z=>hc (by simp [z])) e) (fun b o _ _ hc e _=>⟨o.slots,k b o (fun z=>hc (by simp [z])) e⟩) (fun _ _ _ _ n=>n)
  (fun b o hc e=>⟨o,k b o (fun z=>hc (by simp [z])) e⟩) (fun _ _ e=>e) (fun _ _ _ e=>e) (fun b ps e=>⟨#[],by rw [e];simp⟩) (fun m hm=>?_) (fun b u e=>?_) I.bare
 ·have e:b = it:=by simpa using hb
  subst e
  exact ⟨h1,hL,h2,h3⟩
 ·obtain ⟨o,es,ep,ho,r⟩:=hm
  exact ⟨o,es,ep,k _ o (Ne.symm hL) ho,r⟩
 ·refine (I.hok b u e).stay (fun c v hc q=>k c v ?_ q) (fun _ q=>q) fun _ _ q=>q
  rcases hc with z | z
  ·rw [z];exact nit b u e
  ·exact nit c _ z
theorem Inv.tok (I:Inv X pins σ H s) (t:Nat):Inv X pins σ H { s with toks:=t }:=I.un (h':=s.heap) (t':=t) Un.refl I.hok
theorem Inv.kept {t':Nat} (I:Inv X pins σ H s) (k:∀ b u,s.heap.get? b = some u->h'.get? b = some u):Inv X pins σ H { s with heap:=h',toks:=t' }:=I.un (Un.kept k) (I.hok.kept k)
theorem Inv.laid {a:Addr} {o:HO} {t':Nat} (I:Inv X pins σ H s) (k:∀ b u,s.heap.get? b = some u->h'.get? b = some u) (hp:s.heap.objs.size<=a) (new:dM X.prog X.w (upd H a o) h' a o) :
  Inv X pins σ (upd H a o) { s with heap:=h',toks:=t' }:=I.un (Un.laid k hp (I.hok.fresh hp)) (I.hok.laid k hp new)
theorem Inv.write {x e:Addr} {o:HO} {t':Nat} (I:Inv X pins σ H s) (mu:Mut (H x)) (he:e = x ∨ H e = some (.own x)) (k:∀ b u,b ≠ e->s.heap.get? b = some u->h'.get? b = some u) (heo:∃ u,h'.get? e = some u)
  (new:dM X.prog X.w (upd H x o) h' x o):Inv X pins σ (upd H x o) { s with heap:=h',toks:=t' }:=I.un (Un.write mu he k heo) (I.hok.write mu he k heo new)
theorem Inv.pins_of {pins':List (Addr × Obj)} (I:Inv X pins σ H s) (h:∀ p ∈ pins',s.heap.get? p.1 = some p.2/\H p.1 = none/\p.1 ≠ X.env.locals/\p.1 ∉ X.fs/\∀ v,p.2.data ≠ .cell v):Inv X pins' σ H s :=
 ⟨I.ok,I.os,I.bare,I.base,I.loc,I.cell,I.free,I.freeC,fun p hp=>(List.mem_append.mp hp).elim (fun z=>I.pin p (List.mem_append_left _ z)) (h p),I.hok,I.len⟩
theorem pJ {N:List Str} (hN:N.Nodup) {i j:Nat} {x:Str} (a:N[i]? = some x) (b:N[j]? = some x):i = j:=by
 obtain ⟨h1,e1⟩:=List.getElem?_eq_some_iff.mp a
 obtain ⟨h2,e2⟩:=List.getElem?_eq_some_iff.mp b
 exact (List.getElem_inj hN).mp (e1.trans e2.symm)
theorem sH {M:Model} {A:Around} {E:Value->Shared->Prop} {i:Nat} {x:Str} {v:V} {u:Value} {Q:Unit->Shared->Prop} (I:Inv X pins σ H s) (hN:X.N.Nodup) (hi:X.N[i]? = some x) (hx:Loc X.env.scope x) (r:bF v u)
  (h:∀ s',Inv X pins (σ.set i (some v)) H s'->(∃ a,Heap.SameBut a s.heap s'.heap/\(a = X.env.locals ∨ X.env.cells.lookup x = some a))->Q () s') (hf:X.fn x = true ∨ X.env.scope.names.lookup x = some .local:=by first | exact .inl rfl | exact .inr rfl | assumption):wpAny M A (storeName X.env x u) Q E s:=by
 obtain ⟨m,hn,hl⟩:=id I.loc
 have hcls:(X.env.scope.kind == .class || (X.env.scope.kind == .module && X.env.locals != X.env.globals)) = false:=by rw [I.ok.kind];rfl
 have hiσ:i < σ.length:=by rw [I.len];exact (List.getElem?_eq_some_iff.mp hi).1
 have cne:=I.cne
 have tracked:∀ {a:Addr} {h':Heap},(∃ o,s.heap.get? a = some o/\H a = none)->Heap.SameBut a s.heap h'->HOk X.prog X.w H h':=fun {a h'} ha hs b ob e=>by
  obtain ⟨_,_,hfree⟩:=ha
  refine (I.hok b ob e).stay (fun c w' hc q=>(hs.2 c ?_).trans q) (fun _ q=>q) fun _ _ q=>q
  rintro rfl
  rcases hc with rfl | hc
  ·rw [hfree] at e;cases e
  ·rw [hfree] at hc;cases hc
 rcases hx with hk | hk
 ·refine wpAny_storeName_local hk hn (fun h' hn' hs=>?_) hcls
  obtain ⟨oL,_,_,hoL,_⟩:=id hn
  refine h _ ⟨I.ok,I.os,I.bare,⟨fun b o e n hb hx=>?_,fun b o e n hb hx=>?_,I.base.free,fun b o e hx=>?_,I.base.tups,I.base.frzs,I.base.tbls⟩,⟨_,hn',fun j y v' e1 e2 e3=>?_⟩,fun y c e=>?_,I.free,I.freeC,fun p hp=>?_,tracked ⟨oL,hoL,I.free⟩ hs,by simpa using I.len⟩ ⟨_,hs,.inl rfl⟩
  ·exact (hs.2 b (Nat.ne_of_lt (Nat.lt_of_lt_of_le (Heap.lt_size e) I.ok.above))).trans (I.base.keep b o e n hb hx)
  ·obtain ⟨sl,e1⟩:=I.base.slot b o e n hb hx
   exact ⟨sl,(hs.2 b (Nat.ne_of_lt (Nat.lt_of_lt_of_le (Heap.lt_size e) I.ok.above))).trans e1⟩
  ·obtain ⟨o',e1⟩:=I.base.there b o e hx
   exact ⟨o',(hs.2 b (Nat.ne_of_lt (Nat.lt_of_lt_of_le (Heap.lt_size e) I.ok.above))).trans e1⟩
  ·by_cases hj:j = i
   ·subst hj
    rw [hi] at e1;cases e1
    rw [List.getElem?_set_self hiσ] at e2
    cases e2
    exact ⟨u,r,.inl ⟨hk,by simp⟩⟩
   ·rw [List.getElem?_set_ne (Ne.symm hj)] at e2
    obtain ⟨u',r',q⟩:=hl j y v' e1 e2 e3
    refine ⟨u',r',?_⟩
    rcases q with ⟨k,e⟩ | ⟨k,c,e,z⟩
    ·refine .inl ⟨k,?_⟩
     have:y ≠ x:=fun e=>hj (pJ hN e1 (e ▸ hi))
     simp [this,e]
    ·exact .inr ⟨k,c,e,z.sameBut hs (cne y c e)⟩
  ·obtain ⟨w',z⟩:=I.cell y c e
   exact ⟨w',z.sameBut hs (cne y c e)⟩
  ·obtain ⟨e,n,ne,nf,d⟩:=I.pin p hp
   exact ⟨(hs.2 p.1 ne).trans e,n,ne,nf,d⟩
 ·have hfn:X.fn x = true:=by
   rcases hf with z | z
   ·exact z
   ·rw [z] at hk;cases hk
  obtain ⟨c,hc⟩:=I.ok.has x (.inl hk)
  obtain ⟨w',z⟩:=I.cell x c hc
  refine wpAny_storeName_cell I.ok.kind hk hc z (fun h' hc' hs=>?_)
  obtain ⟨oc,hoc,hocd⟩:=id z
  refine h { s with heap:=h' } ⟨I.ok,I.os,I.bare,⟨fun b o e n hb hx=>?_,fun b o e n hb hx=>?_,I.base.free,fun b o e hx=>?_,I.base.tups,I.base.frzs,I.base.tbls⟩,⟨m,hn.sameBut hs (Ne.symm (cne x c hc)),fun j y v' e1 e2 e3=>?_⟩,fun y c' e=>?_,I.free,I.freeC,fun p hp=>?_,tracked ⟨oc,hoc,I.freeC x c hc⟩ hs,by simpa using I.len⟩ ⟨c,hs,.inr hc⟩
  ·exact (hs.2 b (Nat.ne_of_lt (Nat.lt_of_lt_of_le (Heap.lt_size e) (I.ok.cab x c hfn hc)))).trans (I.base.keep b o e n hb hx)
  ·obtain ⟨sl,e1⟩:=I.base.slot b o e n hb hx
   exact ⟨sl,(hs.2 b (Nat.ne_of_lt (Nat.lt_of_lt_of_le (Heap.lt_size e) (I.ok.cab x c hfn hc)))).trans e1⟩
  ·obtain ⟨o',e1⟩:=I.base.there b o e hx
   exact ⟨o',(hs.2 b (Nat.ne_of_lt (Nat.lt_of_lt_of_le (Heap.lt_size e) (I.ok.cab x c hfn hc)))).trans e1⟩
  ·by_cases hj:j = i
   ·subst hj
    rw [hi] at e1;cases e1
    rw [List.getElem?_set_self hiσ] at e2
    cases e2
    exact ⟨u,r,.inr ⟨.inl hk,c,hc,hc'⟩⟩
   ·rw [List.getElem?_set_ne (Ne.symm hj)] at e2
    obtain ⟨u',r',q⟩:=hl j y v' e1 e2 e3
    refine ⟨u',r',?_⟩
    rcases q with q | ⟨k,c',e,z'⟩
    ·exact .inl q
    ·refine .inr ⟨k,c',e,z'.sameBut hs ?_⟩
     rintro rfl
     exact hj (pJ hN e1 (I.ok.inj _ _ _ e hc ▸ hi))
  ·by_cases hcc:c' = c
   ·subst hcc;exact ⟨_,hc'⟩
   ·obtain ⟨w2,z2⟩:=I.cell y c' e
    exact ⟨w2,z2.sameBut hs hcc⟩
  ·obtain ⟨e,n,ne,nf,d⟩:=I.pin p hp
   refine ⟨(hs.2 p.1 ?_).trans e,n,ne,nf,d⟩
   intro q
   rw [q,hoc] at e
   have q':oc = p.2:=Option.some.inj e
   exact d w' (by rw [<- q'];exact hocd)
theorem iG {M:Model} {A:Around} {E:Value->Shared->Prop} {i:Nat} {x:Str} {v:V} {u:Value} {Q:Unit->Shared->Prop} (I:Inv X pins σ H s) (hN:X.N.Nodup) (hi:X.N[i]? = some x) (hx:Loc X.env.scope x) (r:bF v u)
  (h:∀ s',Inv X pins (σ.set i (some v)) H s'->Q () s') (hf:X.fn x = true ∨ X.env.scope.names.lookup x = some .local:=by first | exact .inl rfl | exact .inr rfl | assumption):wpAny M A (storeName X.env x u) Q E s :=
 sH I hN hi hx r (fun s' I' _=>h s' I') hf
theorem Inv.call' {s':Shared} {ch:List Addr} (I:Inv X pins σ H s) (ho:s'.os = s.os) (u:Un (frs X.stack) ch H H' s.heap s'.heap) (hok:HOk X.prog X.w H' s'.heap) (hg:AllBare s'.gens)
  (hch:∀ b ∈ ch,(b ∈ X.ex ∨ X.s₀.heap.objs.size<=b)/\b ≠ X.env.locals/\(∀ x c,X.env.cells.lookup x = some c->c ≠ b)/\∀ p ∈ X.pn ++ pins,p.1 ≠ b):Inv X pins σ H' s':=by
 obtain ⟨h',g',d',t',o'⟩:=s'
 have e:o' = s.os:=ho
 subst e
 exact I.call (g':=g') (t':=t') (d':=d') u hok hg hch
end
noncomputable abbrev XK:=Value->Option Addr->Hp->Prop
noncomputable abbrev St:=List (Option V)
noncomputable abbrev VK:=V->Hp->Prop
noncomputable abbrev TE:=St->Hp->VK->Prop
noncomputable abbrev TT:=St->Hp->(Bool->Hp->Prop)->Prop
noncomputable abbrev TA:=St->Hp->(List V->Hp->Prop)->Prop
structure mQ where
 nx:St->Hp->Prop
 rt:VK
 bk:St->Hp->Prop:=fun _ _=>False
 ct:St->Hp->Prop:=fun _ _=>False
noncomputable abbrev TS:=mQ->St->Hp->Prop
noncomputable def EP (X:Cx) (pins:List (Addr × Obj)) (σ:St) (Q:VK) (u:Value) (s':Shared):Prop:=∃ v H',Inv X pins σ H' s'/\bF v u/\Q v H'
noncomputable def TP (X:Cx) (pins:List (Addr × Obj)) (σ:St) (Q:Bool->Hp->Prop) (b:Bool) (s':Shared):Prop:=∃ H',Inv X pins σ H' s'/\Q b H'
noncomputable def AP (X:Cx) (pins:List (Addr × Obj)) (σ:St) (Q:List V->Hp->Prop) (us:List Value) (s':Shared):Prop:=∃ vs H',Inv X pins σ H' s'/\bM vs us/\Q vs H'
noncomputable def SP (X:Cx) (pins:List (Addr × Obj)) (D:mQ) (f:Flow) (s':Shared):Prop :=
 match f with
 | .next=>∃ σ' H',Inv X pins σ' H' s'/\D.nx σ' H'
 | .brk=>∃ σ' H',Inv X pins σ' H' s'/\D.bk σ' H'
 | .cont=>∃ σ' H',Inv X pins σ' H' s'/\D.ct σ' H'
 | .ret u=>∃ v σ' H',Inv X pins σ' H' s'/\bF v u/\D.rt v H'
noncomputable def PE (X:Cx) (e:Expr) (t:TE):Prop :=
 ∀ (pins:List (Addr × Obj)) (s:Shared) (σ:St) (H:Hp) (Q:VK),Inv X pins σ H s->t σ H Q->wpAny (model X.prog X.w) X.A (eval e X.env) (EP X pins σ Q) X.xe s
noncomputable def PT (X:Cx) (e:Expr) (t:TT):Prop :=
 ∀ (pins:List (Addr × Obj)) (s:Shared) (σ:St) (H:Hp) (Q:Bool->Hp->Prop),Inv X pins σ H s->t σ H Q->wpAny (model X.prog X.w) X.A (isTrue e X.env (eval e X.env)) (TP X pins σ Q) X.xe s
noncomputable def PW (X:Cx) (e:Expr) (t:TT):Prop :=
 ∀ (whole:Sem Value) (pins:List (Addr × Obj)) (s:Shared) (σ:St) (H:Hp) (Q:Bool->Hp->Prop),Inv X pins σ H s->t σ H Q->wpAny (model X.prog X.w) X.A (isTrue e X.env whole) (TP X pins σ Q) X.xe s
theorem PW.pt {X:Cx} {e:Expr} {t:TT} (h:PW X e t):PT X e t:=h _
noncomputable def PA (X:Cx) (es:List Expr) (t:TA):Prop :=
 ∀ (pos:Pos) (pins:List (Addr × Obj)) (s:Shared) (σ:St) (H:Hp) (Q:List V->Hp->Prop),Inv X pins σ H s->t σ H Q->wpAny (model X.prog X.w) X.A (spliced (backTo pos (starEach es X.env))) (AP X pins σ Q) X.xe s
noncomputable def PS (X:Cx) (st:Stmt) (t:TS):Prop :=
 ∀ (pins:List (Addr × Obj)) (s:Shared) (σ:St) (H:Hp) (D:mQ),Inv X pins σ H s->t D σ H->wpAny (model X.prog X.w) X.A (exec st X.env) (SP X pins D) X.xe s
noncomputable def PSs (X:Cx) (st:List Stmt) (t:TS):Prop :=
 ∀ (pins:List (Addr × Obj)) (s:Shared) (σ:St) (H:Hp) (D:mQ),Inv X pins σ H s->t D σ H->wpAny (model X.prog X.w) X.A (execs st X.env) (SP X pins D) X.xe s
theorem thn {α:Type} {t:Sem α} {Q Q':α->Shared->Prop} {M:Model} {A:Around} {E:Value->Shared->Prop} {s:Shared} (h:wpAny M A t Q E s) (hQ:∀ a s,Q a s->Q' a s):wpAny M A t Q' E s:=wpAny_mono h hQ fun _ _ x=>x
end L2
namespace L2
open PySem PySem.Spec PyProof.Rows
section
variable {X:Cx}
noncomputable def aHj (i:Nat):TE:=fun σ H Q=>∃ v,σ[i]? = some (some v)/\Q v H
noncomputable def tC (v:V):TE:=fun _ H Q=>Q v H
theorem nF {i:Nat} {x:Str} {pos:Pos} (hN:X.N[i]? = some x) (hv:Vis X.env.scope x) (hd:(x == ("__debug__":Str)) = false:=by decide) (hcd:(x == ("__classdict__":Str)) = false:=by decide):PE X (.Name x pos) (aHj i):=by
 intro pins s σ H Q I h
 obtain ⟨v,e,h⟩:=h
 obtain ⟨m,hn,hl⟩:=I.loc
 obtain ⟨u,r,l⟩:=hl i x v hN e hv
 have fin:EP X pins σ Q u s:=⟨v,H,I,r,h⟩
 rcases l with ⟨hk,hm⟩ | ⟨hk,c,hc,hcell⟩
 ·exact wpAny_Name (wpAny_loadName_local I.ok.kind hk hn hm fin) hd
 ·rcases hk with hk | hk
  ·exact wpAny_Name (wpAny_loadName_cell I.ok.kind hk hc hcell fin) hd
  ·exact wpAny_Name (wpAny_loadName_free I.ok.kind hk hc hcell fin hcd) hd
theorem aFx {i j pos}:PE X (.Constant (.int i) j pos) (tC (.int i)):=fun _ _ _ H _ I h=>wpAny_Constant_int ⟨.int i,H,I.tok _,⟨_,rfl⟩,h⟩
theorem aGv {b j pos}:PE X (.Constant (.bool b) j pos) (tC (.bl b)):=fun _ _ _ H _ I h=>Constant_bool ⟨.bl b,H,I,rfl,h⟩
theorem aFA {j pos}:PE X (.Constant .none j pos) (tC .non):=fun _ _ _ H _ I h=>Constant_none ⟨.non,H,I,rfl,h⟩
theorem aDI {x j pos}:PE X (.Constant (.str x) j pos) (tC (.str x)):=fun _ _ _ H _ I h=>Calls.Constant_str ⟨.str x,H,I.tok _,⟨_,rfl⟩,h⟩
noncomputable def Gl (X:Cx) (x:Str):Prop:=X.env.kindOf x = some .globalImplicit
theorem iP {E:Value->Shared->Prop} {pins:List (Addr × Obj)} {s:Shared} {σ:St} {H:Hp} {x:Str} {u:Value} {pos:Pos} {Q:Value->Shared->Prop} (I:Inv X pins σ H s) (hg:Gl X x) (hm:X.mg x = some u) (h:Q u s)
  (hd:(x == ("__debug__":Str)) = false:=by decide):wpAny (model X.prog X.w) X.A (eval (.Name x pos) X.env) Q E s :=
 Calls.Name_function_global I.ok.kind hg (Calls.loadGlobal_global (by rw [I.ok.glob];exact I.mod.glob.keeps I.bk) hm h) hd
theorem pT {E:Value->Shared->Prop} {pins:List (Addr × Obj)} {s:Shared} {σ:St} {H:Hp} {x:Str} {u:Value} {pos:Pos} {Q:Value->Shared->Prop} (I:Inv X pins σ H s) (hg:Gl X x) (hm:X.mg x = none) (hv:bootBuiltins x = some u) (h:Q u s)
  (hn:x ≠ "__name__":=by decide) (hd:(x == ("__debug__":Str)) = false:=by decide):wpAny (model X.prog X.w) X.A (eval (.Name x pos) X.env) Q E s:=by
 obtain ⟨mb,h1,h2⟩:=I.mod.blt
 exact Calls.Name_function_global I.ok.kind hg (Calls.loadGlobal_builtin (by rw [I.ok.glob];exact I.mod.glob.keeps I.bk) hm (by rw [I.ok.blt];exact h1.keeps I.bk) ((h2 x hn).trans hv) h) hd
theorem xW {x:Str} {v:V} {u:Value} {pos:Pos} (hg:Gl X x) (hm:X.mg x = some u) (r:bF v u) (hd:(x == ("__debug__":Str)) = false:=by decide):PE X (.Name x pos) (tC v) :=
 fun _ _ _ H _ I h=>iP I hg hm ⟨v,H,I,r,h⟩ hd
theorem wQ {x:Str} {v:V} {u:Value} {pos:Pos} (hg:Gl X x) (hm:X.mg x = none) (hv:bootBuiltins x = some u) (r:bF v u) (hn:x ≠ "__name__":=by decide) (hd:(x == ("__debug__":Str)) = false:=by decide):PE X (.Name x pos) (tC v) :=
 fun _ _ _ H _ I h=>pT I hg hm hv ⟨v,H,I,r,h⟩ hn hd
variable {a b:Expr} {ta tb:TE} {pos:Pos}
noncomputable def tB (t:TE):TT:=fun σ H Q=>t σ H fun x H1=>∃ c,x = .bl c/\Q c H1
theorem aDB {e:Expr} {t:TE} (h:PE X e t) (he:∀ whole,isTrue e X.env whole = (do let v <- whole;standAt e.pos;holding [v] (truthy v)):=by intro _;rfl):PT X e (tB t):=by
 intro pins s σ H Q I hw
 refine isTrue_plain (thn (h pins s σ H _ I hw) fun v s1 ⟨x,H1,I1,r1,q1⟩=>?_) (he _)
 obtain ⟨d,rfl,q⟩:=q1
 cases r1
 exact wpAny_truthy_bool ⟨H1,I1,q⟩
variable {tA tB':TT} {cU:List Expr}
noncomputable def aHh (t u:TT):TT:=fun σ H Q=>t σ H fun c H1=>if c = true then u σ H1 Q else Q false H1
noncomputable def tOr (t u:TT):TT:=fun σ H Q=>t σ H fun c H1=>if c = true then Q true H1 else u σ H1 Q
noncomputable def aHf (t:TT):TT:=fun σ H Q=>t σ H fun c H1=>Q (!c) H1
theorem aCv (ha:PT X a tA):PW X (.BoolOp .And [a] pos) tA:=by
 intro wh pins s σ H Q I h
 refine isTrue_and (thn (ha pins s σ H Q I h) fun c s1 e=>?_)
 cases c with
 | true=>exact isTrue_and_nil e
 | false=>exact e
theorem aDK (ha:PT X a tA):PW X (.BoolOp .Or [a] pos) tA:=by
 intro wh pins s σ H Q I h
 refine isTrue_or (thn (ha pins s σ H Q I h) fun c s1 e=>?_)
 cases c with
 | false=>exact isTrue_or_nil e
 | true=>exact e
theorem aDJ (ha:PT X a tA) (hb:PW X (.BoolOp .And (b :: cU) pos) tB'):PW X (.BoolOp .And (a :: b :: cU) pos) (aHh tA tB'):=by
 intro wh pins s σ H Q I h
 refine isTrue_and (thn (ha pins s σ H _ I h) fun c s1 ⟨H1,I1,q1⟩=>?_)
 cases c with
 | true=>exact hb wh pins s1 σ H1 Q I1 q1
 | false=>exact ⟨H1,I1,q1⟩
theorem aFQ (ha:PT X a tA) (hb:PW X (.BoolOp .Or (b :: cU) pos) tB'):PW X (.BoolOp .Or (a :: b :: cU) pos) (tOr tA tB'):=by
 intro wh pins s σ H Q I h
 refine isTrue_or (thn (ha pins s σ H _ I h) fun c s1 ⟨H1,I1,q1⟩=>?_)
 cases c with
 | true=>exact ⟨H1,I1,q1⟩
 | false=>exact hb wh pins s1 σ H1 Q I1 q1
theorem aFy (ha:PT X a tA):PT X (.UnaryOp .Not a pos) (aHf tA):=by
 intro pins s σ H Q I h
 exact isTrue_not (ha pins s σ H (fun c H1=>Q (!c) H1) I h)
noncomputable def aGR (ta tb:TE):TE:=fun σ H Q=>ta σ H fun x H1=>∃ c,x = .bl c/\if c = true then tb σ H1 Q else Q (.bl false) H1
noncomputable def aHy (ta tb:TE):TE:=fun σ H Q=>ta σ H fun x H1=>∃ c,x = .bl c/\if c = true then Q (.bl true) H1 else tb σ H1 Q
noncomputable def aGQ (ta:TE):TE:=fun σ H Q=>ta σ H fun x H1=>∃ c,x = .bl c/\Q (.bl (!c)) H1
theorem aEr {op} {t:TE} (h:PE X a t):PE X (.BoolOp op [a] pos) t:=fun pins s σ H Q I hw=>BoolOp_one (h pins s σ H Q I hw)
theorem aE4 (ha:PE X a ta) (hb:PE X (.BoolOp .And (b :: cU) pos) tb):PE X (.BoolOp .And (a :: b :: cU) pos) (aGR ta tb):=by
 intro pins s σ H Q I h
 refine BoolOp_and (thn (ha pins s σ H _ I h) fun v s1 ⟨x,H1,I1,r1,q1⟩=>?_)
 obtain ⟨c,rfl,q1⟩:=q1
 cases r1
 refine wpAny_truthy_bool ?_
 cases c with
 | true=>exact hb pins s1 σ H1 Q I1 q1
 | false=>exact ⟨.bl false,H1,I1,rfl,q1⟩
theorem aGc (ha:PE X a ta) (hb:PE X (.BoolOp .Or (b :: cU) pos) tb):PE X (.BoolOp .Or (a :: b :: cU) pos) (aHy ta tb):=by
 intro pins s σ H Q I h
 refine BoolOp_or (thn (ha pins s σ H _ I h) fun v s1 ⟨x,H1,I1,r1,q1⟩=>?_)
 obtain ⟨c,rfl,q1⟩:=q1
 cases r1
 refine wpAny_truthy_bool ?_
 cases c with
 | false=>exact hb pins s1 σ H1 Q I1 q1
 | true=>exact ⟨.bl true,H1,I1,rfl,q1⟩
theorem aDG (ha:PE X a ta):PE X (.UnaryOp .Not a pos) (aGQ ta):=by
 intro pins s σ H Q I h
 refine UnaryOp_ (thn (ha pins s σ H _ I h) fun v s1 ⟨x,H1,I1,r1,q1⟩=>?_)
 obtain ⟨c,rfl,q1⟩:=q1
 cases r1
 exact not_of (wpAny_truthy_bool ⟨.bl (!c),H1,I1,rfl,q1⟩)
noncomputable def tIf (t:TT) (ta tb:TE):TE:=fun σ H Q=>t σ H fun c H1=>if c = true then ta σ H1 Q else tb σ H1 Q
theorem aAz {c:Expr} (hc:PT X c tA) (ha:PE X a ta) (hb:PE X b tb):PE X (.IfExp c a b pos) (tIf tA ta tb):=by
 intro pins s σ H Q I h
 refine wpAny_IfExp (thn (hc pins s σ H _ I h) fun d s1 ⟨H1,I1,q1⟩=>?_)
 cases d with
 | true=>exact ha pins s1 σ H1 Q I1 q1
 | false=>exact hb pins s1 σ H1 Q I1 q1
end
end L2
namespace L2
open PySem PySem.Spec PyProof.Rows
noncomputable def SqL (K:PySem.W.Frag) (H:Hp) (a:Addr) (xs:List V):Prop :=
 Rd H a (.lst xs) ∨
  ∃ (o:Obj) (its:Array Value) (n:Nat),K.lookup a = some o/\o.cls = .type "list"/\o.dict = none/\o.data = .seq its n/\its.size<=sizeLine/\bM xs its.toList
noncomputable def SqT (K:PySem.W.Frag) (H:Hp) (a:Addr) (xs:List V):Prop :=
 Rd H a (.tup xs) ∨
  ∃ (o:Obj) (its:Array Value) (n:Nat),K.lookup a = some o/\o.cls = .type "tuple"/\o.data = .seq its n/\its.size<=sizeLine/\bM xs its.toList
noncomputable def aHm:Value->Option V
 | .none=>some .non
 | .bool b=>some (.bl b)
 | .int i _=>some (.int i)
 | .str x _=>some (.str x)
 | .bytes b _=>some (.byt b)
 | .float b _=>some (.flt b)
 | .ref a=>some (.ref a)
 | .type n=>some (.ty n)
 | _=>none
theorem bF.abs {x:V} {u:Value} (r:bF x u):aHm u = some x:=by
 cases x with
 | non=>cases r;rfl
 | bl _=>cases r;rfl
 | int _=>obtain ⟨t,rfl⟩:=r;rfl
 | str _=>obtain ⟨t,rfl⟩:=r;rfl
 | byt _=>obtain ⟨t,rfl⟩:=r;rfl
 | flt _=>obtain ⟨t,rfl⟩:=r;rfl
 | ref _=>cases r;rfl
 | ty _=>cases r;rfl
theorem bF.inj {x y:V} {u:Value} (r:bF x u) (q:bF y u):x = y:=Option.some.inj (r.abs.symm.trans q.abs)
theorem bM.inj:∀ {xs ys:List V} {us:List Value},bM xs us->bM ys us->xs = ys
 | _,_,_,.nil,.nil=>rfl
 | _,_,_,.cons r t,.cons r' t'=>by rw [r.inj r',bM.inj t t']
section
variable {X:Cx} {pins:List (Addr × Obj)} {σ:St} {H:Hp} {s:Shared} {a:Addr} {xs ys:List V}
theorem SqL.of {K:PySem.W.Frag} (h:H a = some (.lst xs)):SqL K H a xs:=.inl (.inl h)
theorem SqT.of {K:PySem.W.Frag} (h:H a = some (.tup xs)):SqT K H a xs:=.inl (.inl h)
theorem Inv.list (I:Inv X pins σ H s) (h:SqL X.K H a xs):∃ its:List Value,bM xs its/\PlainL s.heap a its.toArray/\xs.length<=sizeLine:=by
 rcases h with h | ⟨o,its,n,hk,hc,hd,hs,hz,r⟩
 ·obtain ⟨z,its,n,r,e⟩:=h.ok I.hok
  exact ⟨its,r,⟨_,n,e,rfl,rfl,rfl⟩,z⟩
 ·refine ⟨its.toList,r,⟨o,n,I.kIn a o hk,hc,hd,by simpa using hs⟩,?_⟩
  have e:=r.length
  simp only [Array.length_toList] at e
  omega
theorem Inv.tuple (I:Inv X pins σ H s) (h:SqT X.K H a xs):∃ its:List Value,bM xs its/\IsTup s.heap a its.toArray/\xs.length<=sizeLine:=by
 rcases h with h | ⟨o,its,n,hk,hc,hs,hz,r⟩
 ·obtain ⟨z,its,r,p⟩:=h.ok I.hok
  exact ⟨its,r,p,z⟩
 ·refine ⟨its.toList,r,⟨o,I.kIn a o hk,hc,n,by simpa using hs⟩,?_⟩
  have e:=r.length
  simp only [Array.length_toList] at e
  omega
theorem Inv.list_inj (I:Inv X pins σ H s) (h:SqL X.K H a xs) (h':SqL X.K H a ys):xs = ys:=by
 obtain ⟨its,r,⟨o,n,e,_,_,d⟩,_⟩:=I.list h
 obtain ⟨its',r',⟨o',n',e',_,_,d'⟩,_⟩:=I.list h'
 rw [e] at e';cases e'
 rw [d] at d'
 injection d' with d1 _
 have:its = its':=by simpa using congrArg Array.toList d1
 subst this
 exact r.inj r'
theorem Inv.tuple_inj (I:Inv X pins σ H s) (h:SqT X.K H a xs) (h':SqT X.K H a ys):xs = ys:=by
 obtain ⟨its,r,⟨o,e,_,n,d⟩,_⟩:=I.tuple h
 obtain ⟨its',r',⟨o',e',_,n',d'⟩,_⟩:=I.tuple h'
 rw [e] at e';cases e'
 rw [d] at d'
 injection d' with d1 _
 have:its = its':=by simpa using congrArg Array.toList d1
 subst this
 exact r.inj r'
end
noncomputable abbrev Cx.wish (X:Cx) (E:Value->Shared->Prop):Cx:={ X with xe:=E }
noncomputable abbrev Cx.nox (X:Cx):Cx:=X.wish fun _ _=>False
theorem Cx.Ok.wish {X:Cx} (ok:X.Ok) (E:Value->Shared->Prop):(X.wish E).Ok :=
 ⟨ok.mod,ok.kind,ok.glob,ok.blt,ok.above,ok.inj,ok.has,ok.cab,ok.hd,ok.frames,ok.stk,ok.exf,ok.bs,ok.bsz,ok.noex,ok.exfs,ok.funs,ok.frf⟩
theorem Cx.Ok.unwish {X:Cx} {E:Value->Shared->Prop} (ok:(X.wish E).Ok):X.Ok :=
 ⟨ok.mod,ok.kind,ok.glob,ok.blt,ok.above,ok.inj,ok.has,ok.cab,ok.hd,ok.frames,ok.stk,ok.exf,ok.bs,ok.bsz,ok.noex,ok.exfs,ok.funs,ok.frf⟩
section
variable {X:Cx} {pins:List (Addr × Obj)} {σ:St} {H:Hp} {s:Shared} {E:Value->Shared->Prop}
theorem Inv.wish (I:Inv X pins σ H s) (E:Value->Shared->Prop):Inv (X.wish E) pins σ H s:=⟨I.ok.wish E,I.os,I.bare,I.base,I.loc,I.cell,I.free,I.freeC,I.pin,I.hok,I.len⟩
theorem Inv.unwish (I:Inv (X.wish E) pins σ H s):Inv X pins σ H s:=⟨I.ok.unwish,I.os,I.bare,I.base,I.loc,I.cell,I.free,I.freeC,I.pin,I.hok,I.len⟩
theorem SP.unwish {D:mQ} {f:Flow} {s':Shared} (h:SP (X.wish E) pins D f s'):SP X pins D f s':=by
 cases f with
 | next=>obtain ⟨σ',H',I,q⟩:=h;exact ⟨σ',H',I.unwish,q⟩
 | brk=>obtain ⟨σ',H',I,q⟩:=h;exact ⟨σ',H',I.unwish,q⟩
 | cont=>obtain ⟨σ',H',I,q⟩:=h;exact ⟨σ',H',I.unwish,q⟩
 | ret u=>obtain ⟨v,σ',H',I,r,q⟩:=h;exact ⟨v,σ',H',I.unwish,r,q⟩
theorem PSs.nox {st:List Stmt} {t:TS} (h:PSs X.nox st t):PSs X st t:=fun pins s σ H D I hw =>
 wpAny_mono (h pins s σ H D (I.wish _) hw) (fun _ _ q=>q.unwish) fun _ _ z=>False.elim z
end
section
variable {X:Cx} {st:Stmt} {cU:List Stmt} {t u:TS} {e:Expr} {te:TE} {pos:Pos}
noncomputable def aGC:TS:=fun D σ H=>D.nx σ H
noncomputable def aHk (t u:TS):TS:=fun D σ H=>t { D with nx:=u D } σ H
theorem aCU:PSs X [] aGC:=fun _ _ σ H _ I h=>wpAny_execs_nil ⟨σ,H,I,h⟩
theorem uC (h1:PS X st t) (h2:PSs X cU u):PSs X (st :: cU) (aHk t u):=by
 intro pins s σ H D I h
 refine wpAny_execs_cons (thn (h1 pins s σ H { D with nx:=u D } I h) fun f s1 q=>?_)
 cases f with
 | next =>
  obtain ⟨σ',H',I',q⟩:=q
  exact h2 pins s1 σ' H' D I' q
 | ret v=>exact q
 | brk=>exact q
 | cont=>exact q
theorem xK (h1:PS X st t):PSs X [st] t:=by
 intro pins s σ H D I h
 refine wpAny_execs_cons (thn (h1 pins s σ H D I h) fun f s1 q=>?_)
 cases f with
 | next=>exact wpAny_execs_nil q
 | ret v=>exact q
 | brk=>exact q
 | cont=>exact q
theorem Inv.quiet {pins:List (Addr × Obj)} {σ:St} {H:Hp} {s:Shared} (I:Inv X pins σ H s):interactive X.env = false:=by simp [interactive,I.ok.kind]
noncomputable def aG1 (te:TE):TS:=fun D σ H=>te σ H fun _ H1=>D.nx σ H1
theorem aCs (he:PE X e te) (hs:swapsWith e none pos.line X.env = pure false:=by rfl):PS X (.Expr e pos) (aG1 te):=by
 intro pins s σ H D I h
 exact wpAny_Expr_any (thn (he pins s σ H _ I h) fun v s1 ⟨x,H1,I1,r1,q1⟩=>⟨σ,H1,I1,q1⟩) I.quiet hs
noncomputable def aHw (te:TE):TS:=fun D σ H=>te σ H D.rt
theorem aFo (he:PE X e te):PS X (.Return (some e) pos) (aHw te):=by
 intro pins s σ H D I h
 exact wpAny_Return_some (thn (he pins s σ H _ I h) fun v s1 ⟨x,H1,I1,r1,q1⟩=>⟨x,σ,H1,I1,r1,q1⟩)
noncomputable def aHa (c:TT) (t u:TS):TS:=fun D σ H=>c σ H fun b H1=>if b = true then t D σ H1 else u D σ H1
theorem aFX {c:Expr} {a b:List Stmt} {tc:TT} (hc:PT X c tc) (ha:PSs X a t) (hb:PSs X b u):PS X (.If c a b pos) (aHa tc t u):=by
 intro pins s σ H D I h
 refine wpAny_If (thn (hc pins s σ H _ I h) fun d s1 ⟨H1,I1,q1⟩=>?_)
 cases d with
 | true=>exact ha pins s1 σ H1 D I1 q1
 | false=>exact hb pins s1 σ H1 D I1 q1
end
noncomputable abbrev TG:=V->St->Hp->(St->Hp->Prop)->Prop
noncomputable abbrev TGs:=List V->St->Hp->(St->Hp->Prop)->Prop
noncomputable def PG (X:Cx) (target:Expr) (t:TG):Prop :=
 ∀ (pins:List (Addr × Obj)) (s:Shared) (σ:St) (H:Hp) (v:V) (u:Value) (Q:St->Hp->Prop),Inv X pins σ H s->bF v u->t v σ H Q ->
  wpAny (model X.prog X.w) X.A (assign target X.env u) (fun _ s'=>∃ σ' H',Inv X pins σ' H' s'/\Q σ' H') X.xe s
noncomputable def PGs (X:Cx) (ts:List Expr) (t:TGs):Prop :=
 ∀ (pins:List (Addr × Obj)) (s:Shared) (σ:St) (H:Hp) (vs:List V) (us:List Value) (Q:St->Hp->Prop),Inv X pins σ H s->bM vs us->t vs σ H Q ->
  wpAny (model X.prog X.w) X.A (assignInOrder ((assignEach ts X.env).map (·.2)) us) (fun _ s'=>∃ σ' H',Inv X pins σ' H' s'/\Q σ' H') X.xe s
noncomputable abbrev TIp:=V->V->Hp->VK->Prop
noncomputable def PIp (X:Cx) (op:Operator) (t:TIp):Prop :=
 ∀ (pins:List (Addr × Obj)) (s:Shared) (σ:St) (H:Hp) (x y:V) (v u:Value) (Q:VK),Inv X pins σ H s->bF x v->bF y u->t x y H Q ->
  wpAny (model X.prog X.w) X.A (inplaceOp op v u) (EP X pins σ Q) X.xe s
section
variable {X:Cx} {pos:Pos}
noncomputable def aDh (i:Nat):TG:=fun v σ H Q=>Q (σ.set i (some v)) H
theorem aC8 {i:Nat} {x:Str} (hN:X.N.Nodup) (hi:X.N[i]? = some x) (hx:Loc X.env.scope x) (hf:X.fn x = true ∨ X.env.scope.names.lookup x = some .local:=by first | exact .inl rfl | exact .inr rfl | assumption):PG X (.Name x pos) (aDh i):=by
 intro pins s σ H v u Q I r h
 exact wpAny_assign_Name (iG I hN hi hx r (fun s' I'=>⟨_,H,I',h⟩) hf)
noncomputable def aHl:TGs:=fun vs σ H Q=>vs = []/\Q σ H
noncomputable def aGw (t:TG) (u:TGs):TGs:=fun vs σ H Q=>∃ v r,vs = v :: r/\t v σ H fun σ' H'=>u r σ' H' Q
theorem aB5:PGs X [] aHl:=by
 intro pins s σ H vs us Q I r h
 obtain ⟨e,h⟩:=h
 subst e
 cases r
 exact assignInOrder_nil ⟨σ,H,I,h⟩
theorem aBK {e:Expr} {es:List Expr} {t:TG} {u:TGs} (h1:PG X e t) (h2:PGs X es u)
  (hs:(assignEach (e :: es) X.env).map (·.2) = assign e X.env :: (assignEach es X.env).map (·.2):=by rfl):PGs X (e :: es) (aGw t u):=by
 intro pins s σ H vs us Q I r h
 obtain ⟨v,vr,e1,h⟩:=h
 subst e1
 cases r with
 | cons r rr =>
  rw [hs]
  refine assignInOrder_cons (thn (h1 pins s σ H _ _ _ I r h) fun _ s1 ⟨σ1,H1,I1,q1⟩=>?_)
  exact h2 pins s1 σ1 H1 _ _ Q I1 rr q1
noncomputable def aHp (K:PySem.W.Frag) (n:Nat) (t:TGs):TG:=fun v σ H Q=>∃ a xs,v = .ref a/\SqT K H a xs/\xs.length = n/\t xs σ H Q
theorem aE8 {es:List Expr} {k:Nat} {t:TGs} {n:Nat} (hc:X.calm = true) (h:PGs X es t)
  (hn:(assignEach es X.env).length = n:=by rfl) (hst:(assignEach es X.env).findIdx? (·.1) = none:=by rfl):PG X (.Tuple es k pos) (aHp X.K n t):=by
 intro pins s σ H v u Q I r hw
 obtain ⟨a,xs,e1,hq,hl,hw⟩:=hw
 subst e1
 cases r
 obtain ⟨its,rv,ht,hz⟩:=I.tuple hq
 refine assign_Tuple_tuple (I.ok.hd hc) ht (by simp [hn,<- hl,rv.length]) hst fun h' hx=>?_
 have I1:Inv X pins σ H { s with heap:=h' }:=I.kept (t':=s.toks) fun b o e=>hx b o (Nat.ne_of_lt (Heap.lt_size e)) e
 exact h pins _ σ H xs _ Q I1 (by simpa using rv) hw
noncomputable def aGf (te:TE) (g:TG):TS:=fun D σ H=>te σ H fun x H1=>g x σ H1 D.nx
theorem aDN {tg e:Expr} {te:TE} {g:TG} (he:PE X e te) (hg:PG X tg g) (hs:swapsWithSole [tg] e pos.line X.env = pure false:=by rfl) (hw:swappedStores [tg] e X.env = pure none:=by rfl)
  (h1:(assignEach [tg] X.env).map (·.2) = [assign tg X.env]:=by rfl):PS X (.Assign [tg] e pos) (aGf te g):=by
 intro pins s σ H D I h
 refine wpAny_Assign_stores (thn (he pins s σ H _ I h) fun v s1 ⟨x,H1,I1,r1,q1⟩=>?_) hs hw
 rw [h1]
 exact thn (hg pins s1 σ H1 x v _ I1 r1 q1) fun _ s2 q=>q
theorem aDQ {i:Nat} {x:Str} {e:Expr} {te:TE} {pos':Pos} (hN:X.N.Nodup) (hi:X.N[i]? = some x) (hx:Loc X.env.scope x) (he:PE X e te) (hs:swapsWith e (some (.Name x pos')) pos.line X.env = pure false:=by rfl) (hf:X.fn x = true ∨ X.env.scope.names.lookup x = some .local:=by first | exact .inl rfl | exact .inr rfl | assumption) :
  PS X (.Assign [.Name x pos'] e pos) (aGf te (aDh i)):=by
 intro pins s σ H D I h
 refine wpAny_Assign_Name (thn (he pins s σ H _ I h) fun v s1 ⟨y,H1,I1,r1,q1⟩=>?_) hs
 exact iG I1 hN hi hx r1 (fun s2 I2=>⟨_,H1,I2,q1⟩) hf
noncomputable def aHC (i j:Nat) (ta:TA):TS:=fun D σ H=>ta σ H fun vs H1=>∃ v w,vs = [v,w]/\D.nx ((σ.set i (some v)).set j (some w)) H1
theorem aDO {i j:Nat} {x y:Str} {a b:Expr} {ta:TA} {px py pt:Pos} {kt k2 pt2} (hc:X.calm = true) (hN:X.N.Nodup) (hi:X.N[i]? = some x) (hj:X.N[j]? = some y) (hij:i ≠ j)
  (hx:X.env.scope.names.lookup x = some .local) (hy:X.env.scope.names.lookup y = some .local) (ha:PA X [a,b] ta)
  (hw:swappedStores [.Tuple [.Name x px,.Name y py] kt pt] (.Tuple [a,b] k2 pt2) X.env = pure (some [x,y]))
  (hs:swapsWithSole [.Tuple [.Name x px,.Name y py] kt pt] (.Tuple [a,b] k2 pt2) pos.line X.env = pure false:=by rfl) :
  PS X (.Assign [.Tuple [.Name x px,.Name y py] kt pt] (.Tuple [a,b] k2 pt2) pos) (aHC i j ta):=by
 intro pins s σ H D I h
 rw [exec_Assign_arm]
 refine wpAny_bind (wpAny_standAt ?_)
 rw [hs]
 refine wpAny_bind (wpAny_pure ?_)
 rw [if_neg (by decide)]
 refine wpAny_bind (Tuple_ (thn (ha _ pins s σ H _ I h) fun us s1 ⟨vs,H1,I1,r1,q1⟩=>?_))
 obtain ⟨v,w,e1,q1⟩:=q1
 subst e1
 obtain ⟨u1,u2,rfl,rv,rw'⟩:∃ u1 u2,us = [u1,u2]/\bF v u1/\bF w u2:=by
  cases r1 with
  | cons p q =>
   cases q with
   | cons p' q' =>
    cases q'
    exact ⟨_,_,rfl,p,p'⟩
 refine wpAny_newObj_type ?_ (by show 2<=sizeLine;decide)
 have I2:Inv X pins σ H1 { s1 with heap:=s1.heap.push { cls:=.type "tuple",data:=.seq [u1,u2].toArray } }:=I1.kept (t':=s1.toks) fun b o e=>Heap.get?_push_of_some _ e
 rw [hw]
 refine wpAny_bind (wpAny_pure ?_)
 show wpAny (model X.prog X.w) X.A (do rule "assign.swapped-stores";let items <- unpackItems (.ref s1.heap.objs.size) 2 none;assignInOrder [fun v=>bindName X.env y v,fun v=>bindName X.env x v] items.reverse;pure Flow.next) _ _ _
 refine wpAny_bind (wpAny_rule (wpAny_bind (unpackItems_tuple (items:=#[u1,u2]) (I.ok.hd hc) (IsTup.new s1.heap _) fun h' hx'=>?_)))
 have I3:=I2.kept (h':=h') (t':=s1.toks) fun b o e=>hx' b o (Nat.ne_of_lt (Heap.lt_size e)) e
 show wpAny _ _ (assignInOrder [fun v=>bindName X.env y v,fun v=>bindName X.env x v] [u2,u1] >>= fun _=>pure Flow.next) _ _ _
 refine wpAny_bind (assignInOrder_cons (wpAny_bindName (iG I3 hN hj (.inl hy) rw' (fun s2 I4=>?_) (.inr hy))))
 refine assignInOrder_cons (wpAny_bindName (iG I4 hN hi (.inl hx) rv (fun s3 I5=>assignInOrder_nil (wpAny_pure ?_)) (.inr hx)))
 rw [List.set_comm _ _ (Ne.symm hij)] at I5
 exact ⟨_,H1,I5,q1⟩
noncomputable def aHc (i:Nat) (te:TE) (ti:TIp):TS:=fun D σ H=>∃ x,σ[i]? = some (some x)/\te σ H fun y H1=>ti x y H1 fun z H2=>D.nx (σ.set i (some z)) H2
theorem aEg {i:Nat} {x:Str} {e:Expr} {te:TE} {op:Operator} {ti:TIp} {pos':Pos} (hN:X.N.Nodup) (hi:X.N[i]? = some x) (hx:Loc X.env.scope x) (he:PE X e te) (ho:PIp X op ti) (hf:X.fn x = true ∨ X.env.scope.names.lookup x = some .local:=by first | exact .inl rfl | exact .inr rfl | assumption) :
  PS X (.AugAssign (.Name x pos') op e pos) (aHc i te ti):=by
 intro pins s σ H D I h
 obtain ⟨v,e1,h⟩:=h
 obtain ⟨m,hn,hl⟩:=I.loc
 have vis:Vis X.env.scope x:=by rcases hx with k | k;exact .inl k;exact .inr (.inl k)
 obtain ⟨u,r,l⟩:=hl i x v hi e1 vis
 refine wpAny_AugAssign_Name ?_
 have go:wpAny (model X.prog X.w) X.A (eval e X.env) (fun w s₂=>wpAny (model X.prog X.w) X.A (inplaceOp op u w) (fun r s₃=>wpAny (model X.prog X.w) X.A (storeName X.env x r) (fun _=>SP X pins D .next) X.xe s₃) X.xe s₂) X.xe s:=by
  refine thn (he pins s σ H _ I h) fun w s1 ⟨y,H1,I1,r1,q1⟩=>?_
  refine thn (ho pins s1 σ H1 v y u w _ I1 r r1 q1) fun z s2 ⟨zv,H2,I2,r2,q2⟩=>?_
  exact iG I2 hN hi hx r2 (fun s3 I3=>⟨_,H2,I3,q2⟩) hf
 rcases l with ⟨hk,hm⟩ | ⟨hk,c,hc,hcell⟩
 ·exact wpAny_loadName_local I.ok.kind hk hn hm go
 ·rcases hk with hk | hk
  ·exact wpAny_loadName_cell I.ok.kind hk hc hcell go
  ·rcases hx with k | k
   ·have:X.env.scope.names.lookup x = some .free:=hk
    rw [k] at this;cases this
   ·have:X.env.scope.names.lookup x = some .free:=hk
    rw [k] at this;cases this
noncomputable def ipI (f:Int->Int->Int):TIp:=fun x y H Q=>∃ i j,x = .int i/\y = .int j/\Q (.int (f i j)) H
theorem wB:PIp X .Add (ipI fun i j=>i + j):=by
 intro pins s σ H x y v u Q I r1 r2 h
 obtain ⟨i,j,e1,e2,q⟩:=h
 subst e1;subst e2
 obtain ⟨t,rfl⟩:=r1
 obtain ⟨t',rfl⟩:=r2
 exact iadd_int ⟨.int _,H,I.tok _,⟨_,rfl⟩,q⟩
end
section
variable {X:Cx} {pos:Pos}
noncomputable def aEp (c:TT) (tb:TS):TS:=fun D σ H=>∃ W:Nat->St->Hp->Prop,(∃ m,W m σ H)/\∀ m σ H,W m σ H ->
 c σ H fun b H1=>if b = true then ∃ N:St->Hp->Prop,(∀ σ' H',N σ' H'->∃ m',m' < m/\W m' σ' H')/\tb { D with nx:=N,ct:=N,bk:=D.nx } σ H1 else D.nx σ H1
theorem aAk {c:Expr} {body:List Stmt} {tc:TT} {tb:TS} (hp:PassesOwn (model X.prog X.w) X.A X.env X.xe) (hc:PT X c tc) (hb:PSs X body tb):PS X (.While c body [] pos) (aEp tc tb):=by
 intro pins s σ H D I h
 obtain ⟨W,⟨m0,w0⟩,turn⟩:=h
 refine wpAny_While (codeAny_whileLoop (fun n s'=>∃ σ' H',Inv X pins σ' H' s'/\W n σ' H') ?_ m0 ⟨σ,H,I,w0⟩)
 rintro n s1 ⟨σ1,H1,I1,w1⟩
 refine wpAny_passesOwn hp (thn (hc pins s1 σ1 H1 _ I1 (turn n σ1 H1 w1)) fun b s2 ⟨H2,I2,q2⟩=>?_)
 cases b with
 | true =>
  obtain ⟨N,hN,q2⟩:=q2
  rw [if_pos rfl]
  refine wpAny_passesOwn hp (thn (hb pins s2 σ1 H2 _ I2 q2) fun f s3 q3=>?_)
  cases f with
  | next =>
   obtain ⟨σ3,H3,I3,n3⟩:=q3
   obtain ⟨m',hm,w3⟩:=hN σ3 H3 n3
   exact ⟨m',hm,σ3,H3,I3,w3⟩
  | cont =>
   obtain ⟨σ3,H3,I3,n3⟩:=q3
   obtain ⟨m',hm,w3⟩:=hN σ3 H3 n3
   exact ⟨m',hm,σ3,H3,I3,w3⟩
  | brk=>exact q3
  | ret v=>exact q3
 | false =>
  rw [if_neg Bool.false_ne_true]
  exact wpAny_execs_nil ⟨σ1,H2,I2,q2⟩
end
structure It where
 go:Nat->Hp->Prop
 yld:Nat->Hp->V->Hp->Prop
 stop:Nat->Hp->Prop
noncomputable def uQ (X:Cx) (pins:List (Addr × Obj)) (H:Hp) (b:Addr):Prop :=
 H b = none/\b ≠ X.env.locals/\b ∉ X.fs/\(b ∈ X.ex ∨ X.s₀.heap.objs.size<=b)/\(∀ x c,X.env.cells.lookup x = some c->c ≠ b)/\∀ p ∈ X.pn ++ pins,p.1 ≠ b
theorem Inv.fpOk {X:Cx} {pins:List (Addr × Obj)} {σ:St} {H H':Hp} {s:Shared} {b:Addr} (I:Inv X pins σ H s) (hb:s.heap.objs.size<=b) (hn:H' b = none):uQ X pins H' b:=by
 refine ⟨hn,Nat.ne_of_gt (Nat.lt_of_lt_of_le I.lt hb),I.nofs hb,.inr (Nat.le_trans I.sz hb),fun x c e z=>?_,fun p hp z=>?_⟩
 ·obtain ⟨v,q⟩:=I.cell x c e
  exact absurd (Nat.lt_of_lt_of_le q.lt (by rw [z];exact hb)) (Nat.lt_irrefl _)
 ·exact absurd (Nat.lt_of_lt_of_le (Heap.lt_size (I.pin p hp).1) (by rw [z];exact hb)) (Nat.lt_irrefl _)
structure aCw (P:Program) (w:World) (K:PySem.W.Frag) (tg:Expr) (J:It) (fp:List Addr) (it:Addr) (tn:Nat->Heap->Prop):Prop where
 mem:it ∈ fp
 obj:∀ i h,tn i h->∀ b ∈ fp,∃ o,h.get? b = some o/\∀ v,o.data ≠ .cell v
 keep:∀ i h h',tn i h->(∀ b ∈ fp,∀ o,h.get? b = some o->h'.get? b = some o)->tn i h'
 item:∀ (X:Cx),X.prog = P->X.w = w->X.K = K->X.calm = true->∀ (i:Nat) (pins:List (Addr × Obj)) (s:Shared) (σ:St) (H:Hp) (E:Value->Shared->Prop),Inv X pins σ H s->(∀ b ∈ fp,uQ X pins H b)->tn i s.heap->J.go i H ->
  wpAny (model P w) X.A (pyNext (.ref it)) (fun r s1=>∃ u,r = some u /\
   wpAny (model P w) X.A (letOwnedTupleGo tg (.ref it) u) (fun _ s2=>∃ x H',Inv X pins σ H' s2/\bF x u/\J.yld i H x H'/\tn (i + 1) s2.heap/\∀ b ∈ fp,H' b = none) E s1) E s
 done:∀ (X:Cx),X.prog = P->X.w = w->X.K = K->X.calm = true->∀ (i:Nat) (pins:List (Addr × Obj)) (s:Shared) (σ:St) (H:Hp) (E:Value->Shared->Prop),Inv X pins σ H s->(∀ b ∈ fp,uQ X pins H b)->tn i s.heap->J.stop i H ->
  wpAny (model P w) X.A (pyNext (.ref it)) (fun r s1=>r = none/\Inv X pins σ H s1) E s
 self:∀ (A:Around) (i:Nat) (s:Shared) (Q:Value->Shared->Prop) (E:Value->Shared->Prop),tn i s.heap->Q (.ref it) s->wpAny (model P w) A (pyIter (.ref it)) Q E s
noncomputable abbrev TI:=St->Hp->(It->Hp->Prop)->Prop
noncomputable def PIE (X:Cx) (pins:List (Addr × Obj)) (σ:St) (tg:Expr) (R:It->Hp->Prop) (itv:Value) (s2:Shared):Prop :=
 ∃ (it:Addr) (fp:List Addr) (tn:Nat->Heap->Prop) (J:It) (H':Hp),itv = .ref it/\Inv X pins σ H' s2/\aCw X.prog X.w X.K tg J fp it tn/\tn 0 s2.heap/\(∀ b ∈ fp,uQ X pins H' b)/\R J H'
noncomputable def PI (X:Cx) (tg iter:Expr) (wi:TI):Prop :=
 ∀ (pins:List (Addr × Obj)) (s:Shared) (σ:St) (H:Hp) (R:It->Hp->Prop),Inv X pins σ H s->wi σ H R ->
  wpAny (model X.prog X.w) X.A (eval iter X.env) (fun v s1=>wpAny (model X.prog X.w) X.A (pyIter v) (PIE X pins σ tg R) X.xe s1) X.xe s
theorem aA7 {M:Model} {A:Around} {E:Value->Shared->Prop} {s:Shared} {tg:Expr} {it:Addr} {u:Value} {o:Obj} {n:String} {vs:Array Value} {Q:Unit->Shared->Prop} (ho:s.heap.get? it = some o) (hc:o.cls = .type n) (hd:o.data = .fields vs)
  (hn:["enumerate","zip","dict_itemiterator","dict_reverseitemiterator","odict_iterator","itertools.zip_longest","itertools.pairwise"].contains n = false) (hQ:Q () s):wpAny M A (letOwnedTupleGo tg (.ref it) u) Q E s:=by
 unfold letOwnedTupleGo
 cases tg<;>first
  | exact wpAny_pure hQ
  | (cases u<;>first
    | exact wpAny_pure hQ
    | (
      refine wpAny_bind (wpAny_load ho ?_)
      rw [hc,hd]
      show wpAny M A (if (["enumerate","zip","dict_itemiterator","dict_reverseitemiterator","odict_iterator","itertools.zip_longest","itertools.pairwise"].contains n && vs[0]? == some (rawInt _)) = true then _ else _) Q E s
      rw [if_neg (by intro h;rw [hn,Bool.false_and] at h;cases h)]
      exact wpAny_pure hQ))
noncomputable def Itl (K:PySem.W.Frag) (a:Addr):It :=
 ⟨fun i H=>∃ xs x,SqL K H a xs/\xs[i]? = some x,fun i H x H'=>H' = H/\∀ xs,SqL K H a xs->xs[i]? = some x,fun i H=>∃ xs,SqL K H a xs/\xs.length<=i⟩
noncomputable def Itt (K:PySem.W.Frag) (a:Addr):It :=
 ⟨fun i H=>∃ xs x,SqT K H a xs/\xs[i]? = some x,fun i H x H'=>H' = H/\∀ xs,SqT K H a xs->xs[i]? = some x,fun i H=>∃ xs,SqT K H a xs/\xs.length<=i⟩
noncomputable def Itr (lo:Int) (n:Nat):It:=⟨fun i _=>i < n,fun i H x H'=>H' = H/\x = .int (lo + i),fun i _=>n<=i⟩
theorem yN {P:Program} {w:World} {K:PySem.W.Frag} {tg:Expr} (a it:Addr):aCw P w K tg (Itl K a) [it] it (fun i h=>h.IsListIter it a i) where
 mem:=by simp
 obj:=fun i h st b hb=>by
  have e:b = it:=by simpa using hb
  subst e
  obtain ⟨o,e,c,d⟩:=st
  exact ⟨o,e,fun v z=>by rw [d] at z;cases z⟩
 keep:=fun i h h' st k=>st.at fun o e=>k it (by simp) o e
 item:=by
  intro X hP hw hK hc i pins s σ H E I hf st hg
  subst hP hw hK
  obtain ⟨xs,x,hq,hx⟩:=hg
  obtain ⟨its,rv,p,hz⟩:=I.list hq
  obtain ⟨u,hu,ru⟩:=rv.get hx
  obtain ⟨f0,f1,f2,f3,f4,f5⟩:=hf it (by simp)
  refine wpAny_pyNext_list_item st p.isList (x:=u) (by simpa using hu) fun h' st' sb=>?_
  have I1:Inv X pins σ H { s with heap:=h' }:=I.turned (t':=s.toks) (fun b o hb e=>(sb.2 b hb).trans e) f0 f1 f3 f4 f5
  obtain ⟨o,e,c,d⟩:=id st'
  exact ⟨u,rfl,aA7 (s:={ s with heap:=h' }) e c d (by decide) ⟨x,H,I1,ru,⟨rfl,fun ys hy=>by rw [I.list_inj hy hq];exact hx⟩,st',fun b hb=>(hf b hb).1⟩⟩
 done:=by
  intro X hP hw hK hc i pins s σ H E I hf st hg
  subst hP hw hK
  obtain ⟨xs,hq,hx⟩:=hg
  obtain ⟨its,rv,p,hz⟩:=I.list hq
  obtain ⟨f0,f1,f2,f3,f4,f5⟩:=hf it (by simp)
  have hl:=rv.length
  exact wpAny_pyNext_list_end (I.ok.hd hc) st p.isList (by simp;omega) fun h' eb=>⟨rfl,I.turned (t':=s.toks) (fun b o hb e=>eb b o hb e) f0 f1 f3 f4 f5⟩
 self:=fun _ _ _ _ _ st h=>wpAny_pyIter_listiter st h
theorem wK {P:Program} {w:World} {K:PySem.W.Frag} {tg:Expr} (a it:Addr):aCw P w K tg (Itt K a) [it] it (fun i h=>h.IsTupleIter it a i) where
 mem:=by simp
 obj:=fun i h st b hb=>by
  have e:b = it:=by simpa using hb
  subst e
  obtain ⟨o,e,c,d⟩:=st
  exact ⟨o,e,fun v z=>by rw [d] at z;cases z⟩
 keep:=fun i h h' st k=>st.at fun o e=>k it (by simp) o e
 item:=by
  intro X hP hw hK hc i pins s σ H E I hf st hg
  subst hP hw hK
  obtain ⟨xs,x,hq,hx⟩:=hg
  obtain ⟨its,rv,p,hz⟩:=I.tuple hq
  obtain ⟨u,hu,ru⟩:=rv.get hx
  obtain ⟨f0,f1,f2,f3,f4,f5⟩:=hf it (by simp)
  refine wpAny_pyNext_tuple_item st (show s.heap.IsTuple a its.toArray from p) (x:=u) (by simpa using hu) fun h' st' sb=>?_
  have I1:Inv X pins σ H { s with heap:=h' }:=I.turned (t':=s.toks) (fun b o hb e=>(sb.2 b hb).trans e) f0 f1 f3 f4 f5
  obtain ⟨o,e,c,d⟩:=id st'
  exact ⟨u,rfl,aA7 (s:={ s with heap:=h' }) e c d (by decide) ⟨x,H,I1,ru,⟨rfl,fun ys hy=>by rw [I.tuple_inj hy hq];exact hx⟩,st',fun b hb=>(hf b hb).1⟩⟩
 done:=by
  intro X hP hw hK hc i pins s σ H E I hf st hg
  subst hP hw hK
  obtain ⟨xs,hq,hx⟩:=hg
  obtain ⟨its,rv,p,hz⟩:=I.tuple hq
  obtain ⟨f0,f1,f2,f3,f4,f5⟩:=hf it (by simp)
  have hl:=rv.length
  exact wpAny_pyNext_tuple_end (I.ok.hd hc) st (show s.heap.IsTuple a its.toArray from p) (by simp;omega) fun h' eb=>⟨rfl,I.turned (t':=s.toks) (fun b o hb e=>eb b o hb e) f0 f1 f3 f4 f5⟩
 self:=fun _ _ _ _ _ st h=>wpAny_pyIter_tupleiter st h
theorem vR {P:Program} {w:World} {K:PySem.W.Frag} {tg:Expr} (it:Addr) (lo:Int) (n:Nat):aCw P w K tg (Itr lo n) [it] it (fun i h=>IsRangeIter h it (lo + (i:Nat) * 1) ((n:Int) - (i:Nat)) 1) where
 mem:=by simp
 obj:=fun i h st b hb=>by
  have e:b = it:=by simpa using hb
  subst e
  exact ⟨_,st,fun v z=>by
   have z':Data.fields _ = Data.cell v:=z
   cases z'⟩
 keep:=fun i h h' st k=>k it (by simp) _ st
 item:=by
  intro X hP hw hK hc i pins s σ H E I hf st hg
  subst hP hw hK
  obtain ⟨f0,f1,f2,f3,f4,f5⟩:=hf it (by simp)
  have W:=Walks.range (prog:=X.prog) (w:=X.w) (I.ok.hd hc) it lo 1 n
  refine W.item i s _ _ hg st fun v h' tk hv st' kk=>?_
  obtain ⟨t,rfl⟩:=hv
  have I1:Inv X pins σ H { s with heap:=h',toks:=tk }:=I.turned (fun b o hb e=>kk b o (by simpa using hb) e) f0 f1 f3 f4 f5
  refine ⟨_,rfl,aA7 (s:={ s with heap:=h',toks:=tk }) (n:="range_iterator") st' rfl rfl (by decide) ⟨.int (lo + i),H,I1,⟨t,?_⟩,⟨rfl,rfl⟩,st',fun b hb=>(hf b hb).1⟩⟩
  rw [Int.mul_one]
 done:=by
  intro X hP hw hK hc i pins s σ H E I hf st hg
  subst hP hw hK
  obtain ⟨f0,f1,f2,f3,f4,f5⟩:=hf it (by simp)
  exact wpAny_pyNext_range_end (I.ok.hd hc) st (by have:n<=i:=hg;omega) fun h' eb=>⟨rfl,I.turned (t':=s.toks) (fun b o hb e=>eb b o hb e) f0 f1 f3 f4 f5⟩
 self:=fun _ _ _ _ _ st h=>wpAny_pyIter_rangeiter st h
end L2
namespace L2
open PySem PySem.Spec PyProof.Rows
section
variable {X:Cx} {tg:Expr}
noncomputable def aF1 (K:PySem.W.Frag) (tl:TE):TI:=fun σ H R=>tl σ H fun x H1=>∃ a,x = .ref a/\(∃ xs,SqL K H1 a xs)/\R (Itl K a) H1
noncomputable def aHi (K:PySem.W.Frag) (tl:TE):TI:=fun σ H R=>tl σ H fun x H1=>∃ a,x = .ref a/\(∃ xs,SqT K H1 a xs)/\R (Itt K a) H1
theorem aCJ {l:Expr} {tl:TE} (hl:PE X l tl):PI X tg l (aF1 X.K tl):=by
 intro pins s σ H R I h
 refine thn (hl pins s σ H _ I h) fun v s1 ⟨x,H1,I1,r1,q1⟩=>?_
 obtain ⟨a,e,⟨xs,hq⟩,q⟩:=q1
 subst e
 cases r1
 obtain ⟨its,rv,p,hz⟩:=I1.list hq
 refine wpAny_pyIter_list p.isList ?_
 refine ⟨s1.heap.objs.size,[s1.heap.objs.size],_,_,H1,rfl,I1.kept (t':=s1.toks) fun b o e=>Heap.get?_push_of_some _ e,yN a _,⟨_,Heap.get?_push_size _ rfl,rfl,rfl⟩,fun b hb=>?_,q⟩
 have e:b = s1.heap.objs.size:=by simpa using hb
 subst e
 exact I1.fpOk (Nat.le_refl _) (I1.hok.fresh (Nat.le_refl _))
theorem zQ {l:Expr} {tl:TE} (hl:PE X l tl):PI X tg l (aHi X.K tl):=by
 intro pins s σ H R I h
 refine thn (hl pins s σ H _ I h) fun v s1 ⟨x,H1,I1,r1,q1⟩=>?_
 obtain ⟨a,e,⟨xs,hq⟩,q⟩:=q1
 subst e
 cases r1
 obtain ⟨its,rv,p,hz⟩:=I1.tuple hq
 refine wpAny_pyIter_tuple (show s1.heap.IsTuple a its.toArray from p) ?_
 refine ⟨s1.heap.objs.size,[s1.heap.objs.size],_,_,H1,rfl,I1.kept (t':=s1.toks) fun b o e=>Heap.get?_push_of_some _ e,wK a _,⟨_,Heap.get?_push_size _ rfl,rfl,rfl⟩,fun b hb=>?_,q⟩
 have e:b = s1.heap.objs.size:=by simpa using hb
 subst e
 exact I1.fpOk (Nat.le_refl _) (I1.hok.fresh (Nat.le_refl _))
theorem aAr {pins:List (Addr × Obj)} {σ:St} {H:Hp} {s:Shared} {R:It->Hp->Prop} {E:Value->Shared->Prop} {lo hi:Int} {t u v:Tok} {tk:Nat} (I:Inv X pins σ H s) (h1:-(2 ^ 62)<=lo) (h2:lo < 2 ^ 62) (h3:-(2 ^ 62)<=hi) (h4:hi < 2 ^ 62)
  (q:R (Itr lo (hi - lo).toNat) H):wpAny (model X.prog X.w) X.A (pyIter (.ref s.heap.objs.size)) (PIE X pins σ tg R) E { s with heap:=s.heap.push { cls:=.type "range",data:=.fields #[.int lo t,.int hi u,.int 1 v] },toks:=tk }:=by
 refine wpAny_pyIter_range (IsRange.new ..) (small_one h1 h2 h3 h4) ?_
 have I1:Inv X pins σ H { s with heap:=s.heap.push { cls:=.type "range",data:=.fields #[.int lo t,.int hi u,.int 1 v] },toks:=tk }:=I.kept fun b o e=>Heap.get?_push_of_some _ e
 refine ⟨(s.heap.push { cls:=.type "range",data:=.fields #[.int lo t,.int hi u,.int 1 v] }).objs.size,[(s.heap.push { cls:=.type "range",data:=.fields #[.int lo t,.int hi u,.int 1 v] }).objs.size],_,_,H,rfl,
  I1.kept (t':=tk) fun b o e=>Heap.get?_push_of_some _ e,vR _ lo (hi - lo).toNat,?_,fun b hb=>?_,q⟩
 ·have e1:lo + ((0:Nat):Int) * 1 = lo:=by simp
  have e2:(((hi - lo).toNat:Nat):Int) - ((0:Nat):Int) = Builtin.Range.rangeSize lo hi 1:=by rw [rangeSize_one];split<;>omega
  show IsRangeIter _ _ (lo + ((0:Nat):Int) * 1) ((((hi - lo).toNat:Nat):Int) - ((0:Nat):Int)) 1
  rw [e1,e2]
  exact Heap.get?_push_size _ rfl
 ·have e:b = (s.heap.push { cls:=.type "range",data:=.fields #[.int lo t,.int hi u,.int 1 v] }).objs.size:=by simpa using hb
  subst e
  exact I1.fpOk (Nat.le_refl _) (I1.hok.fresh (Nat.le_refl _))
noncomputable def aGo (ta:TA):TI:=fun σ H R=>ta σ H fun vs H1=>∃ j:Int,vs = [.int j]/\-(2 ^ 62)<=j/\j < 2 ^ 62/\R (Itr 0 j.toNat) H1
theorem yJ {a:Expr} {ta:TA} {p pos:Pos} (hg:Gl X "range") (hm:X.mg "range" = none) (ha:PA X [a] ta) (hs:starEach [a] X.env = [(false,eval a X.env)]:=by rfl):PI X tg (.Call (.Name "range" p) [a] [] pos) (aGo ta):=by
 intro pins s σ H R I h
 refine Call_ (pT I hg hm boot_range (PyProof.Rows.callWith_type1 (thn (ha pos pins s σ H _ I h) fun us s1 ⟨vs,H1,I1,r1,q1⟩=>?_) hs rfl))
 obtain ⟨j,e,q1,q2,q⟩:=q1
 subst e
 cases r1 with
 | cons r rr =>
  cases rr
  obtain ⟨t,rfl⟩:=r
  exact call_range_1 (aAr I1 (by omega) (by omega) q1 q2 (by simpa using q))
noncomputable def aHo (wi:TI) (g:TG) (tb:TS):TS:=fun D σ H=>wi σ H fun J H1=>∃ W:Nat->Nat->St->Hp->Prop,(∃ m,W 0 m σ H1)/\∀ i m σ H,W i m σ H ->
 (J.stop i H/\D.nx σ H) ∨ (J.go i H/\∃ N:St->Hp->Prop,(∀ σ' H',N σ' H'->∃ m',m' < m/\W (i + 1) m' σ' H')/\∀ x H',J.yld i H x H'->g x σ H' fun σ2 H2=>tb { D with nx:=N,ct:=N,bk:=D.nx } σ2 H2)
noncomputable def tP (fp:List Addr) (h:Heap):List (Addr × Obj):=fp.filterMap fun b=>(h.get? b).map fun o=>(b,o)
theorem jI {fp:List Addr} {h:Heap} {b:Addr} {o:Obj} (hb:b ∈ fp) (e:h.get? b = some o):(b,o) ∈ tP fp h:=List.mem_filterMap.mpr ⟨b,hb,by rw [e];rfl⟩
theorem yH {fp:List Addr} {h:Heap} {p:Addr × Obj} (hp:p ∈ tP fp h):p.1 ∈ fp/\h.get? p.1 = some p.2:=by
 obtain ⟨b,hb,e⟩:=List.mem_filterMap.mp hp
 cases q:h.get? b with
 | none=>rw [q] at e;cases e
 | some o =>
  rw [q] at e
  have e':(b,o) = p:=Option.some.inj e
  subst e'
  exact ⟨hb,q⟩
theorem Inv.pinned {pins:List (Addr × Obj)} {σ:St} {H:Hp} {s:Shared} {fp:List Addr} (I:Inv X pins σ H s) (hf:∀ b ∈ fp,uQ X pins H b) (ho:∀ b ∈ fp,∃ o,s.heap.get? b = some o/\∀ v,o.data ≠ .cell v):Inv X (pins ++ tP fp s.heap) σ H s :=
 I.pins_of fun p hp=>(List.mem_append.mp hp).elim (fun z=>I.pin p (List.mem_append_right _ z)) fun z=>by
  obtain ⟨hb,e⟩:=yH z
  obtain ⟨f0,f1,f2,_⟩:=hf p.1 hb
  obtain ⟨o,e',d⟩:=ho p.1 hb
  rw [e] at e';cases e'
  exact ⟨e,f0,f1,f2,d⟩
theorem Inv.unpinned {pins pl:List (Addr × Obj)} {σ:St} {H:Hp} {s:Shared} (I:Inv X (pins ++ pl) σ H s):Inv X pins σ H s:=I.pins_of fun p hp=>I.pin p (List.mem_append_right _ (List.mem_append_left _ hp))
theorem vX {iter:Expr} {body:List Stmt} {wi:TI} {g:TG} {tb:TS} {pos:Pos} (hp:PassesOwn (model X.prog X.w) X.A X.env X.xe) (hc:X.calm = true) (hi:PI X tg iter wi) (hg:PG X tg g) (hb:PSs X body tb)
  (hs:∀ x,foldedSetIterable iter X.env x = pure x:=by intro _;rfl):PS X (.For tg iter body [] pos) (aHo wi g tb):=by
 intro pins s σ H D I h
 refine wpAny_For (thn (hi pins s σ H _ I h) fun v s1 h1=>thn h1 fun itv s2 h2=>?_) hs
 obtain ⟨it,fp,tn,J,H2,e,I2,T,st2,f2,W,⟨m0,w0⟩,turn⟩:=h2
 subst e
 have stat:∀ {H':Hp},(∀ b ∈ fp,H' b = none)->∀ b ∈ fp,uQ X pins H' b:=fun hn b hb=>⟨hn b hb,(f2 b hb).2⟩
 refine codeAny_forLoop_any (fun n s'=>∃ i σ' H',Inv X pins σ' H' s'/\tn i s'.heap/\(∀ b ∈ fp,H' b = none)/\W i n σ' H') ?_ m0 ⟨0,σ,H2,I2,st2,fun b hb=>(f2 b hb).1,w0⟩
 rintro n s3 ⟨i,σ3,H3,I3,st3,fr3,w3⟩
 rcases turn i n σ3 H3 w3 with ⟨stop,qn⟩ | ⟨go,N,hN,step⟩
 ·refine wpAny_passesOwn hp (thn (T.done X rfl rfl rfl hc i pins s3 σ3 H3 X.xe I3 (stat fr3) st3 stop) fun r s4 ⟨hr,I4⟩=>?_)
  subst hr
  exact wpAny_execs_nil ⟨σ3,H3,I4,qn⟩
 ·refine wpAny_passesOwn hp (thn (T.item X rfl rfl rfl hc i pins s3 σ3 H3 X.xe I3 (stat fr3) st3 go) fun r s4 ⟨u,hr,h4⟩=>?_)
  subst hr
  refine wpAny_passesOwn hp (thn h4 fun _ s5 ⟨x,H5,I5,r5,y5,st5,fr5⟩=>?_)
  have I5':=I5.pinned (stat fr5) (T.obj _ _ st5)
  refine wpAny_passesOwn hp (thn (hg _ s5 σ3 H5 x u _ I5' r5 (step x H5 y5)) fun _ s6 ⟨σ6,H6,I6,q6⟩=>?_)
  refine wpAny_passesOwn hp (thn (hb _ s6 σ6 H6 _ I6 q6) fun f s7 q7=>?_)
  have again:∀ {σ7:St} {H7:Hp},Inv X (pins ++ tP fp s5.heap) σ7 H7 s7->N σ7 H7->∃ m,m < n/\∃ i σ' H',Inv X pins σ' H' s7/\tn i s7.heap/\(∀ b ∈ fp,H' b = none)/\W i m σ' H':=fun {σ7 H7} I7 n7=>by
   obtain ⟨m',hm,w7⟩:=hN σ7 H7 n7
   refine ⟨m',hm,i + 1,σ7,H7,I7.unpinned,T.keep _ _ _ st5 fun b hb o e=>(I7.pin (b,o) (List.mem_append_right _ (List.mem_append_right _ (jI hb e)))).1,fun b hb=>?_,w7⟩
   obtain ⟨o,e,d⟩:=T.obj _ _ st5 b hb
   exact (I7.pin (b,o) (List.mem_append_right _ (List.mem_append_right _ (jI hb e)))).2.1
  cases f with
  | next=>obtain ⟨σ7,H7,I7,n7⟩:=q7;exact again I7 n7
  | cont=>obtain ⟨σ7,H7,I7,n7⟩:=q7;exact again I7 n7
  | brk=>obtain ⟨σ7,H7,I7,q7⟩:=q7;exact ⟨σ7,H7,I7.unpinned,q7⟩
  | ret v=>obtain ⟨x7,σ7,H7,I7,r7,q7⟩:=q7;exact ⟨x7,σ7,H7,I7.unpinned,r7,q7⟩
end
end L2
namespace L2
open PySem PySem.Spec PyProof.Rows
noncomputable abbrev R2:=V->V->Hp->VK->Prop
noncomputable def OpR (X:Cx) (f:Value->Value->Sem Value) (r:R2):Prop :=
 ∀ (pins:List (Addr × Obj)) (s:Shared) (σ:St) (H:Hp) (x y:V) (v u:Value) (Q:VK),Inv X pins σ H s->bF x v->bF y u->r x y H Q ->
  wpAny (model X.prog X.w) X.A (f v u) (EP X pins σ Q) X.xe s
noncomputable def UnR (X:Cx) (f:Value->Sem Value) (r:V->Hp->VK->Prop):Prop :=
 ∀ (pins:List (Addr × Obj)) (s:Shared) (σ:St) (H:Hp) (x:V) (v:Value) (Q:VK),Inv X pins σ H s->bF x v->r x H Q ->
  wpAny (model X.prog X.w) X.A (f v) (EP X pins σ Q) X.xe s
noncomputable def gY (X:Cx) (f:Value) (r:List V->Hp->VK->Prop):Prop :=
 ∀ (pins:List (Addr × Obj)) (s:Shared) (σ:St) (H:Hp) (xs:List V) (us:List Value) (Q:VK),Inv X pins σ H s->bM xs us->r xs H Q ->
  wpAny (model X.prog X.w) X.A (call f us) (EP X pins σ Q) X.xe s
noncomputable def tOp (r:R2) (ta tb:TE):TE:=fun σ H Q=>ta σ H fun x H1=>tb σ H1 fun y H2=>r x y H2 Q
noncomputable def tUn (r:V->Hp->VK->Prop) (ta:TE):TE:=fun σ H Q=>ta σ H fun x H1=>r x H1 Q
noncomputable def rI (C:Int->Int->Prop) (g:Int->Int->V):R2:=fun x y H Q=>∃ i j,x = .int i/\y = .int j/\C i j/\Q (g i j) H
noncomputable def rI0 (g:Int->Int->V):R2:=fun x y H Q=>∃ i j,x = .int i/\y = .int j/\Q (g i j) H
noncomputable def rU (g:Int->V):V->Hp->VK->Prop:=fun x H Q=>∃ i,x = .int i/\Q (g i) H
section
variable {X:Cx} {a b c:Expr} {ta tb tc:TE} {pos:Pos}
theorem aEK (ha:PE X a ta) (hb:PE X b tb) {pins:List (Addr × Obj)} {s:Shared} {σ:St} {H:Hp} {R:V->V->Hp->Prop} (I:Inv X pins σ H s)
  (h:ta σ H fun x H1=>tb σ H1 fun y H2=>R x y H2) {Q:Value->Shared->Prop} {f:Value->Value->Sem Value}
  (hf:∀ v u s2 x y H2,Inv X pins σ H2 s2->bF x v->bF y u->R x y H2->wpAny (model X.prog X.w) X.A (f v u) Q X.xe s2) :
  wpAny (model X.prog X.w) X.A (eval a X.env) (fun v s₁=>wpAny (model X.prog X.w) X.A (eval b X.env) (fun u s₂=>wpAny (model X.prog X.w) X.A (f v u) Q X.xe s₂) X.xe s₁) X.xe s:=by
 refine thn (ha pins s σ H _ I h) fun v s1 ⟨x,H1,I1,r1,q1⟩=>?_
 refine thn (hb pins s1 σ H1 _ I1 q1) fun u s2 ⟨y,H2,I2,r2,q2⟩=>?_
 exact hf v u s2 x y H2 I2 r1 r2 q2
theorem aG3 {op:Operator} {r:R2} (ho:OpR X (binaryOp op) r) (ha:PE X a ta) (hb:PE X b tb):PE X (.BinOp a op b pos) (tOp r ta tb):=by
 intro pins s σ H Q I h
 exact wpAny_BinOp (aEK ha hb I h fun v u s2 x y H2 I2 rx ry q=>ho pins s2 σ H2 x y v u Q I2 rx ry q)
theorem aF2 {op:UnaryOp} {r:V->Hp->VK->Prop} (ho:UnR X (unaryOp op) r) (ha:PE X a ta):PE X (.UnaryOp op a pos) (tUn r ta):=by
 intro pins s σ H Q I h
 exact UnaryOp_ (thn (ha pins s σ H _ I h) fun v s1 ⟨x,H1,I1,r1,q1⟩=>ho pins s1 σ H1 x v Q I1 r1 q1)
theorem opI {f:Value->Value->Sem Value} {C:Int->Int->Prop} {g:Int->Int->Int}
  (rule:∀ (i j:Int) (t u:Tok) (s:Shared) (Q:Value->Shared->Prop) (E:Value->Shared->Prop),C i j->Q (.int (g i j) s.toks) { s with toks:=s.toks + 1 }->wpAny (model X.prog X.w) X.A (f (.int i t) (.int j u)) Q E s) :
  OpR X f (rI C fun i j=>.int (g i j)):=by
 intro pins s σ H x y v u Q I rx ry h
 obtain ⟨i,j,rfl,rfl,hc,q⟩:=h
 obtain ⟨t,rfl⟩:=rx
 obtain ⟨t',rfl⟩:=ry
 exact rule i j t t' s _ _ hc ⟨.int (g i j),H,I.tok _,⟨_,rfl⟩,q⟩
theorem aF4 {f:Value->Value->Sem Value} {g:Int->Int->Int}
  (rule:∀ (i j:Int) (t u:Tok) (s:Shared) (Q:Value->Shared->Prop) (E:Value->Shared->Prop),Q (.int (g i j) s.toks) { s with toks:=s.toks + 1 }->wpAny (model X.prog X.w) X.A (f (.int i t) (.int j u)) Q E s) :
  OpR X f (rI0 fun i j=>.int (g i j)):=by
 intro pins s σ H x y v u Q I rx ry h
 obtain ⟨i,j,rfl,rfl,q⟩:=h
 obtain ⟨t,rfl⟩:=rx
 obtain ⟨t',rfl⟩:=ry
 exact rule i j t t' s _ _ ⟨.int (g i j),H,I.tok _,⟨_,rfl⟩,q⟩
theorem aCm {f:Value->Value->Sem Value} {g:Int->Int->Bool}
  (rule:∀ (i j:Int) (t u:Tok) (s:Shared) (Q:Value->Shared->Prop) (E:Value->Shared->Prop),Q (.bool (g i j)) s->wpAny (model X.prog X.w) X.A (f (.int i t) (.int j u)) Q E s) :
  OpR X f (rI0 fun i j=>.bl (g i j)):=by
 intro pins s σ H x y v u Q I rx ry h
 obtain ⟨i,j,rfl,rfl,q⟩:=h
 obtain ⟨t,rfl⟩:=rx
 obtain ⟨t',rfl⟩:=ry
 exact rule i j t t' s _ _ ⟨.bl (g i j),H,I,rfl,q⟩
noncomputable def aGE (i j:Int):Prop:=0<=j/\j<=1000000/\i.natAbs < 2 ^ 64
theorem aDx:OpR X (binaryOp .Add) (rI0 fun i j=>.int (i + j)):=aF4 fun _ _ _ _ _ _ _ q=>add_int q
theorem aD5:OpR X (binaryOp .Sub) (rI0 fun i j=>.int (i - j)):=aF4 fun _ _ _ _ _ _ _ q=>sub_int q
theorem aCb:OpR X (binaryOp .Mod) (rI (fun _ j=>j ≠ 0) fun i j=>.int (i.fmod j)):=opI fun _ _ _ _ _ _ _ hc q=>mod_int' hc q
theorem aEs:OpR X (binaryOp .Pow) (rI aGE fun i j=>.int (i ^ j.toNat)):=opI fun _ _ _ _ _ _ _ hc q=>pow_int_small hc.1 hc.2.1 hc.2.2 q
theorem unI {f:Value->Sem Value} {g:Int->Int}
  (rule:∀ (i:Int) (t:Tok) (s:Shared) (Q:Value->Shared->Prop) (E:Value->Shared->Prop),Q (.int (g i) s.toks) { s with toks:=s.toks + 1 }->wpAny (model X.prog X.w) X.A (f (.int i t)) Q E s) :
  UnR X f (rU fun i=>.int (g i)):=by
 intro pins s σ H x v Q I rx h
 obtain ⟨i,rfl,q⟩:=h
 obtain ⟨t,rfl⟩:=rx
 exact rule i t s _ _ ⟨.int (g i),H,I.tok _,⟨_,rfl⟩,q⟩
theorem aFi:UnR X (unaryOp .USub) (rU fun i=>.int (-i)):=unI fun _ _ _ _ _ q=>neg_int q
end
section
variable {X:Cx} {a b c:Expr} {ta tb tc:TE} {pos:Pos}
theorem aGJ:OpR X (compareOp .Lt) (rI0 fun i j=>.bl (decide (i < j))):=aCm fun _ _ _ _ _ _ _ q=>lt_int q
theorem aGM:OpR X (compareOp .LtE) (rI0 fun i j=>.bl (decide (i<=j))):=aCm fun _ _ _ _ _ _ _ q=>le_int q
theorem aGD:OpR X (compareOp .Gt) (rI0 fun i j=>.bl (decide (j < i))):=aCm fun _ _ _ _ _ _ _ q=>gt_int q
theorem aGO:OpR X (compareOp .GtE) (rI0 fun i j=>.bl (decide (j<=i))):=aCm fun _ _ _ _ _ _ _ q=>ge_int q
theorem tH (b:Expr) {op:CmpOp} (h:op ≠ .In:=by decide) (h2:op ≠ .NotIn:=by decide):behindInMarks op b = false:=by
 have e1:(op == CmpOp.In) = false:=by cases op<;>first | rfl | exact absurd rfl h
 have e2:(op == CmpOp.NotIn) = false:=by cases op<;>first | rfl | exact absurd rfl h2
 cases b<;>simp [behindInMarks,e1,e2]
theorem xL {op:CmpOp} {r:R2} (ho:OpR X (compareOp op) r) (ha:PE X a ta) (hb:PE X b tb) (hm:behindInMarks op b = false):PE X (.Compare a [op] [b] pos) (tOp r ta tb):=by
 intro pins s σ H Q I h
 exact wpAny_Compare1 (aEK ha hb I h fun v u s2 x y H2 I2 rx ry q=>ho pins s2 σ H2 x y v u Q I2 rx ry q) hm
noncomputable def aGu (t:TE):TT:=fun σ H Q=>t σ H fun x H'=>∃ k,x = .bl k/\Q k H'
theorem aCi {op:CmpOp} {r:R2} (ho:OpR X (compareOp op) r) (ha:PE X a ta) (hb:PE X b tb) (hm:behindInMarks op b = false):PT X (.Compare a [op] [b] pos) (aGu (tOp r ta tb)):=by
 intro pins s σ H Q I h
 refine wpAny_isTrue_Compare1 (thn (ha pins s σ H _ I h) fun v s1 ⟨x,H1,I1,r1,q1⟩=>thn (hb pins s1 σ H1 _ I1 q1) fun u s2 ⟨y,H2,I2,r2,q2⟩ =>
  thn (ho pins s2 σ H2 x y v u _ I2 r1 r2 q2) fun c s3 ⟨z,H3,I3,r3,k,e,q3⟩=>?_) hm
 subst e
 cases r3
 exact wpAny_truthy_bool ⟨H3,I3,q3⟩
noncomputable def aAC (r r':R2) (ta tb tc:TE):TE:=fun σ H Q=>ta σ H fun x H1=>tb σ H1 fun y H2=>r x y H2 fun z H3=>∃ k,z = .bl k /\
 (if k = true then tc σ H3 fun w' H4=>r' y w' H4 Q else Q (.bl false) H3)
theorem aAj {op op':CmpOp} {r r':R2} (ho:OpR X (compareOp op) r) (ho':OpR X (compareOp op') r') (ha:PE X a ta) (hb:PE X b tb) (hc:PE X c tc)
  (hm:lastMarks [op,op'] [b,c] = false:=by with_unfolding_all rfl):PE X (.Compare a [op,op'] [b,c] pos) (aAC r r' ta tb tc):=by
 intro pins s σ H Q I h
 refine Compare_chain (thn (ha pins s σ H _ I h) fun v s1 ⟨x,H1,I1,r1,q1⟩=>chain_link (thn (hb pins s1 σ H1 _ I1 q1) fun u s2 ⟨y,H2,I2,r2,q2⟩ =>
  thn (ho pins s2 σ H2 x y v u _ I2 r1 r2 q2) fun d s3 ⟨z,H3,I3,r3,k,e,q3⟩=>?_)) hm
 subst e
 cases r3
 refine wpAny_truthy_bool ?_
 cases k with
 | false=>exact ite_ff ⟨.bl false,H3,I3,rfl,q3⟩
 | true=>exact ite_tt (chain_last (thn (hc pins s3 σ H3 _ I3 q3) fun w' s4 ⟨z',H4,I4,r4,q4⟩=>ho' pins s4 σ H4 y z' u w' Q I4 r2 r4 q4))
theorem vU:(sizeLine:Nat) < 2 ^ 63:=by rw [sizeLine_eq];decide
theorem rZ {x:V} {us:List Value} (r:bM [x] us):∃ u,us = [u]/\bF x u:=by
 cases r with
 | cons r1 r2=>cases r2;exact ⟨_,rfl,r1⟩
theorem aA9 {x y:V} {us:List Value} (r:bM [x,y] us):∃ u w',us = [u,w']/\bF x u/\bF y w':=by
 cases r with
 | cons r1 r2 =>
  cases r2 with
  | cons r3 r4=>cases r4;exact ⟨_,_,rfl,r1,r3⟩
theorem aAW:gY X (.builtin "abs") (fun xs H Q=>∃ i,xs = [.int i]/\Q (.int (if i < 0 then -i else i)) H):=by
 intro pins s σ H xs us Q I r h
 obtain ⟨i,rfl,q⟩:=h
 obtain ⟨u,rfl,t,rfl⟩:=rZ r
 exact call_abs_int fun u tk=>⟨.int (if i < 0 then -i else i),H,I.tok _,⟨_,rfl⟩,q⟩
theorem yW (hc:X.calm = true):gY X (.builtin "max") (fun xs H Q=>∃ i j,xs = [.int i,.int j]/\Q (.int (if j > i then j else i)) H):=by
 intro pins s σ H xs us Q I r h
 obtain ⟨i,j,rfl,q⟩:=h
 obtain ⟨u,w',rfl,⟨t,rfl⟩,⟨t',rfl⟩⟩:=aA9 r
 refine max_two_ints (I.ok.hd hc) fun h' tk k=>⟨_,H,I.kept k,?_,q⟩
 by_cases hj:j > i
 ·rw [if_pos hj,if_pos hj];exact ⟨_,rfl⟩
 ·rw [if_neg hj,if_neg hj];exact ⟨_,rfl⟩
theorem xZ (hc:X.calm = true):gY X (.builtin "min") (fun xs H Q=>∃ i j,xs = [.int i,.int j]/\Q (.int (if j < i then j else i)) H):=by
 intro pins s σ H xs us Q I r h
 obtain ⟨i,j,rfl,q⟩:=h
 obtain ⟨u,w',rfl,⟨t,rfl⟩,⟨t',rfl⟩⟩:=aA9 r
 refine min_two_ints (I.ok.hd hc) fun h' tk k=>⟨_,H,I.kept k,?_,q⟩
 by_cases hj:j < i
 ·rw [if_pos hj,if_pos hj];exact ⟨_,rfl⟩
 ·rw [if_neg hj,if_neg hj];exact ⟨_,rfl⟩
theorem yG:gY X (.type "int") (fun xs H Q=>(∃ i,xs = [.int i]/\Q (.int i) H) ∨ ∃ k,xs = [.bl k]/\Q (.int (if k then 1 else 0)) H):=by
 intro pins s σ H xs us Q I r h
 rcases h with ⟨i,rfl,q⟩ | ⟨k,rfl,q⟩
 ·obtain ⟨u,rfl,t,rfl⟩:=rZ r
  exact call_int_int ⟨.int i,H,I,⟨_,rfl⟩,q⟩
 ·obtain ⟨u,rfl,r1⟩:=rZ r
  cases r1
  exact call_int_bool ⟨.int (if k then 1 else 0),H,I.tok _,⟨_,rfl⟩,q⟩
end
end L2
namespace L2
open PySem PySem.Spec PyProof.Rows
structure aD9 (h:Heap) (x dx C:Addr) (mA:Str->Option Value):Prop where
 obj:h.get? x = some (PySem.W.instObj C dx)
 ns:h.Ns1 dx mA
 ne:dx ≠ x
theorem rK {h:Heap} {dx:Addr} {mA:Str->Option Value} (n:h.Ns1 dx mA):∃ od,h.get? dx = some od/\∀ name,PySem.W.lookIn name od = some (mA name):=by
 obtain ⟨o,es,ep,ho,hd,hk,_,hm⟩:=n
 refine ⟨o,ho,fun name=>?_⟩
 have e:=hm name
 unfold nsFind findBy at e
 rw [<- Array.find?_toList] at e
 unfold PySem.W.lookIn
 rw [hd]
 dsimp only
 split
 ·rename_i y q
  rw [q] at e
  exact congrArg some e
 ·rename_i q
  rw [q] at e
  have a:es.toList.any (·.refKey) = false:=by
   rw [List.any_eq_false]
   intro y hy
   obtain ⟨z,t,hkey⟩:=hk y (Array.mem_toList_iff.mp hy)
   simp [DictEntry.refKey,hkey]
  have a':¬ es.toList.any (·.refKey) = true:=by rw [a];exact Bool.false_ne_true
  rw [if_neg a']
  exact congrArg some e
theorem aD9.look {h:Heap} {x dx C:Addr} {mA:Str->Option Value} (I:aD9 h x dx C mA):∃ od,PySem.W.InstAt h x (PySem.W.instObj C dx) C (some od)/\∀ name,PySem.W.lookIn name od = some (mA name) :=
 let ⟨od,ho,hl⟩:=rK I.ns
 ⟨od,⟨I.obj,rfl,rfl,ho⟩,hl⟩
section
variable {prog:Program} {w:World} {A:Around} {E:Value->Shared->Prop} {s:Shared} {K:PySem.W.Frag} {x dx C f:Addr} {mA:Str->Option Value} {name:Str} {v:Value}
end
section
variable {P:Program} {w:World} {H H':Hp} {h h':Heap} {a C dx:Addr} {fs fs':List (Str × V)}
theorem aCD (hok:HOk P w H h) (e:H a = some (.ins C dx fs)):∃ mA,aD9 h a dx C mA/\(∀ f,aCl (fs.lookup f) (mA f))/\PySem.Within mA (fs.map (·.1))/\fs.length<=1000/\H dx = some (.own a):=by
 obtain ⟨d,z,ne,ob,mA,n,r,q⟩:=(show dM P w H h a (.ins C dx fs) from hok a _ e)
 exact ⟨mA,⟨ob,n,ne⟩,r,q,z,d⟩
end
structure Cls (K:PySem.W.Frag) (C:Addr):Prop where
 pg:PySem.W.plainGet K C Str.empty = true
 hd:PySem.W.hasDictIn K C = true
 po:PySem.W.plainOver K C = true
 sa:PySem.W.findIn K (.ref C) "__setattr__" = some (some (.builtin "object.__setattr__"))
theorem Cls.get {K:PySem.W.Frag} {C:Addr} (c:Cls K C) (f:Str):PySem.W.plainGet K C f = true:=c.pg
section
variable {X:Cx} {pins:List (Addr × Obj)} {σ:St} {H:Hp} {s:Shared} {a C dx:Addr} {fs:List (Str × V)} {f:Str} {v:V} {A:Around} {E:Value->Shared->Prop}
theorem aC0 {prog:Program} {w:World} {env:Env} {e:Expr} {f:Str} {pos:Pos} {s:Shared} {Q:Value->Shared->Prop} (hb:attributeBase e f env (eval e env) = eval e env)
  (h:wpAny (model prog w) A (eval e env) (fun o s₁=>wpAny (model prog w) A (getAttr o f true) Q E s₁) E s):wpAny (model prog w) A (eval (.Attribute e f pos) env) Q E s :=
 Attribute_any_ h (by rw [arm_eval_Attribute,hb])
end
section
variable {X:Cx} {o e value:Expr} {f:Str} {pos pos' tpos:Pos} {ta tv:TE}
end
section
variable {X:Cx} {pins:List (Addr × Obj)} {σ:St} {H:Hp} {s:Shared} {A:Around} {E:Value->Shared->Prop} {Q:Value->Shared->Prop} {c:Value} {b:Bool}
inductive oU (K:PySem.W.Frag) (H:Hp):V->Value->Prop where
 | non:oU K H .non (.type "NoneType")
 | bl (x:Bool):oU K H (.bl x) (.type "bool")
 | int (i:Int):oU K H (.int i) (.type "int")
 | str (x:Str):oU K H (.str x) (.type "str")
 | flt (x:UInt64):oU K H (.flt x) (.type "float")
 | lst {a:Addr} {xs:List V} (e:H a = some (.lst xs)):oU K H (.ref a) (.type "list")
 | frz {a:Addr} {o:Obj} {xs:List V} (e:H a = some (.frz o (.lst xs))):oU K H (.ref a) (.type "list")
 | tup {a:Addr} {xs:List V} (e:H a = some (.tup xs)):oU K H (.ref a) (.type "tuple")
 | dK {a:Addr} {kvs:List (Key × V)} (e:H a = some (.dK kvs)):oU K H (.ref a) (.type "dict")
 | dT {a:Addr} {kvs:List (List Key × V)} (e:H a = some (.dT kvs)):oU K H (.ref a) (.type "dict")
 | ins {a C dx:Addr} {fs:List (Str × V)} (e:H a = some (.ins C dx fs)) (cl:Cls K C) (ha:PySem.W.findIn K (.ref C) "__class__" = some (some (.builtin "object.__class__")))
   (hn:PySem.W.specialIn K (.builtin "object.__class__") "__get__" = some (some (.builtin "getset_descriptor.__get__"))) (htk:PySem.W.takesIn K (.builtin "object.__class__") = some true)
   (hm:PySem.W.mroIn K C (.type "object") = some true):oU K H (.ref a) (.ref C)
theorem iJ {x:V} {u t:Value} (I:Inv X pins σ H s) (rx:bF x u) (ty:oU X.K H x t) (e:PySem.W.kitOne X.K t c = some b) (h:∀ tk,Q (.bool b) { s with toks:=tk }) :
  wpAny (model X.prog X.w) A (call (.builtin "isinstance") [u,c]) Q E s:=by
 cases ty with
 | non=>cases (show u = Value.none from rx);exact PySem.W.kia_one PySem.W.kitx_none I.kIn True.intro e (fun z=>nomatch z) h
 | bl y=>cases (show u = Value.bool y from rx);exact PySem.W.kia_one PySem.W.kitx_bool I.kIn True.intro e (fun z=>nomatch z) h
 | int i=>obtain ⟨t,q⟩:=(show ∃ t,u = Value.int i t from rx);cases q;exact PySem.W.kia_one PySem.W.kitx_int I.kIn True.intro e (fun z=>nomatch z) h
 | str y=>obtain ⟨t,q⟩:=(show ∃ t,u = Value.str y t from rx);cases q;exact PySem.W.kia_one PySem.W.kitx_str I.kIn True.intro e (fun z=>nomatch z) h
 | flt y=>obtain ⟨t,q⟩:=(show ∃ t,u = Value.float y t from rx);cases q;exact PySem.W.kia_one PySem.W.kitx_float I.kIn True.intro e (fun z=>nomatch z) h
 | @lst a xs ea =>
  cases (show u = Value.ref a from rx)
  obtain ⟨_,_,n,_,h1⟩:=(show dM X.prog X.w H s.heap a (.lst xs) from I.hok a _ ea)
  exact PySem.W.kia_one PySem.W.kitx_list I.kIn ⟨_,h1,rfl⟩ e (fun z=>nomatch z) h
 | @frz a ob xs ea =>
  cases (show u = Value.ref a from rx)
  obtain ⟨_,_,_,n,_,h1⟩:=(show dM X.prog X.w H s.heap a (.frz ob (.lst xs)) from I.hok a _ ea)
  exact PySem.W.kia_one PySem.W.kitx_list I.kIn ⟨_,h1,rfl⟩ e (fun z=>nomatch z) h
 | @tup a xs ea =>
  cases (show u = Value.ref a from rx)
  obtain ⟨_,_,_,p⟩:=(show dM X.prog X.w H s.heap a (.tup xs) from I.hok a _ ea)
  obtain ⟨o,h1,h2,_⟩:=p
  exact PySem.W.kia_one PySem.W.kitx_tuple I.kIn ⟨o,h1,h2⟩ e (fun z=>nomatch z) h
 | @dK a kvs ea =>
  cases (show u = Value.ref a from rx)
  obtain ⟨_,_,vs,_,p⟩:=(show dM X.prog X.w H s.heap a (.dK kvs) from I.hok a _ ea)
  obtain ⟨o,es,ep,h1,h2,_⟩:=p
  exact PySem.W.kia_one PySem.W.kitx_dict I.kIn ⟨o,h1,h2.1⟩ e (fun z=>nomatch z) h
 | @dT a kvs ea =>
  cases (show u = Value.ref a from rx)
  obtain ⟨_,_,xs,_,o,es,ep,h1,h2,_⟩:=(show dM X.prog X.w H s.heap a (.dT kvs) from I.hok a _ ea)
  exact PySem.W.kia_one PySem.W.kitx_dict I.kIn ⟨o,h1,h2.1⟩ e (fun z=>nomatch z) h
 | @ins a C dx fs ea cl ha hn htk hm =>
  cases (show u = Value.ref a from rx)
  obtain ⟨mA,O,_⟩:=aCD I.hok ea
  obtain ⟨od,J,_⟩:=O.look
  exact PySem.W.kia_one (PySem.W.kitx_own (cl.get _) cl.hd ha hn htk hm) I.kIn J e (fun z=>nomatch z) h
end
end L2
namespace L2
open PySem PySem.Spec PyProof.Rows
structure dN (k:Nat) (A:Around):Prop where
 hd:A.handled = none
 dp:A.depth + 3 * k + 5 < recursionLimit
 un:A.units + 16 * k + 200 < cLine
theorem dN.mono {j k:Nat} {A:Around} (r:dN k A) (h:j<=k):dN j A:=⟨r.hd,by have:=r.dp;omega,by have:=r.un;omega⟩
theorem dN.deeper {k:Nat} {A:Around} (r:dN (k + 1) A) (env:Env):dN k (A.deeper env) :=
 ⟨r.hd,by have:=r.dp;show A.depth + 1 + 3 * k + 5 < _;omega,by have:=r.un;show A.units + 3 + 16 * k + 200 < _;omega⟩
theorem wA {A:Around} {C:Addr} {us:List Value} {kw:List (Str × Value)}:(A.under (.builtin "type.__call__" ⟨.ref C :: us,kw⟩)).depth = A.depth + 1:=by
 first | rfl | simp [Around.under,Code.weight,Code.isCreation,Code.isGuard,Code.isCaller,Code.frames,Code.isFrame,guardIds]
theorem vS {A:Around} {C:Addr} {us:List Value} {kw:List (Str × Value)}:(A.under (.builtin "type.__call__" ⟨.ref C :: us,kw⟩)).units = A.units + 1:=by
 first | rfl | simp [Around.under,Code.cUnits,Code.frames,Code.isFrame]
theorem dN.make {k:Nat} {A:Around} (r:dN (k + 1) A) (C:Addr) (us:List Value) (kw:List (Str × Value)):dN k (A.under (.builtin "type.__call__" ⟨.ref C :: us,kw⟩)) :=
 ⟨r.hd,by have:=r.dp;rw [wA];omega,by have:=r.un;rw [vS];omega⟩
theorem dN.depth {k:Nat} {A:Around} (r:dN k A):A.depth < recursionLimit:=by have:=r.dp;omega
noncomputable def aHe:TA:=fun _ H Q=>Q [] H
noncomputable def aGY (ta:TE) (tr:TA):TA:=fun σ H Q=>ta σ H fun x H1=>tr σ H1 fun xs H2=>Q (x :: xs) H2
section
variable {X:Cx} {e:Expr} {es:List Expr} {te:TE} {t:TA} {pos:Pos}
theorem sP:PA X [] aHe:=fun _ _ _ _ H Q I h=>Calls.spliced_nil ⟨[],H,I,.nil,h⟩
theorem iZ (ha:PE X e te) (hr:PA X es t) (hs:starEach (e :: es) X.env = (false,eval e X.env) :: starEach es X.env:=by rfl):PA X (e :: es) (aGY te t):=by
 intro pos pins s σ H Q I h
 rw [hs]
 show wpAny _ _ (spliced ((false,eval e X.env) :: backTo pos (starEach es X.env))) _ _ s
 refine Calls.spliced_cons (thn (ha pins s σ H _ I h) fun u s1 ⟨x,H1,I1,r1,q1⟩=>?_)
 exact thn (hr pos pins s1 σ H1 _ I1 q1) fun us s2 ⟨xs,H2,I2,r2,q2⟩=>⟨x :: xs,H2,I2,.cons r1 r2,q2⟩
noncomputable def aHA (t:TA):TE:=fun σ H Q=>t σ H fun xs H1=>xs.length<=sizeLine/\∀ p,H1 p = none->Q (.ref p) (upd H1 p (.tup xs))
noncomputable def aHB (t:TA):TE:=fun σ H Q=>t σ H fun xs H1=>xs.length<=sizeLine/\∀ p,H1 p = none->Q (.ref p) (upd H1 p (.lst xs))
theorem aFe {x1} (h:PA X es t):PE X (.Tuple es x1 pos) (aHA t):=by
 intro pins s σ H Q I hq
 refine wpAny_Tuple_spliced (thn (h pos pins s σ H _ I hq) fun us s1 ⟨xs,H1,I1,r,z,q⟩=>⟨by rw [<- r.length];exact z,?_⟩)
 have hf:H1 s1.heap.objs.size = none:=I1.hok.fresh (Nat.le_refl _)
 refine ⟨.ref s1.heap.objs.size,upd H1 s1.heap.objs.size (.tup xs),I1.laid (t':=s1.toks) (fun b u e=>Heap.get?_push_of_some _ e) (Nat.le_refl _) ?_,rfl,q _ hf⟩
 exact ⟨z,us,r,⟨_,Heap.get?_push_size _ rfl,rfl,_,rfl⟩⟩
theorem aEL (h:PA X es t):PE X (.List es pos) (aHB t):=by
 intro pins s σ H Q I hq
 refine wpAny_List_spliced (thn (h pos pins s σ H _ I hq) fun us s1 ⟨xs,H1,I1,r,z,q⟩=>⟨by rw [<- r.length];exact z,?_⟩)
 have hf:H1 s1.heap.objs.size = none:=I1.hok.fresh (Nat.le_refl _)
 refine ⟨.ref s1.heap.objs.size,upd H1 s1.heap.objs.size (.lst xs),I1.laid (t':=s1.toks) (fun b u e=>Heap.get?_push_of_some _ e) (Nat.le_refl _) ?_,rfl,q _ hf⟩
 exact ⟨z,us,0,r,Heap.get?_push_size _ rfl⟩
end
noncomputable abbrev Sp:=List V->Hp->VK->XK->Prop
noncomputable abbrev CXT:=List Env->Hp->Shared->XK->Value->Shared->Prop
structure vV (P:Program) (w:World) (K:PySem.W.Frag) (mg:Str->Option Value) (base:Heap) (A:Around) (outer:List Env) (s:Shared) (H:Hp):Prop where
 frames:A.frames = some outer
 mod:Mod K mg base
 bs:∀ b o,base.get? b = some o->s.heap.get? b = some o/\H b = none
 bsz:base.objs.size<=s.heap.objs.size
 funs:s.heap.FunFrames base outer
 frf:∀ b ∈ frs outer,H b = none
 hok:HOk P w H s.heap
 bare:AllBare s.gens
noncomputable def CE (outer:List Env) (P:Program) (w:World) (H:Hp) (s:Shared) (Q:VK) (u:Value) (s':Shared):Prop :=
 ∃ v H',s'.os = s.os/\AllBare s'.gens/\Un (frs outer) [] H H' s.heap s'.heap/\HOk P w H' s'.heap/\bF v u/\Q v H'
noncomputable def CR (CX:CXT) (outer:List Env) (P:Program) (w:World) (H:Hp) (s:Shared) (Q:VK) (E:XK) (r:Result) (s':Shared):Prop :=
 match r with
 | .ok (.ret u)=>CE outer P w H s Q u s'
 | .ok _=>False
 | .error e=>CX outer H s E e s'
structure jD (P:Program) (w:World) (K:PySem.W.Frag) (mg:Str->Option Value) (base:Heap) (CX:CXT) (k:Nat) (f:Addr) (fd:FuncData) (ps:List Str) (sp:Sp):Prop where
 len:∀ vs H Q E,sp vs H Q E->vs.length = ps.length
 run:∀ (A:Around) (outer:List Env) (s:Shared) (H:Hp) (args:Args) (us:List Value) (vs:List V) (Q:VK) (E:XK),dN k A->vV P w K mg base A outer s H->BindsTo s fd args (ps.zip us)->bM vs us->sp vs H Q E ->
  codeAny (model P w) A (.call (.ref f) args) (CR CX outer P w H s Q E) s
theorem jD.imp {P:Program} {w:World} {K:PySem.W.Frag} {mg:Str->Option Value} {base:Heap} {CX:CXT} {k:Nat} {f:Addr} {fd:FuncData} {ps:List Str} {sp sp':Sp} (F:jD P w K mg base CX k f fd ps sp)
  (h:∀ vs H Q E,sp' vs H Q E->sp vs H Q E):jD P w K mg base CX k f fd ps sp' :=
 ⟨fun vs H Q E q=>F.len vs H Q E (h _ _ _ _ q),fun A outer s H args us vs Q E hr he hb hv hs=>F.run A outer s H args us vs Q E hr he hb hv (h _ _ _ _ hs)⟩
theorem vV.make {P:Program} {w:World} {K:PySem.W.Frag} {mg:Str->Option Value} {base:Heap} {A:Around} {outer:List Env} {s:Shared} {H:Hp} (e:vV P w K mg base A outer s H) (C:Addr) (us:List Value) (kw:List (Str × Value)) :
  vV P w K mg base (A.under (.builtin "type.__call__" ⟨.ref C :: us,kw⟩)) outer s H:=⟨by first | exact e.frames | (simpa [Around.under,Code.envs,Code.isFrame,pushEnvs] using e.frames),e.mod,e.bs,e.bsz,e.funs,e.frf,e.hok,e.bare⟩
section
variable {X:Cx} {pins:List (Addr × Obj)} {σ:St} {H:Hp} {s s':Shared}
theorem Inv.env0 (I:Inv X pins σ H s):vV X.prog X.w X.K X.mg X.base X.A X.stack s H :=
 ⟨I.ok.frames,I.ok.mod,I.bs,Nat.le_trans I.ok.bsz I.sz,I.stack,I.stkFree,I.hok,I.bare⟩
theorem Inv.after {Q:VK} {u:Value} (I:Inv X pins σ H s) (h:CE X.stack X.prog X.w H s Q u s'):EP X pins σ Q u s':=by
 obtain ⟨v,H',os,bare,un,hok,r,q⟩:=h
 obtain ⟨hh,g,d,t,os'⟩:=s'
 obtain rfl:os' = s.os:=os
 exact ⟨v,H',I.call (h':=hh) (g':=g) (d':=d) (t':=t) (ch:=[]) un hok bare (fun b z=>absurd z (by simp)),r,q⟩
end
noncomputable def aG4 (sp:Sp) (dvs:List V) (E:XK) (t:TA):TE:=fun σ H Q=>t σ H fun vs H1=>sp (vs ++ dvs) H1 Q E
noncomputable def lE (K:PySem.W.Frag) (fd:FuncData) (ps:List Str) (ds:List Value):Prop :=
 ∀ (s:Shared) (us:List Value),K.In s.heap->(us ++ ds).length = ps.length->BindsTo s fd ⟨us,[]⟩ (ps.zip (us ++ ds))
theorem lE.all {K:PySem.W.Frag} {fd:FuncData} {ps:List Str} (h:∀ us:List Value,us.length = ps.length->bindArgs fd ⟨us,[]⟩ = pure (ps.zip us)):lE K fd ps []:=fun s us _ hl=>by
 rw [List.append_nil] at hl ⊢
 exact .of_eq (h us hl)
noncomputable def sS (CX:CXT) (X:Cx) (E:XK):Prop:=∀ (pins:List (Addr × Obj)) (σ:St) (H:Hp) (s:Shared) (e:Value) (s':Shared),Inv X pins σ H s->CX X.stack H s E e s'->X.xe e s'
section
variable {X:Cx} {CX:CXT} {k:Nat} {f C:Addr} {fd:FuncData} {ps:List Str} {sp:Sp} {dvs:List V} {ds:List Value} {E:XK} {x m:Str} {p pos apos:Pos} {e o:Expr} {es:List Expr} {ta:TE} {t:TA}
theorem aEE {pins:List (Addr × Obj)} {σ:St} {H:Hp} {s:Shared} {Q:VK} {us:List Value} {vs:List V} (F:jD X.prog X.w X.K X.mg X.base CX k f fd ps sp) (hr:dN k X.A) (hb:lE X.K fd ps ds) (hd:bM dvs ds) (hx:sS CX X E)
  (I:Inv X pins σ H s) (r:bM vs us) (h:sp (vs ++ dvs) H Q E):wpAny (model X.prog X.w) X.A (call (.ref f) us) (EP X pins σ Q) X.xe s:=by
 have r2:bM (vs ++ dvs) (us ++ ds):=r.append hd
 have hl:(us ++ ds).length = ps.length:=by rw [<- r2.length];exact F.len _ _ _ _ h
 refine wpAny_call (codeAny_mono (F.run X.A X.stack s H ⟨us,[]⟩ (us ++ ds) (vs ++ dvs) Q E hr I.env0 (hb s us I.kIn hl) r2 h) fun r s' hq=>?_)
 cases r with
 | error e=>exact hx pins σ H s e s' I hq
 | ok fl =>
  cases fl with
  | ret u=>exact I.after hq
  | next=>exact False.elim hq
  | brk=>exact False.elim hq
  | cont=>exact False.elim hq
theorem aCV (F:jD X.prog X.w X.K X.mg X.base CX k f fd ps sp) (hr:dN k X.A) (hg:Gl X x) (hm:X.mg x = some (.ref f)) (hk:PySem.W.keepIn X.K (.ref f) = true) (hb:lE X.K fd ps ds) (hd:bM dvs ds) (hx:sS CX X E)
  (ha:PA X (e :: es) t) (hdb:(x == ("__debug__":Str)) = false:=by decide) (he:starEach (e :: es) X.env = (false,eval e X.env) :: starEach es X.env:=by rfl) (hpl:(backTo pos (starEach es X.env)).any (·.1) = false:=by rfl) :
  PE X (.Call (.Name x p) (e :: es) [] pos) (aG4 sp dvs E t):=by
 intro pins s σ H Q I h
 refine wpAny_Call_Name_kw (iP I hg hm ?_ hdb)
 refine PySem.W.callWith_K (h₀:=X.base) I.ok.mod.kin hk (thn (ha pos pins s σ H _ I h) fun us s1 ⟨vs,H1,I1,r,q⟩=>⟨I1.kIn,?_⟩) he hpl
 exact aEE F hr hb hd hx I1 r q
end
section
variable {X:Cx} {CX:CXT} {k:Nat} {f C:Addr} {fd:FuncData} {ps ks:List Str} {sp:Sp} {E:XK} {x m:Str} {p pos apos kpos:Pos} {e o:Expr} {es:List Expr} {kws:List Keyword} {te ta:TE} {t tk:TA} {nm:Option Str}
variable {g:List Value->List Value->List Value} {gV:List V->List V->List V}
end
structure aT (N P:List Str) (sc:Scope):Prop where
 kind:sc.kind = .function
 co:sc.isCoroutine = false
 gen:sc.isGenerator = false
 nd:N.Nodup
 pre:N.take P.length = P
 par:∀ x ∈ P,sc.names.lookup x = some .local ∨ sc.names.lookup x = some .cell
 nofree:∀ y ∈ sc.names,y.2 ≠ .free
theorem rQ {kindOf:Str->Option NameKind} {x:Str}:∀ {binds:List (Str × Value)} {m:Str->Option Value},(∀ v,(x,v) ∉ binds)->bindL kindOf binds m x = m x
 | [],_,_=>rfl
 | (n,v) :: r,m,h=>by
  unfold bindL
  rw [rQ fun w hw=>h w (List.mem_cons_of_mem _ hw)]
  split
  ·have:x ≠ n:=by rintro rfl;exact h v List.mem_cons_self
   simp [this]
  ·rfl
theorem rX {kindOf:Str->Option NameKind} {x:Str}:∀ {binds:List (Str × Value)} {m:Str->Option Value},(∀ v,(x,v) ∉ binds)->bindC kindOf binds m x = m x
 | [],_,_=>rfl
 | (n,v) :: r,m,h=>by
  unfold bindC
  rw [rX fun w hw=>h w (List.mem_cons_of_mem _ hw)]
  split
  ·rfl
  ·have:x ≠ n:=by rintro rfl;exact h v List.mem_cons_self
   simp [this]
theorem sD {kindOf:Str->Option NameKind} {x:Str} {v:Value}:∀ {P:List Str} {vs:List Value} {i:Nat} {m:Str->Option Value},P.Nodup->P[i]? = some x->vs[i]? = some v->kindOf x = some .local ->
  bindL kindOf (P.zip vs) m x = some v
 | [],_,_,_,_,h,_,_=>by simp at h
 | _ :: _,[],_,_,_,_,h,_=>by simp at h
 | p :: P,w :: vs,0,m,nd,h1,h2,hk=>by
  simp at h1 h2;subst h1;subst h2
  show bindL kindOf ((p,w) :: P.zip vs) m p = _
  unfold bindL
  rw [rQ fun v hv=>(List.nodup_cons.mp nd).1 (List.of_mem_zip hv).1,if_pos hk]
  simp
 | p :: P,w :: vs,i + 1,m,nd,h1,h2,hk=>by
  show bindL kindOf ((p,w) :: P.zip vs) m x = _
  unfold bindL
  exact sD (i:=i) (List.nodup_cons.mp nd).2 (by simpa using h1) (by simpa using h2) hk
theorem rM {kindOf:Str->Option NameKind} {x:Str} {v:Value}:∀ {P:List Str} {vs:List Value} {i:Nat} {m:Str->Option Value},P.Nodup->P[i]? = some x->vs[i]? = some v->kindOf x ≠ some .local ->
  bindC kindOf (P.zip vs) m x = some v
 | [],_,_,_,_,h,_,_=>by simp at h
 | _ :: _,[],_,_,_,_,h,_=>by simp at h
 | p :: P,w :: vs,0,m,nd,h1,h2,hk=>by
  simp at h1 h2;subst h1;subst h2
  show bindC kindOf ((p,w) :: P.zip vs) m p = _
  unfold bindC
  rw [rX fun v hv=>(List.nodup_cons.mp nd).1 (List.of_mem_zip hv).1,if_neg hk]
  simp
 | p :: P,w :: vs,i + 1,m,nd,h1,h2,hk=>by
  show bindC kindOf ((p,w) :: P.zip vs) m x = _
  unfold bindC
  exact rM (i:=i) (List.nodup_cons.mp nd).2 (by simpa using h1) (by simpa using h2) hk
noncomputable def start (N:List Str) (vs:List V):St:=vs.map some ++ List.replicate (N.length - vs.length) none
noncomputable def jR (CX:CXT) (P:Program) (w:World) (K:PySem.W.Frag) (mg:Str->Option Value) (base:Heap) (N:List Str) (qual:Str) (scope:Scope) (f:Addr) (cd:Value) (A:Around) (outer:List Env) (s:Shared) (H:Hp) (E:XK):Cx where
 prog:=P
 w:=w
 K:=K
 mg:=mg
 base:=base
 A:=A.deeper (envOfC qual scope s.heap.objs.size f cd)
 N:=N
 s₀:=s
 H₀:=H
 env:=envOfC qual scope s.heap.objs.size f cd
 outer:=outer
 stack:=envOfC qual scope s.heap.objs.size f cd :: outer
 ex:=[]
 calm:=true
 fn:=fun _=>true
 pn:=[]
 xe:=fun e s'=>wpAny (model P w) (A.deeper (envOfC qual scope s.heap.objs.size f cd)) (leaving (envOfC qual scope s.heap.objs.size f cd) e) (fun _ s''=>CX outer H s E e s'') (fun e' s''=>CX outer H s E e' s'') s'
theorem uK {sc:Scope} {n:Nat} {x:Str} (h:sc.names.lookup x = some .cell):∃ c,(cellsFrom n sc.names []).lookup x = some c:=by
 have q:=PySem.W.cellsFrom_some sc.names n [] (.inl h)
 exact Option.isSome_iff_exists.mp q
theorem yD {CX:CXT} {P:Program} {w:World} {K:PySem.W.Frag} {mg:Str->Option Value} {base:Heap} {N ps:List Str} {qual:Str} {scope:Scope} {f:Addr} {cd:Value} {A:Around} {outer:List Env} {s s1:Shared} {H:Hp} {E:XK} {us:List Value} {vs:List V}
  (S:aT N ps scope) (hd:A.handled = none) (e0:vV P w K mg base A outer s H) (hl:vs.length = ps.length) (r:bM vs us)
  (x:InCallC s s.heap.objs.size (bindL (envOfC qual scope s.heap.objs.size f cd).kindOf (ps.zip us) fun _=>none) (cellsFrom (s.heap.objs.size + 1) scope.names []) (bindC (envOfC qual scope s.heap.objs.size f cd).kindOf (ps.zip us) fun _=>none) s1) :
  Inv (jR CX P w K mg base N qual scope f cd A outer s H E) [] (start N vs) H s1:=by
 have hpl:ps.length<=N.length:=by have:=congrArg List.length S.pre;rw [List.length_take] at this;omega
 obtain ⟨h1,tk,rfl,hk⟩:=x.done
 have noA:∀ b:Addr,b ∉ (jR CX P w K mg base N qual scope f cd A outer s H E).ex:=fun b z=>absurd (show b ∈ ([]:List Addr) from z) (by simp)
 refine ⟨⟨e0.mod,S.kind,rfl,rfl,Nat.le_refl _,fun y z c h1 h2=>?_,fun y hy=>?_,fun y c _ h=>?_,fun _=>hd,Around.frames_deeper e0.frames,.inr ⟨rfl,rfl⟩,fun b z=>absurd z (noA b),e0.bs,e0.bsz,fun b _ _=>noA b,fun b z=>absurd z (noA b),e0.funs,e0.frf⟩,
  rfl,e0.bare,Un.kept hk,⟨_,x.toInCall.ns,fun i y v h1 h2 h3=>?_⟩,fun y c h=>⟨_,x.cell y c h⟩,e0.hok.fresh (Nat.le_refl _),fun y c h=>?_,fun p hp=>absurd (show p ∈ ([]:List (Addr × Obj)) from hp) (by simp),e0.hok.kept hk,?_⟩
 ·exact name_of_addr x.apart (PySem.mem_of_lookup h1) (PySem.mem_of_lookup h2)
 ·have hy:scope.names.lookup y = some .cell ∨ scope.names.lookup y = some .free:=hy
  rcases hy with hy | hy
  ·exact uK hy
  ·exact absurd rfl (S.nofree _ (PySem.mem_of_lookup hy))
 ·exact Nat.le_of_lt (x.above y c (PySem.mem_of_lookup h))
 ·have hi:i < vs.length:=by
   unfold start at h2
   by_cases hi:i < vs.length
   ·exact hi
   ·rw [List.getElem?_append_right (by simpa using hi)] at h2
    rw [List.getElem?_replicate] at h2
    split at h2<;>cases h2
  have ha:vs[i]? = some v:=by
   unfold start at h2
   rw [List.getElem?_append_left (by simpa using hi),List.getElem?_map] at h2
   cases e:vs[i]? with
   | none=>rw [e] at h2;cases h2
   | some a=>rw [e] at h2;cases h2;rfl
  obtain ⟨u,hu,rv⟩:=r.get ha
  have hp:ps[i]? = some y:=by
   rw [<- S.pre,List.getElem?_take_of_lt (by omega)];exact h1
  have ndP:ps.Nodup:=by rw [<- S.pre];exact S.nd.sublist (List.take_sublist _ _)
  refine ⟨u,rv,?_⟩
  rcases S.par y (List.mem_of_getElem? hp) with k | k
  ·exact .inl ⟨k,sD ndP hp hu k⟩
  ·obtain ⟨c,e⟩:=uK (n:=s.heap.objs.size + 1) k
   refine .inr ⟨.inl k,c,e,?_⟩
   have q:=x.cell y c e
   rw [rM ndP hp hu (by show scope.names.lookup y ≠ _;rw [k];decide)] at q
   exact q
 ·exact e0.hok.fresh (Nat.le_of_lt (x.above y c (PySem.mem_of_lookup h)))
 ·unfold start
  show _ = N.length
  rw [List.length_append,List.length_map,List.length_replicate]
  omega
theorem aDi {CX:CXT} {P:Program} {w:World} {K:PySem.W.Frag} {mg:Str->Option Value} {base:Heap} {k:Nat} {f:Addr} {name qual:Str} {params:Arguments} {body:List Stmt} {scope:Scope} {dV kV doc pm cdv ct oc:Value} {an od:Option Addr}
  {osl:Array (Option Value)} {N ps:List Str} {sp:Sp} (lk:K.lookup f = some ⟨oc,od,.func (PySem.W.fnOf name qual params body scope dV kV doc pm an cdv ct),osl⟩) (hcd:PySem.W.codeIn K cdv qual = true) (S:aT N ps scope)
  (len:∀ vs H Q E,sp vs H Q E->vs.length = ps.length)
  (hbody:∀ (A:Around) (outer:List Env) (s:Shared) (H:Hp) (vs:List V) (Q:VK) (E:XK),dN k (A.deeper (envOfC qual scope s.heap.objs.size f cdv))->sp vs H Q E ->
   ∃ t,PSs (jR CX P w K mg base N qual scope f cdv A outer s H E) body t/\t { nx:=fun _ H'=>Q .non H',rt:=Q } (start N vs) H) :
  jD P w K mg base CX (k + 1) f (PySem.W.fnOf name qual params body scope dV kV doc pm an cdv ct) ps sp:=by
 refine ⟨len,fun A outer s H args us vs Q E hr e0 hb r hsp=>?_⟩
 have hl:=len _ _ _ _ hsp
 have KX:K.In s.heap:=e0.mod.kin.keeps fun b o e=>(e0.bs b o e).1
 have lim:s.heap.NoLimit:=e0.mod.nolimit.keeps fun b o e=>(e0.bs b o e).1
 have hkind:∀ y ∈ ps.zip us,scope.names.lookup y.1 = some .local ∨ (scope.names.lookup y.1 = some .cell/\((cellsFrom (s.heap.objs.size + 1) scope.names []).lookup y.1).isSome = true):=fun ⟨n,v⟩ hy=>by
  rcases S.par n (List.of_mem_zip hy).1 with q | q
  ·exact .inl q
  ·exact .inr ⟨q,PySem.W.cellsFrom_some _ _ _ (.inl q)⟩
 refine codeAny_call_function hr.depth (KX _ _ lk) rfl S.co S.gen rfl (PySem.W.codeRec_of KX hcd) (hb _ _ _ _ ?_)
 refine wpAny_newFunctionEnv_cells S.kind hkind fun env he s1 x=>?_
 subst he
 refine ⟨lim.keeps x.toInCall.keep,codeAny_func ?_⟩
 obtain ⟨t,ht,hq⟩:=hbody A outer s H vs Q E (hr.deeper _) hsp
 have I:Inv (jR CX P w K mg base N qual scope f cdv A outer s H E) [] (start N vs) H s1:=yD S hr.hd e0 hl r x
 refine wpAny_mono (ht [] s1 (start N vs) H _ I hq) (fun fl s' hs=>?_) fun e s' hs=>hs
 have fin:∀ {σ':St} {H':Hp} {v:V} {u:Value},Inv (jR CX P w K mg base N qual scope f cdv A outer s H E) [] σ' H' s'->bF v u->Q v H'->CE outer P w H s Q u s' :=
  fun {σ' H' v u} J rv q=>⟨v,H',J.os,J.bare,J.base,J.hok,rv,q⟩
 cases fl with
 | ret u =>
  obtain ⟨v,σ',H',J,rv,q⟩:=hs
  exact fin J rv q
 | next =>
  obtain ⟨σ',H',J,q⟩:=hs
  exact fin (v:=V.non) (u:=Value.none) J rfl q
 | brk =>
  obtain ⟨_,_,_,q⟩:=hs
  exact False.elim q
 | cont =>
  obtain ⟨_,_,_,q⟩:=hs
  exact False.elim q
end L2
namespace L2
open PySem PySem.Spec PyProof.Rows
section
variable {X:Cx} {x:Str} {p pos:Pos} {e:Expr} {es:List Expr} {t:TA} {id T:String} {r:List V->Hp->VK->Prop}
noncomputable def tCB (r:List V->Hp->VK->Prop) (t:TA):TE:=fun σ H Q=>t σ H fun vs H1=>r vs H1 Q
theorem mE (hc:gY X (.builtin id) r) (hg:Gl X x) (hm:X.mg x = none) (hv:bootBuiltins x = some (.builtin id)) (ha:PA X (e :: es) t) (hn:x ≠ "__name__":=by decide) (hdb:(x == ("__debug__":Str)) = false:=by decide)
  (he:starEach (e :: es) X.env = (false,eval e X.env) :: starEach es X.env:=by rfl) (hpl:(backTo pos (starEach es X.env)).any (·.1) = false:=by rfl):PE X (.Call (.Name x p) (e :: es) [] pos) (tCB r t):=by
 intro pins s σ H Q I h
 refine wpAny_Call_Name_kw (pT I hg hm hv ?_ hn hdb)
 exact PyProof.Rows.callWith_builtin1 (thn (ha pos pins s σ H _ I h) fun us s1 ⟨vs,H1,I1,r1,q1⟩=>hc pins s1 σ H1 vs us Q I1 r1 q1) he hpl
theorem zB (hc:gY X (.type T) r) (hg:Gl X x) (hm:X.mg x = none) (hv:bootBuiltins x = some (.type T)) (ha:PA X (e :: es) t) (hn:x ≠ "__name__":=by decide) (hdb:(x == ("__debug__":Str)) = false:=by decide)
  (he:starEach (e :: es) X.env = (false,eval e X.env) :: starEach es X.env:=by rfl) (hpl:(backTo pos (starEach es X.env)).any (·.1) = false:=by rfl):PE X (.Call (.Name x p) (e :: es) [] pos) (tCB r t):=by
 intro pins s σ H Q I h
 refine wpAny_Call_Name_kw (pT I hg hm hv ?_ hn hdb)
 exact PyProof.Rows.callWith_type1 (thn (ha pos pins s σ H _ I h) fun us s1 ⟨vs,H1,I1,r1,q1⟩=>hc pins s1 σ H1 vs us Q I1 r1 q1) he hpl
end
end L2
namespace HT
open PySem PyProof.Rows
section
open PySem.SeqAt
open PySem.AutoSeq1 (wpAny_loadPart')
open PySem.MeetsSeq PySem.MeetsSeq2 PySem.MeetsSeq3
end
section
variable {prog:Program} {w:World} {A:Around} {E:Value->Shared->Prop} {s:Shared}
theorem cat_tup {t b:Addr} {vs ws:List Value} {Q:Value->Shared->Prop} (ht:IsTup s.heap t vs.toArray) (hb:IsTup s.heap b ws.toArray) (hv:vs ≠ [])
  (h1:ws = []->Q (.ref t) s) (h2:ws ≠ []->Q (.ref s.heap.objs.size) { s with heap:=s.heap.push { cls:=.type "tuple",data:=.seq (vs ++ ws).toArray } })
  (hsz:vs.length + ws.length<=sizeLine):wpAny (model prog w) A (binaryOp .Add (.ref t) (.ref b)) Q E s:=by
 obtain ⟨⟨cls,dd,data,sl⟩,ho,hc,n,hd⟩:=id ht
 obtain ⟨⟨cls2,dd2,data2,sl2⟩,ho2,hc2,n2,hd2⟩:=id hb
 simp only at hc hd hc2 hd2
 subst hc hd hc2 hd2
 have e:vs.toArray ++ ws.toArray = (vs ++ ws).toArray:=by simp
 by_cases hw:ws = []
 ·exact concat_meets ⟨_,ho,rfl⟩ ⟨_,ho2,rfl⟩ noFill_tuple_add seq_tuple_add PySem.F.slot_tuple_add PySem.F.entry_tuple_add (PySem.F.args_tuple_add_2 _ _)
   (tuple_addW1 t b vs.toArray ws.toArray n n2 dd dd2 sl sl2 (by simpa using hv) (by simp [hw])) ⟨ho,ho2,h1 hw⟩
 ·refine concat_meets ⟨_,ho,rfl⟩ ⟨_,ho2,rfl⟩ noFill_tuple_add seq_tuple_add PySem.F.slot_tuple_add PySem.F.entry_tuple_add (PySem.F.args_tuple_add_2 _ _)
   (tuple_addW2 t b vs.toArray ws.toArray n n2 dd dd2 sl sl2 (by simpa using hv) (by simpa using hw) (by rw [List.size_toArray,List.size_toArray];exact hsz)) ⟨ho,ho2,?_⟩
  rw [e]
  exact h2 hw
noncomputable def sIx (n d:Nat):Option Int->Nat
 | none=>d
 | some v=>if v < 0 then (v + (n:Int)).toNat else min v.toNat n
theorem sIx_none (n d:Nat):sIx n d none = d:=rfl
theorem sIx_nat (n d k:Nat):sIx n d (some (k:Int)) = min k n:=by
 show (if (k:Int) < 0 then ((k:Int) + (n:Int)).toNat else min (k:Int).toNat n) = min k n
 rw [if_neg (by omega),Int.toNat_natCast]
theorem aFk (n d:Nat) (hd:d<=n) (o:Option Int):sIx n d o<=n:=by
 cases o with
 | none=>exact hd
 | some v =>
  show (if v < 0 then (v + (n:Int)).toNat else min v.toNat n)<=n
  by_cases hv:v < 0
  ·rw [if_pos hv];omega
  ·rw [if_neg hv];exact Nat.min_le_right _ _
theorem xO (v:Int) (n d:Nat):(if v < 0 then max (v + (n:Int)) 0 else min v (n:Int)) = ((sIx n d (some v):Nat):Int):=by
 show (if v < 0 then max (v + (n:Int)) 0 else min v (n:Int)) = (((if v < 0 then (v + (n:Int)).toNat else min v.toNat n):Nat):Int)
 by_cases hv:v < 0
 ·simp only [if_pos hv];omega
 ·simp only [if_neg hv];omega
theorem wF (lo hi:Option Int) (n:Nat):Builtin.Slice.sliceAdjust lo hi 1 (n:Int) = (((sIx n 0 lo:Nat):Int),((sIx n n hi:Nat):Int)):=by
 have h1:¬ ((1:Int) < 0):=by omega
 unfold Builtin.Slice.sliceAdjust
 simp only [h1,if_false]
 refine Prod.ext ?_ ?_
 ·cases lo with
  | none=>rfl
  | some v=>exact xO v n 0
 ·cases hi with
  | none=>rfl
  | some v=>exact xO v n n
theorem wM (i j:Nat):Builtin.Slice.slicePlaces (i:Int) (j:Int) 1 = j - i:=by
 unfold Builtin.Slice.slicePlaces
 have h1:(1:Int) > 0:=by omega
 simp only [h1,if_true,Int.ediv_one]
 split<;>omega
theorem qB {v:Value} {o:Option Int} {Q:Option Int->Shared->Prop} (p:IsPart v o) (h:Q o s):wpAny (model prog w) A (Builtin.Slice.slicePartIndex v) Q E s:=by
 cases p with
 | none=>exact slicePart_none h
 | int i t=>exact slicePart_int h
theorem iH {sl:Addr} {vl vu:Value} {lo hi:Option Int} {n:Nat} {Q:Int × Int × Nat->Shared->Prop} (hs:s.heap.IsSliceOf sl vl vu .none) (pl:IsPart vl lo) (pu:IsPart vu hi)
  (h:Q (((sIx n 0 lo:Nat):Int),1,sIx n n hi - sIx n 0 lo) s):wpAny (model prog w) A (Builtin.Slice.sliceApplied (.ref sl) (pure (n:Int))) Q E s:=by
 obtain ⟨os,hos,hcs,hds⟩:=id hs
 unfold Builtin.Slice.sliceApplied Builtin.Slice.sliceFields
 refine wpAny_bind (wpAny_bind (wpAny_field hos hds (x:=vl) rfl (wpAny_bind (wpAny_field hos hds (x:=vu) rfl (wpAny_bind (wpAny_field hos hds (x:=.none) rfl (wpAny_pure ?_)))))))
 refine wpAny_bind (slicePart_none ?_)
 show wpAny _ _ (if ((1:Int) == 0) = true then _ else _) _ _ s
 rw [if_neg (by decide)]
 refine wpAny_bind (qB pl (wpAny_bind (qB pu (wpAny_bind (wpAny_pure ?_)))))
 show wpAny _ _ (match Builtin.Slice.sliceAdjust lo hi 1 (n:Int) with | (lo,hi)=>pure (lo,(1:Int),Builtin.Slice.slicePlaces lo hi 1)) _ _ s
 rw [wF lo hi n]
 show wpAny _ _ (pure (((sIx n 0 lo:Nat):Int),(1:Int),Builtin.Slice.slicePlaces ((sIx n 0 lo:Nat):Int) ((sIx n n hi:Nat):Int) 1)) _ _ s
 rw [wM]
 exact wpAny_pure h
theorem zN (xs:Array Value) (i k:Nat):((List.range k).filterMap fun (m:Nat)=>xs[((i:Int) + (m:Int) * 1).toNat]?).toArray = ((xs.toList.drop i).take k).toArray:=by
 have e:(fun (m:Nat)=>xs[((i:Int) + (m:Int) * 1).toNat]?) = fun m=>xs[i + m]?:=by
  funext m
  have:((i:Int) + (m:Int) * 1).toNat = i + m:=by omega
  rw [this]
 rw [e]
 have:=pick_run xs i k
 rw [List.filterMap_map] at this
 have e2:((fun x=>xs[x]?) ∘ fun x=>i + x) = fun m=>xs[i + m]?:=rfl
 rw [e2] at this
 rw [this]
theorem getItem_tuple_cut {t sl:Addr} {items:Array Value} {vl vu:Value} {lo hi:Option Int} {Q:Value->Shared->Prop} (ht:IsTup s.heap t items) (hs:s.heap.IsSliceOf sl vl vu .none) (pl:IsPart vl lo) (pu:IsPart vu hi)
  (hw:¬ (sIx items.size 0 lo = 0/\sIx items.size items.size hi = items.size))
  (h:Q (.ref s.heap.objs.size) { s with heap:=s.heap.push { cls:=.type "tuple",data:=.seq ((items.toList.drop (sIx items.size 0 lo)).take (sIx items.size items.size hi - sIx items.size 0 lo)).toArray } })
  (hsz:items.size<=sizeLine):wpAny (model prog w) A (getItem (.ref t) (.ref sl)) Q E s:=by
 have htake:sizeOk (.seq ((items.toList.drop (sIx items.size 0 lo)).take (sIx items.size items.size hi - sIx items.size 0 lo)).toArray):=by
  show ((items.toList.drop (sIx items.size 0 lo)).take (sIx items.size items.size hi - sIx items.size 0 lo)).toArray.size<=sizeLine
  rw [List.size_toArray,List.length_take,List.length_drop,Array.length_toList]
  omega
 have hj:sIx items.size items.size hi<=items.size:=aFk _ _ (Nat.le_refl _) hi
 obtain ⟨os,hos,hcs,hds⟩:=id hs
 have hTs:s.TypeIs (.ref sl) "slice":=⟨os,hos,hcs⟩
 unfold getItem
 try with_reducible refine wpAny_holding ?_
 first | refine wpAny_bind (wpAny_pure ?_) | skip
 refine wpAny_bind (wpAny_sequenceKey ht.typeIs (by decide) ?_)
 refine wpAny_bind (wpAny_callSpecial?_slot (name:=Str.ofString "__getitem__") ht.typeIs PyProof.Rows.slot_tuple_getitem
  (wpAny_call_entry PyProof.Rows.slot_tuple_getitem ht.typeIs entry_tuple_getitem ?_ (args_tuple_getitem _ _)))
 show wpAny _ _ (Builtin.Tuple.tupleItemsOf (.ref t) >>= _) _ _ s
 refine wpAny_bind (tupleItemsOf_ ht ?_)
 refine wpAny_bind (wpAny_typeOf hTs ?_)
 rw [if_pos (by decide)]
 refine wpAny_bind (iH hs pl pu ?_)
 have hno:¬ ((((sIx items.size 0 lo:Nat):Int) == 0 && (1:Int) == 1 && (sIx items.size items.size hi - sIx items.size 0 lo) == items.size) = true):=by
  intro q
  rw [Bool.and_eq_true,Bool.and_eq_true] at q
  have q1:((sIx items.size 0 lo:Nat):Int) = 0:=eq_of_beq q.1.1
  have q2:sIx items.size items.size hi - sIx items.size 0 lo = items.size:=eq_of_beq q.2
  exact hw ⟨by omega,by omega⟩
 show wpAny _ _ (if (((sIx items.size 0 lo:Nat):Int) == 0 && (1:Int) == 1 && (sIx items.size items.size hi - sIx items.size 0 lo) == items.size) = true then _ else _) _ _ s
 rw [if_neg hno,zN]
 first
  | exact wpAny_bind (m:=Builtin.Tuple.tupleExact _) (wpAny_newObj_type (wpAny_pure ⟨_,rfl,wpAny_pure h⟩) htake)
  | exact wpAny_bind (m:=Builtin.Tuple.tupleExact _) (wpAny_newObj_type (wpAny_bind (wpAny_pure (wpAny_pure ⟨_,rfl,wpAny_pure h⟩))) htake)
  | exact wpAny_bind (wpAny_bind (m:=Builtin.Tuple.tupleExact _) (wpAny_newObj_type (wpAny_pure (wpAny_pure ⟨_,rfl,wpAny_pure h⟩)) htake))
  | exact wpAny_bind (wpAny_bind (m:=Builtin.Tuple.tupleExact _) (wpAny_newObj_type (wpAny_pure ⟨_,rfl,wpAny_pure h⟩) htake))
end
end HT
namespace L2
open PySem PySem.Spec PyProof.Rows
noncomputable abbrev TO:=St->Hp->(Option Int->Hp->Prop)->Prop
noncomputable def PO (X:Cx) (e:Option Expr) (t:TO):Prop :=
 ∀ (pins:List (Addr × Obj)) (s:Shared) (σ:St) (H:Hp) (Q:Option Int->Hp->Prop),Inv X pins σ H s->t σ H Q ->
  wpAny (model X.prog X.w) X.A (evalPart e X.env) (fun u s'=>∃ o H',Inv X pins σ H' s'/\IsPart u o/\Q o H') X.xe s
noncomputable def aBV:TO:=fun _ H Q=>Q none H
noncomputable def aGK (t:TE):TO:=fun σ H Q=>t σ H fun x H1=>∃ i,x = .int i/\Q (some i) H1
section
variable {X:Cx} {e:Expr} {te:TE} {lo hi:Option Expr} {tl th:TO} {pos p2:Pos}
theorem aBM:PO X none aBV:=by
 intro pins s σ H Q I h
 rw [evalPart_none]
 exact wpAny_pure ⟨none,H,I,.none,h⟩
theorem aBS (h:PE X e te):PO X (some e) (aGK te):=by
 intro pins s σ H Q I hw
 rw [evalPart_some]
 refine thn (h pins s σ H _ I hw) fun u s1 ⟨x,H1,I1,r1,q1⟩=>?_
 obtain ⟨i,rfl,q⟩:=q1
 obtain ⟨t,rfl⟩:=r1
 exact ⟨some i,H1,I1,.int i t,q⟩
noncomputable def SlR (X:Cx) (r:V->Option Int->Option Int->Hp->VK->Prop):Prop :=
 ∀ (pins:List (Addr × Obj)) (s:Shared) (σ:St) (H:Hp) (x:V) (v vl vu:Value) (lo hi:Option Int) (sl:Addr) (Q:VK),Inv X pins σ H s->bF x v->s.heap.IsSliceOf sl vl vu .none->IsPart vl lo->IsPart vu hi->r x lo hi H Q ->
  ∃ T id,typeLookup (.type T) "__getitem__" = pure (some (.builtin id))/\s.TypeIs v T/\wpAny (model X.prog X.w) X.A (getItem v (.ref sl)) (EP X pins σ Q) X.xe s
theorem SlR.or {r r':V->Option Int->Option Int->Hp->VK->Prop} (h:SlR X r) (h':SlR X r'):SlR X (fun x lo hi H Q=>r x lo hi H Q ∨ r' x lo hi H Q):=by
 intro pins s σ H x v vl vu lo hi sl Q I rx hs pl pu q
 rcases q with q | q
 ·exact h pins s σ H x v vl vu lo hi sl Q I rx hs pl pu q
 ·exact h' pins s σ H x v vl vu lo hi sl Q I rx hs pl pu q
noncomputable def tSl (r:V->Option Int->Option Int->Hp->VK->Prop) (te:TE) (tl th:TO):TE:=fun σ H Q=>te σ H fun x H1=>tl σ H1 fun l H2=>th σ H2 fun u H3=>r x l u H3 Q
theorem uS {r:V->Option Int->Option Int->Hp->VK->Prop} (hr:SlR X r) (he:PE X e te) (hl:PO X lo tl) (hu:PO X hi th):PE X (.Subscript e (.Slice lo hi none p2) pos) (tSl r te tl th):=by
 intro pins s σ H Q I h
 refine Subscript_ (thn (he pins s σ H _ I h) fun v s1 ⟨x,H1,I1,r1,q1⟩=>?_)
 refine wpAny_Slice (thn (hl pins s1 σ H1 _ I1 q1) fun vl s2 ⟨l,H2,I2,pl,q2⟩=>thn (hu pins s2 σ H2 _ I2 q2) fun vu s3 ⟨u,H3,I3,pu,q3⟩=>?_)
 rw [evalPart_none]
 refine wpAny_pure ?_
 have I4:Inv X pins σ H3 { s3 with heap:=s3.heap.push { cls:=.type "slice",data:=.fields #[vl,vu,.none] } }:=I3.kept (t':=s3.toks) fun b ob q=>Heap.get?_push_of_some _ q
 obtain ⟨T,id,hT,ht,hg⟩:=hr pins { s3 with heap:=s3.heap.push { cls:=.type "slice",data:=.fields #[vl,vu,.none] } } σ H3 x v vl vu l u s3.heap.objs.size Q I4 r1 (Heap.IsSliceOf.new ..) pl pu q3
 show wpAny (model X.prog X.w) X.A (subscriptTail e (.Slice lo hi none p2) v (.ref s3.heap.objs.size)) (EP X pins σ Q) X.xe { s3 with heap:=s3.heap.push { cls:=.type "slice",data:=.fields #[vl,vu,.none] } }
 exact tail_any (ops:=[.ref s3.heap.objs.size,v]) ht hT hg (by with_unfolding_all rfl)
noncomputable def uN (xs:List V) (lo hi:Option Int):List V:=(xs.drop (HT.sIx xs.length 0 lo)).take (HT.sIx xs.length xs.length hi - HT.sIx xs.length 0 lo)
theorem oH (xs:List V) (lo hi:Option Int):(uN xs lo hi).length<=xs.length:=by
 unfold uN
 rw [List.length_take,List.length_drop]
 omega
noncomputable def aHb (K:PySem.W.Frag):V->Option Int->Option Int->Hp->VK->Prop:=fun x lo hi H Q=>∃ a xs,x = .ref a/\SqT K H a xs /\
 ¬ (HT.sIx xs.length 0 lo = 0/\HT.sIx xs.length xs.length hi = xs.length)/\∀ p,H p = none->Q (.ref p) (upd H p (.tup (uN xs lo hi)))
theorem aFE:SlR X (aHb X.K):=by
 intro pins s σ H x v vl vu lo hi sl Q I rx hs pl pu h
 obtain ⟨a,xs,rfl,hx,hw,q⟩:=h
 cases rx
 obtain ⟨its,r,ht,hz⟩:=I.tuple hx
 have hlen:its.toArray.size = xs.length:=by rw [List.size_toArray];exact r.length.symm
 refine ⟨"tuple",_,PyProof.Rows.slot_tuple_getitem.lookup,ht.typeIs,?_⟩
 refine HT.getItem_tuple_cut ht hs pl pu (by rw [hlen];exact hw) ?_ (by rw [hlen];exact hz)
 rw [hlen]
 refine ⟨.ref s.heap.objs.size,_,I.laid (t':=s.toks) (o:=.tup (uN xs lo hi)) (fun b ob q=>Heap.get?_push_of_some _ q) (Nat.le_refl _) ?_,rfl,q _ (I.hok.fresh (Nat.le_refl _))⟩
 exact ⟨Nat.le_trans (oH xs lo hi) hz,_,(r.drop (HT.sIx xs.length 0 lo)).take (HT.sIx xs.length xs.length hi - HT.sIx xs.length 0 lo),IsTup.new _ _⟩
noncomputable def aG2 (K:PySem.W.Frag):R2:=fun x y H Q=>∃ a b xs ys,x = .ref a/\y = .ref b/\SqT K H a xs/\SqT K H b ys/\xs ≠ []/\xs.length + ys.length<=sizeLine /\
 (ys = []->Q (.ref a) H)/\(ys ≠ []->∀ p,H p = none->Q (.ref p) (upd H p (.tup (xs ++ ys))))
theorem bM.nil_iff {xs:List V} {us:List Value} (r:bM xs us):us = [] ↔ xs = []:=by
 cases r with
 | nil=>simp
 | cons _ _=>simp
theorem xX:OpR X (binaryOp .Add) (aG2 X.K):=by
 intro pins s σ H x y v u Q I rx ry h
 obtain ⟨a,b,xs,ys,rfl,rfl,ha,hb,hx,hz,q1,q2⟩:=h
 cases rx
 cases ry
 obtain ⟨its,r1,p1,_⟩:=I.tuple ha
 obtain ⟨its2,r2,p2,_⟩:=I.tuple hb
 refine HT.cat_tup p1 p2 (fun z=>hx (r1.nil_iff.mp z)) (fun z=>⟨.ref a,H,I,rfl,q1 (r2.nil_iff.mp z)⟩) (fun z=>?_) (by rw [<- r1.length,<- r2.length];exact hz)
 refine ⟨.ref s.heap.objs.size,_,I.laid (t':=s.toks) (o:=.tup (xs ++ ys)) (fun b ob q=>Heap.get?_push_of_some _ q) (Nat.le_refl _) ?_,rfl,q2 (fun w=>z (r2.nil_iff.mpr w)) _ (I.hok.fresh (Nat.le_refl _))⟩
 exact ⟨by rw [List.length_append];exact hz,_,r1.append r2,IsTup.new _ _⟩
end
end L2
namespace L2
open PySem PySem.Spec PyProof.Rows
noncomputable def ixN (n:Nat) (i:Int):Option Nat:=if 0<=i then (if i < n then some i.toNat else none) else if -(n:Int)<=i then some (i + n).toNat else none
noncomputable def atI {α:Type} (xs:List α) (i:Int):Option α:=(ixN xs.length i).bind fun j=>xs[j]?
theorem aCH {n:Nat} {i:Int} {j:Nat} (h:ixN n i = some j):seqIndex? i n = some j/\j < n/\-(n:Int)<=i/\i < n:=by
 unfold ixN at h
 by_cases h0:0<=i
 ·rw [if_pos h0] at h
  by_cases h1:i < n
  ·rw [if_pos h1] at h
   have e:i.toNat = j:=Option.some.inj h
   exact ⟨by rw [seqIndex_of h0 h1,e],by omega,by omega,h1⟩
  ·rw [if_neg h1] at h;cases h
 ·rw [if_neg h0] at h
  by_cases h1:-(n:Int)<=i
  ·rw [if_pos h1] at h
   have e:(i + n).toNat = j:=Option.some.inj h
   exact ⟨by rw [seqIndex_neg (by omega) h1,e],by omega,h1,by omega⟩
  ·rw [if_neg h1] at h;cases h
theorem wR {α:Type} {xs:List α} {i:Int} {v:α} (h:atI xs i = some v):∃ j,seqIndex? i xs.length = some j/\xs[j]? = some v/\j < xs.length/\-(xs.length:Int)<=i/\i < xs.length:=by
 unfold atI at h
 cases e:ixN xs.length i with
 | none=>rw [e] at h;cases h
 | some j =>
  rw [e] at h
  obtain ⟨h1,h2,h3,h4⟩:=aCH e
  exact ⟨j,h1,h,h2,h3,h4⟩
theorem aCG {α:Type} {xs:List α} {j:Nat} {v:α} (h:xs[j]? = some v):atI xs (j:Int) = some v:=by
 have hj:j < xs.length:=(List.getElem?_eq_some_iff.mp h).1
 have e:ixN xs.length (j:Int) = some j:=by
  unfold ixN
  rw [if_pos (by omega),if_pos (by omega)];simp
 unfold atI;rw [e];exact h
theorem uG {α:Type} (xs:List α) (v:α):atI (xs ++ [v]) (-1) = some v:=by
 have hl:(xs ++ [v]).length = xs.length + 1:=by simp
 have e:ixN (xs ++ [v]).length (-1) = some xs.length:=by
  unfold ixN
  rw [hl,if_neg (by decide),if_pos (by omega)]
  congr 1
  omega
 unfold atI
 rw [e]
 show (xs ++ [v])[xs.length]? = some v
 simp
noncomputable def tG (b:Expr):Prop:=∀ o i,subscripted b false o i = operate [o,i] (getItem o i)
noncomputable def IxR (X:Cx) (r:R2):Prop :=
 ∀ (value slice:Expr) (pins:List (Addr × Obj)) (s:Shared) (σ:St) (H:Hp) (x y:V) (v u:Value) (Q:VK),Inv X pins σ H s->bF x v->bF y u->r x y H Q ->
  subscripted slice false v u = operate [v,u] (getItem v u)->wpAny (model X.prog X.w) X.A (subscriptTail value slice v u) (EP X pins σ Q) X.xe s
noncomputable def MtR (X:Cx) (id:String) (r:V->List V->Hp->VK->Prop):Prop :=
 ∀ (pins:List (Addr × Obj)) (s:Shared) (σ:St) (H:Hp) (x:V) (xs:List V) (v:Value) (us:List Value) (Q:VK),Inv X pins σ H s->bF x v->bM xs us->r x xs H Q ->
  wpAny (model X.prog X.w) X.A (call (.builtin id) (v :: us)) (EP X pins σ Q) X.xe s
section
variable {X:Cx} {a b:Expr} {ta tb:TE} {pos:Pos}
theorem aF9 {r:R2} (hr:IxR X r) (ha:PE X a ta) (hb:PE X b tb) (hs:tG b):PE X (.Subscript a b pos) (tOp r ta tb):=by
 intro pins s σ H Q I h
 exact Subscript_ (aEK ha hb I h fun v u s2 x y H2 I2 rx ry q=>hr a b pins s2 σ H2 x y v u Q I2 rx ry q (hs _ _))
noncomputable def aHt (K:PySem.W.Frag):R2:=fun x y H Q=>∃ p xs i v,x = .ref p/\y = .int i/\SqL K H p xs/\atI xs i = some v/\Q v H
noncomputable def aHg (K:PySem.W.Frag):R2:=fun x y H Q=>∃ p xs i v,x = .ref p/\y = .int i/\SqT K H p xs/\atI xs i = some v/\Q v H
theorem wP:IxR X (aHt X.K):=by
 intro value slice pins s σ H x y v u Q I rx ry h hs
 obtain ⟨p,xs,i,z,rfl,rfl,hq,he,q⟩:=h
 cases rx
 obtain ⟨t,rfl⟩:=ry
 obtain ⟨its,r,pl,hz⟩:=I.list hq
 obtain ⟨j,h1,h2,h3,h4,h5⟩:=wR he
 obtain ⟨w,ew,rw'⟩:=r.get h2
 have hl:=r.length
 have hn:=vU
 have fin:EP X pins σ Q w s:=⟨z,H,I,rw',q⟩
 by_cases h0:0<=i
 ·have hj:i.toNat = j:=by
   rw [seqIndex_of h0 h5] at h1
   exact Option.some.inj h1
  exact item_listR pl.isList h0 (by omega) (by rw [hj];simpa using ew) fin hs
 ·have hj:(i + (its.toArray.size:Int)).toNat = j:=by
   rw [seqIndex_neg (by omega) h4] at h1
   rw [List.size_toArray,<- hl]
   exact Option.some.inj h1
  exact subscriptTail_builtinR (x:=w) pl.isList.typeIs slot_list_getitem.lookup
   (wpAny_getItem_list_neg (Q:=fun r s'=>r = w/\EP X pins σ Q r s') pl.isList (by omega) (by rw [List.size_toArray]<;>omega) (by omega) (by rw [hj];simpa using ew) ⟨rfl,fin⟩) hs
theorem aFJ:IxR X (aHg X.K):=by
 intro value slice pins s σ H x y v u Q I rx ry h hs
 obtain ⟨p,xs,i,z,rfl,rfl,hq,he,q⟩:=h
 cases rx
 obtain ⟨t,rfl⟩:=ry
 obtain ⟨its,r,pl,hz⟩:=I.tuple hq
 obtain ⟨j,h1,h2,h3,h4,h5⟩:=wR he
 obtain ⟨w,ew,rw'⟩:=r.get h2
 have hl:=r.length
 have hn:=vU
 have fin:EP X pins σ Q w s:=⟨z,H,I,rw',q⟩
 exact subscriptTail_builtinR (x:=w) pl.typeIs slot_tuple_getitem.lookup
  (getItem_tuple (j:=j) (Q:=fun r s'=>r = w/\EP X pins σ Q r s') pl (by omega) (by omega) (by rw [List.size_toArray,<- hl];exact h1) (by simpa using ew) ⟨rfl,fin⟩) hs
theorem tO (lo hi:Option Int) (n:Nat):(sliceBounds lo hi none n).1 = ((HT.sIx n 0 lo:Nat):Int)/\(sliceBounds lo hi none n).2.1 = ((HT.sIx n n hi:Nat):Int)/\(sliceBounds lo hi none n).2.2 = 1:=by
 refine ⟨?_,?_,rfl⟩
 ·cases lo with
  | none=>simp [sliceBounds,HT.sIx]
  | some i =>
   simp only [sliceBounds,HT.sIx,Option.getD_none,show (1:Int) > 0 by decide,if_true]
   by_cases h:i < 0
   ·simp only [h,if_true]<;>omega
   ·simp only [h,if_false]<;>omega
 ·cases hi with
  | none=>simp [sliceBounds,HT.sIx]
  | some i =>
   simp only [sliceBounds,HT.sIx,Option.getD_none,show (1:Int) > 0 by decide,if_true]
   by_cases h:i < 0
   ·simp only [h,if_true]<;>omega
   ·simp only [h,if_false]<;>omega
theorem qY (its:List Value) (lo hi:Option Int):slicePick its.toArray lo hi none = ((its.drop (HT.sIx its.length 0 lo)).take (HT.sIx its.length its.length hi - HT.sIx its.length 0 lo)).toArray:=by
 obtain ⟨h1,h2,h3⟩:=tO lo hi its.toArray.size
 unfold slicePick
 rw [h1,h2,h3]
 simp only [sliceRange_one,pick_run,List.size_toArray]<;>rfl
noncomputable def aHd (K:PySem.W.Frag):V->Option Int->Option Int->Hp->VK->Prop:=fun x lo hi H Q=>∃ a xs,x = .ref a/\SqL K H a xs/\∀ p,H p = none->Q (.ref p) (upd H p (.lst (uN xs lo hi)))
theorem aCx:SlR X (aHd X.K):=by
 intro pins s σ H x v vl vu lo hi sl Q I rx hs pl pu h
 obtain ⟨a,xs,rfl,hx,q⟩:=h
 cases rx
 obtain ⟨its,r,ht,hz⟩:=I.list hx
 have hlen:=r.length
 refine ⟨"list",_,slot_list_getitem.lookup,ht.isList.typeIs,?_⟩
 refine wpAny_getItem_list_slice ht.isList hs pl pu .none (by simp) ?_ (by rw [List.size_toArray]<;>omega)
 rw [qY,<- hlen]
 refine ⟨.ref s.heap.objs.size,_,I.laid (t':=s.toks) (o:=.lst (uN xs lo hi)) (fun b ob q=>Heap.get?_push_of_some _ q) (Nat.le_refl _) ?_,rfl,q _ (I.hok.fresh (Nat.le_refl _))⟩
 exact ⟨Nat.le_trans (oH xs lo hi) hz,_,0,(r.drop (HT.sIx xs.length 0 lo)).take (HT.sIx xs.length xs.length hi - HT.sIx xs.length 0 lo),Heap.get?_push_size _ rfl⟩
noncomputable def aBq:V->Bool
 | .non=>true
 | .bl _=>true
 | .int _=>true
 | .str _=>true
 | _=>false
noncomputable def eqV:V->V->Bool
 | .non,.non=>true
 | .bl a,.bl b=>a == b
 | .bl a,.int b=>(if a then 1 else 0) == b
 | .int a,.bl b=>a == (if b then 1 else 0)
 | .int a,.int b=>a == b
 | .str a,.str b=>a == b
 | _,_=>false
theorem aAO {A:Around} {s:Shared} {y x:V} {u v:Value} (ry:bF y u) (rx:bF x v) (fy:aBq y = true) (fx:aBq x = true):SeqAt.EqAt A s u v (eqV y x):=by
 cases y with
 | non =>
  cases ry
  cases x with
  | non=>cases rx;exact SeqAt.EqAt.same _
  | bl b=>cases rx;exact SeqAt.EqAt.none_bool b
  | int b=>obtain ⟨t,rfl⟩:=rx;exact SeqAt.EqAt.none_int b t
  | str b=>obtain ⟨t,rfl⟩:=rx;exact SeqAt.EqAt.none_str b t
  | _=>exact absurd (show false = true from fx) Bool.false_ne_true
 | bl a =>
  cases ry
  cases x with
  | non=>cases rx;exact SeqAt.EqAt.bool_none a
  | bl b=>cases rx;exact SeqAt.EqAt.bool_bool a b
  | int b=>obtain ⟨t,rfl⟩:=rx;exact SeqAt.EqAt.bool_int a b t
  | str b=>obtain ⟨t,rfl⟩:=rx;exact SeqAt.EqAt.bool_str a b t
  | _=>exact absurd (show false = true from fx) Bool.false_ne_true
 | int a =>
  obtain ⟨t',rfl⟩:=ry
  cases x with
  | non=>cases rx;exact SeqAt.EqAt.int_none a t'
  | bl b=>cases rx;exact SeqAt.EqAt.int_bool a t' b
  | int b=>obtain ⟨t,rfl⟩:=rx;exact SeqAt.EqAt.int_int a t' b t
  | str b=>obtain ⟨t,rfl⟩:=rx;exact SeqAt.EqAt.int_str a t' b t
  | _=>exact absurd (show false = true from fx) Bool.false_ne_true
 | str a =>
  obtain ⟨t',rfl⟩:=ry
  cases x with
  | non=>cases rx;exact SeqAt.EqAt.str_none a t'
  | bl b=>cases rx;exact SeqAt.EqAt.str_bool a t' b
  | int b=>obtain ⟨t,rfl⟩:=rx;exact SeqAt.EqAt.str_int a t' b t
  | str b=>obtain ⟨t,rfl⟩:=rx;exact SeqAt.EqAt.str_str a t' b t
  | _=>exact absurd (show false = true from fx) Bool.false_ne_true
 | _=>exact absurd (show false = true from fy) Bool.false_ne_true
theorem sT:gY X (.builtin "len") (fun xs H Q=>∃ p ys,xs = [.ref p]/\(SqL X.K H p ys ∨ SqT X.K H p ys)/\Q (.int ys.length) H):=by
 intro pins s σ H xs us Q I r h
 obtain ⟨p,ys,rfl,hq,q⟩:=h
 obtain ⟨u,rfl,rx⟩:=rZ r
 cases rx
 have hn:=vU
 rcases hq with hq | hq
 ·obtain ⟨its,r',pl,hz⟩:=I.list hq
  have hlen:=r'.length
  exact Calls.call_len_list pl.isList (by simp only [List.size_toArray]<;>omega) ⟨.int ys.length,H,I.tok _,⟨s.toks + 1,by rw [List.size_toArray,hlen]⟩,q⟩
 ·obtain ⟨its,r',pl,hz⟩:=I.tuple hq
  have hlen:=r'.length
  exact len_tuple pl (by simp only [List.size_toArray]<;>omega) ⟨.int ys.length,H,I.tok _,⟨s.toks + 1,by rw [List.size_toArray,hlen]⟩,q⟩
noncomputable def tyV (K:PySem.W.Frag) (T:String) (x:V) (H:Hp):Prop:=match x with
 | .str _=>T = "str"
 | .int _=>T = "int"
 | .ref p=>(T = "list"/\∃ xs,SqL K H p xs) ∨ (T = "tuple"/\∃ o,K.lookup p = some o/\o.cls = .type "tuple"/\o.dict = none) ∨
   (T = "dict"/\((∃ kvs,H p = some (.dK kvs)) ∨ ∃ kvs,H p = some (.dT kvs))) ∨ (T = "set"/\∃ S n,H p = some (.set S n))
 | _=>False
theorem aFb {pins:List (Addr × Obj)} {σ:St} {H:Hp} {s:Shared} {T:String} {x:V} {v:Value} (I:Inv X pins σ H s) (r:bF x v) (ty:tyV X.K T x H) :
  s.TypeIs v T/\∀ a,v = .ref a->∃ ob,s.heap.get? a = some ob/\ob.dict = none:=by
 cases x with
 | str z =>
  obtain ⟨t,rfl⟩:=r
  cases (show T = "str" from ty)
  exact ⟨typeIs_str s z t,fun _ e=>nomatch e⟩
 | int i =>
  obtain ⟨t,rfl⟩:=r
  cases (show T = "int" from ty)
  exact ⟨typeIs_int s i t,fun _ e=>nomatch e⟩
 | ref p =>
  cases r
  rcases ty with ⟨rfl,xs,hq⟩ | ⟨rfl,o,hk,hc,hd⟩ | ⟨rfl,hk⟩ | ⟨rfl,S,n,hk⟩
  ·obtain ⟨its,_,pl,_⟩:=I.list hq
   refine ⟨pl.isList.typeIs,fun a e=>?_⟩
   cases e
   obtain ⟨o,n,e,c,hd,_⟩:=pl
   exact ⟨o,e,hd⟩
  ·refine ⟨⟨o,I.kIn p o hk,hc⟩,fun a e=>?_⟩
   cases e
   exact ⟨o,I.kIn _ o hk,hd⟩
  ·have z:∃ o,s.heap.get? p = some o/\o.ExactDict:=by
    rcases hk with ⟨kvs,hk⟩ | ⟨kvs,hk⟩
    ·obtain ⟨_,_,_,_,o,_,_,e,ex,_⟩:=I.hok p _ hk
     exact ⟨o,e,ex⟩
    ·obtain ⟨_,_,_,_,o,_,_,e,ex,_⟩:=I.hok p _ hk
     exact ⟨o,e,ex⟩
   obtain ⟨o,e,ex⟩:=z
   refine ⟨⟨o,e,ex.1⟩,fun a e2=>?_⟩
   cases e2
   exact ⟨o,e,ex.2.1⟩
  ·obtain ⟨o,_,_,_,e,ex,_⟩:=I.hok p _ hk
   refine ⟨⟨o,e,ex.1⟩,fun a e2=>?_⟩
   cases e2
   exact ⟨o,e,ex.2.1⟩
 | _=>exact False.elim ty
noncomputable def tBM (K:PySem.W.Frag) (T:String) (r:V->List V->Hp->VK->Prop) (to:TE) (t:TA):TE:=fun σ H Q=>to σ H fun x H1=>tyV K T x H1/\t σ H1 fun xs H2=>r x xs H2 Q
variable {o e:Expr} {es:List Expr} {to:TE} {t:TA} {name:Str} {apos cpos:Pos} {T id:String} {r:V->List V->Hp->VK->Prop}
theorem aFR (pa:PlainAttrs T) (slot:Slot T name id) (hty:typeOf (.builtin id) = pure (.type "method_descriptor")) (hm:MtR X id r) (ho:PE X o to) (ha:PA X (e :: es) t)
  (hbase:attributeBase o name X.env (eval o X.env) = eval o X.env:=by rfl)
  (hfew:((backTo cpos (starEach (e :: es) X.env)).all (fun x=>!x.1) && (backToKw cpos (keywordEach [] X.env)).all (fun x=>x.1.isSome)
   && decide ((e :: es).length + ([]:List Keyword).length + (if ([]:List Keyword).isEmpty then 0 else 1) < 30)) = true:=by rfl)
  (hline:(apos.endLine == cpos.line) = true:=by rfl) (hs:starEach (e :: es) X.env = (false,eval e X.env) :: starEach es X.env:=by rfl) (hplain:(backTo cpos (starEach es X.env)).any (·.1) = false:=by rfl) :
  PE X (.Call (.Attribute o name apos) (e :: es) [] cpos) (tBM X.K T r to t):=by
 intro pins s σ H Q I h
 refine wpAny_Call_method_late hbase hfew hline rfl (thn (ho pins s σ H _ I h) fun v s1 ⟨x,H1,I1,r1,ty,q1⟩=>?_)
 obtain ⟨h1,h2⟩:=aFb I1 r1 ty
 refine ⟨T,id,pa,slot,hty,h1,h2,?_⟩
 have hA:=ha cpos pins s1 σ H1 _ I1 q1
 rw [hs] at hA ⊢
 refine Calls.callWith_builtin (by show (false || (backTo cpos (starEach es X.env)).any (·.1)) = false;rw [hplain]<;>rfl) (Calls.evalArgs_plain ?_)
 exact thn hA fun us s2 ⟨vs,H2,I2,r2,q2⟩=>hm pins s2 σ H2 x vs v us Q I2 r1 r2 q2
end
end L2
namespace L2
open PySem PySem.Spec PyProof.Rows
noncomputable def MtM (X:Cx) (id:String) (r:V->List V->Hp->VK->Prop):Prop :=
 ∀ (pins:List (Addr × Obj)) (s:Shared) (σ:St) (H:Hp) (x:V) (xs:List V) (v:Value) (us:List Value) (Q:VK),Inv X pins σ H s->bF x v->bM xs us->r x xs H Q ->
  wpAny (model X.prog X.w) X.A (call (.builtin id) (v :: us)) (EP X pins σ Q) X.xe s
theorem bM.one:∀ {x:V} {us:List Value},bM [x] us->∃ u,us = [u]/\bF x u
 | _,_,.cons r .nil=>⟨_,rfl,r⟩
theorem bM.two:∀ {x y:V} {us:List Value},bM [x,y] us->∃ u v,us = [u,v]/\bF x u/\bF y v
 | _,_,_,.cons r (.cons q .nil)=>⟨_,_,rfl,r,q⟩
section
variable {X:Cx} {pins:List (Addr × Obj)} {σ:St} {H:Hp} {s:Shared} {l b:Addr} {xs ys zs:List V}
theorem Inv.lset {its its':List Value} {n:Nat} {f:Array Value->Array Value} {t':Nat} (I:Inv X pins σ H s) (hH:H l = some (.lst xs))
  (e:s.heap.get? l = some { cls:=.type "list",data:=.seq its.toArray n }) (hf:f its.toArray = its'.toArray) (hv:bM ys its') (hz:ys.length<=sizeLine) :
  Inv X pins σ (upd H l (.lst ys)) { s with heap:=s.heap.update l (Obj.mapSeq f),toks:=t' }:=by
 have q:=PySem.IsL.update e f
 rw [hf] at q
 refine I.write (x:=l) (e:=l) (by rw [hH];exact trivial) (.inl rfl) (fun b' u hb hu=>(Heap.get?_update_other s.heap (Obj.mapSeq f) (Ne.symm hb)).trans hu) ⟨_,q⟩ ?_
 exact ⟨hz,its',_,hv,q⟩
theorem Inv.lnew {its:List Value} {t':Nat} (I:Inv X pins σ H s) (hv:bM ys its) (hz:ys.length<=sizeLine) :
  Inv X pins σ (upd H s.heap.objs.size (.lst ys)) { s with heap:=s.heap.push { cls:=.type "list",data:=.seq its.toArray },toks:=t' } :=
 I.laid (fun _ _ q=>Heap.get?_push_of_some _ q) (Nat.le_refl _) ⟨hz,its,0,hv,Heap.get?_push_size _ rfl⟩
theorem Inv.fresh (I:Inv X pins σ H s):H s.heap.objs.size = none:=I.hok.fresh (Nat.le_refl _)
theorem Inv.lstM (I:Inv X pins σ H s) (hH:H l = some (.lst xs)):xs.length<=sizeLine/\∃ (its:List Value) (n:Nat),bM xs its/\xs.length = its.length/\s.heap.get? l = some { cls:=.type "list",data:=.seq its.toArray n }:=by
 obtain ⟨z,its,n,r,e⟩:=I.hok l _ hH
 exact ⟨z,its,n,r,r.length,e⟩
end
section
variable {X:Cx}
noncomputable def aB4:V->List V->Hp->VK->Prop:=fun x vs H Q=>∃ l xs y,x = .ref l/\vs = [y]/\H l = some (.lst xs)/\xs.length < sizeLine/\Q .non (upd H l (.lst (xs ++ [y])))
theorem zJ:MtM X "list.append" aB4:=by
 intro pins s σ H x vs v us Q I rx rv h
 obtain ⟨l,xs,y,rfl,rfl,hH,hz,q⟩:=h
 cases rx
 obtain ⟨u,rfl,ru⟩:=rv.one
 obtain ⟨z,its,n,r,hl,e⟩:=I.lstM hH
 refine call_meets F.slot_list_append ⟨_,e,rfl⟩ F.entry_list_append (F.args_list_append_2 _ _) (PySem.list_append l its.toArray n u (by rw [List.size_toArray];omega)) ⟨e,?_⟩
 refine ⟨.non,_,I.lset (its':=its ++ [u]) hH e (by simp) (r.append (.cons ru .nil)) ?_,rfl,q⟩
 rw [List.length_append,List.length_singleton]
 omega
noncomputable def aHu:R2:=fun x y H Q=>∃ l b xs zs,x = .ref l/\y = .ref b/\H l = some (.lst xs)/\H b = some (.lst zs)/\xs.length + zs.length<=sizeLine/\∀ p,H p = none->Q (.ref p) (upd H p (.lst (xs ++ zs)))
theorem aDD:OpR X (binaryOp .Add) aHu:=by
 intro pins s σ H x y v u Q I rx ry h
 obtain ⟨l,b,xs,zs,rfl,rfl,hH,hB,hz,q⟩:=h
 cases rx
 cases ry
 obtain ⟨z,its,n,r,hl,e⟩:=I.lstM hH
 obtain ⟨z2,its2,n2,r2,hl2,e2⟩:=I.lstM hB
 refine PySem.P.add_list e e2 ?_ (by rw [List.size_toArray,List.size_toArray];omega)
 have ea:its.toArray ++ its2.toArray = (its ++ its2).toArray:=by simp
 rw [ea]
 exact ⟨.ref _,_,I.lnew (t':=s.toks) (r.append r2) (by rw [List.length_append];omega),rfl,q _ I.fresh⟩
end
section
variable {prog:Program} {w:World} {A:Around} {E:Value->Shared->Prop} {s:Shared}
end
section
variable {X:Cx}
end
end L2
namespace Att
open PySem PySem.W PySem.Calls PyProof.Rows
theorem oQ {P:Params} {h:Heap}:∀ (ns:List Int) (vs:List Value),WellAll P h vs (ns.map WData.int)->IntsAre vs ns:=by
 intro ns
 induction ns with
 | nil =>
  intro vs w
  rw [List.map_nil] at w
  cases w
  exact .nil
 | cons n ns ih =>
  intro vs w
  rw [List.map_cons] at w
  cases w with
  | cons a b =>
   cases a
   exact .cons _ _ (ih _ b)
theorem yY {l:OpenLaw} {n:Nat} (hn:l.most = some n) {P:Params} {h:Heap} {args:List WData} {vals:List Value}
  (hpre:l.row.toRowW.claim.pre args = true) (hwl:WellAll P h vals args) :
  ∃ a vs ns,vals = [Value.ref a]/\args = [WData.list (ns.map WData.int)]/\h.get? a = some { cls:=.type "list",data:=.seq vs.toArray }/\IntsAre vs ns/\ns.length<=n:=by
 have hsh:WShape.hasAll [] args [.list .int] = true:=(pre_splitW hpre).1
 have hc:l.pre.holds [] { args:=args } = true:=(pre_splitW hpre).2
 obtain ⟨d,r,rfl,h1,h2⟩:=hasAllW_cons hsh
 obtain rfl:=hasAllW_nil h2
 obtain ⟨xs,rfl,h3⟩:=hasW_list h1
 obtain ⟨ns,rfl⟩:=items_int h3
 have hlen:ns.length<=n:=by
  unfold OpenLaw.pre at hc
  have h4:(WTm.not (.lt (.lit (.int (n:Int))) (.len (.arg 0)))).holds [] { args:=[.list (ns.map .int)] } = true:=by
   have h4:=(holds_andW hc).1
   rw [hn] at h4
   exact h4
  have h5:=condW_of h4 (w_not (w_lt w_lit (w_len_list (w_arg rfl))))
  rw [List.length_map] at h5
  refine Nat.le_of_not_lt fun q=>?_
  have q':(n:Int) < ((ns.length:Nat):Int):=by omega
  first
   | (rw [decide_eq_true q'] at h5;exact absurd h5 (by decide))
   | (simp at h5;omega)
 cases hwl with
 | cons w1 w2 =>
  cases w2
  cases w1 with
  | list ho hall=>exact ⟨_,_,ns,rfl,rfl,ho,oQ ns _ hall,hlen⟩
theorem xY (l:OpenLaw) (args:List WData):l.row.toRowW.claim.post args (.bool true) args = true :=
 postW_of (r:=l.row.toRowW) (X:=(true == true))
  (show WShape.has [] (.bool true) .bool = true by first | rfl | decide | simp [WShape.has,WShape.arms,WShape.armsAll])
  (show (WTm.eq .res (.lit (.bool true))).value [] { args:=args,res:=some (.bool true),after:=args } = some (.bool (true == true)) from w_eq_bool (w_res rfl) w_lit) rfl
theorem attach_call {l:OpenLaw} {n:Nat} {q:Program} {loose:List Str} {XP:(Str->Option Value)->Heap->Prop} {YP:World->Heap->Prop} {d:DefRec}
  (hn:l.most = some n) (hdf:d.params.defaults = [])
  (call:∀ (w:World) (s₀ s₁:Shared) (mg mb:Str->Option Value) (fa:Addr) (o:Obj) (pm cd doc:Value) (a:Addr) (vs:List Value) (ns:List Int),
   Ground q loose [] XP w s₀ mg mb s₁.heap->YP w s₁.heap ->
   s₁.heap.get? fa = some o->o.data = .func (docDef d.name d.params d.body d.scope pm cd doc)->s₁.heap.CodeRec cd d.name->mg d.name = some (.ref fa) ->
   s₁.heap.get? a = some { cls:=.type "list",data:=.seq vs.toArray }->IntsAre vs ns->ns.length<=n->s₁.gens = #[] ->
   codeAny (model l.prog w) callerA (.call (.ref fa) ⟨[.ref a],[]⟩) (fun r s'=>r = .ok (.ret (.bool true))/\OldK s₁.heap s'.heap/\s'.os = s₁.os/\AllBare s'.gens) s₁) :
  WalkO q loose XP YP l.row.toRowW d [] (fun f vs=>PySem.call f vs):=by
 intro w s₀ s₁ mg mb G Y fa o pm cd doc dV kV ho hd hcd hD hmg hg args vals as hpre hlay hrd hwl hlo
 obtain rfl:dV = .none:=Dflts.none hD hdf
 obtain rfl:kV = .none:=Dflts.noKw hD
 obtain ⟨a,vs,ns,rfl,rfl,hobj,hints,hlen⟩:=yY hn hpre hwl
 refine enter_call (codeAny_mono (call w s₀ s₁ mg mb fa o pm cd doc a vs ns G Y ho (fd_plain hd) hcd hmg hobj hints hlen hg) fun r s' hq=>?_)
 obtain ⟨rfl,h2,h3,h4⟩:=hq
 exact ⟨.inl ⟨.bool true,.bool true,[],rfl,fun _=>rfl,.bool true,xY l _,fun _=>⟨List.Pairwise.nil,fun _ hm=>(nomatch hm)⟩⟩,h2,h3,h4⟩
section
variable {prog:Program} {w:World} {A:Around} {E:Value->Shared->Prop} {s:Shared} {K:Frag}
end
end Att
namespace L2
open PySem PySem.Spec PyProof.Rows
theorem nH:∀ {vs:List Value} {ns:List Int},IntsAre vs ns->bM (ns.map V.int) vs
 | _,_,.nil=>.nil
 | _,_,.cons n t h=>.cons ⟨t,rfl⟩ (nH h)
noncomputable def aFI (H:Hp):Prop:=∀ b,H b = none ∨ ∃ o xs,H b = some (.frz o (.lst xs))
theorem aAP {P:Program} {w:World} {K:PySem.W.Frag} {mg mb:Str->Option Value} {CX:CXT} {k:Nat} {fa a:Addr} {fd:FuncData} {x:Str} {sp:Sp} {s₁:Shared} {vs:List Value} {ns:List Int}
  (KX:K.In s₁.heap) (hns:s₁.heap.Ns mainGlobals mg) (hb:s₁.heap.Ns builtinsNs mb) (hbb:∀ x:Str,x ≠ "__name__"->mb x = bootBuiltins x) (hlim:s₁.heap.NoLimit) (hg:s₁.gens = #[])
  (ha:s₁.heap.get? a = some { cls:=.type "list",data:=.seq vs.toArray }) (hi:IntsAre vs ns) (hl:ns.length<=sizeLine) (hr:dN k callerA)
  (F:∀ base:Heap,K.In base->base.Ns mainGlobals mg->jD P w K mg base CX k fa fd [x] sp) (hbind:∀ (s:Shared) (u:Value),BindsTo s fd ⟨[u],[]⟩ [(x,u)])
  (hsp:∀ H:Hp,aFI H->SqL K H a (ns.map V.int)->sp [.ref a] H (fun v _=>v = .bl true) fun _ _ _=>False)
  (hCX:∀ H e s',CX [] H s₁ (fun _ _ _=>False) e s'->False) :
  codeAny (model P w) callerA (.call (.ref fa) ⟨[.ref a],[]⟩) (fun r s'=>r = .ok (.ret (.bool true))/\OldK s₁.heap s'.heap/\s'.os = s₁.os/\AllBare s'.gens) s₁:=by
 have rv:=nH hi
 have lenV:=hi.length
 have core:∀ H:Hp,aFI H->SqL K H a (ns.map V.int)->HOk P w H s₁.heap->(∀ b,H b ≠ none->b = a)->(H a ≠ none->K.lookup a = none) ->
   codeAny (model P w) callerA (.call (.ref fa) ⟨[.ref a],[]⟩) (fun r s'=>r = .ok (.ret (.bool true))/\OldK s₁.heap s'.heap/\s'.os = s₁.os/\AllBare s'.gens) s₁:=by
  intro H hO hS hok hA hK
  have base_of:∀ {b:Addr} {o:Obj},s₁.heap.get? b = some o->H b = none->(tW s₁.heap H).get? b = some o:=fun e n=>aBg e n
  have noA:∀ {b:Addr} {o:Obj} {es:Array DictEntry} {ep:Nat},s₁.heap.get? b = some o->o.data = .dict es ep->H b = none:=fun {b o es ep} e d=>by
   cases q:H b with
   | none=>rfl
   | some u =>
    have e':b = a:=hA b (by rw [q];simp)
    subst e'
    rw [ha] at e;cases e
    have d':Data.seq vs.toArray _ = Data.dict es ep:=d
    cases d'
  have nsK:∀ {b:Addr} {m:Str->Option Value},s₁.heap.Ns b m->(tW s₁.heap H).Ns b m:=fun {b m} ⟨o,es,ep,e,d,r⟩=>⟨o,es,ep,base_of e (noA e d),d,r⟩
  have hKb:K.In (tW s₁.heap H):=fun b o e=>base_of (KX b o e) (by
   cases q:H b with
   | none=>rfl
   | some u =>
    have e':b = a:=hA b (by rw [q];simp)
    subst e'
    rw [hK (by rw [q];simp)] at e;cases e)
  have hM:Mod K mg (tW s₁.heap H):=⟨hKb,nsK hns,⟨mb,nsK hb,hbb⟩,let ⟨mc,h1,h2⟩:=hlim;⟨mc,nsK h1,h2⟩⟩
  have e0:vV P w K mg (tW s₁.heap H) callerA [] s₁ H:=⟨rfl,hM,fun b o e=>aCC e,Nat.le_of_eq (yC _ _),trivial,fun b hb=>absurd (show b ∈ ([]:List Addr) from hb) (by simp),hok,.of_eq hg⟩
  refine codeAny_mono ((F _ hKb (nsK hns)).run callerA [] s₁ H ⟨[.ref a],[]⟩ [.ref a] [.ref a] _ _ hr e0 (hbind s₁ (.ref a)) (.cons rfl .nil) (hsp H hO hS)) fun r s' h=>?_
  cases r with
  | error e=>exact (hCX H e s' h).elim
  | ok fl =>
   cases fl with
   | next=>exact False.elim h
   | brk=>exact False.elim h
   | cont=>exact False.elim h
   | ret u =>
    obtain ⟨v,H',os,bare,un,hok',r',q⟩:=h
    have q':v = .bl true:=q
    subst q'
    obtain rfl:u = Value.bool true:=r'
    refine ⟨rfl,OldK.of_keep fun b o e=>?_,os,bare⟩
    cases q:H b with
    | none=>exact un.keep b o e q (by intro z;exact absurd (show b ∈ ([]:List Addr) from z) (by simp)) (by simp)
    | some u =>
     rcases hO b with z | ⟨ob,xs,z⟩
     ·rw [q] at z;cases z
     ·have z2:=un.frzs b ob _ z
      obtain ⟨e1,_⟩:=hok b _ z
      obtain ⟨e2,_⟩:=hok' b _ z2
      rw [e] at e1;cases e1
      exact e2
 cases hk:K.lookup a with
 | some o =>
  have e:=KX a o hk
  rw [ha] at e
  cases e
  refine core (fun _=>none) (fun _=>.inl rfl) (.inr ⟨_,vs.toArray,_,hk,rfl,rfl,rfl,by rw [List.size_toArray,lenV];exact hl,by simpa using rv⟩) (fun b u z=>by have z':(none:Option HO) = some u:=z;cases z') (fun b z=>absurd rfl z) fun z=>absurd rfl z
 | none =>
  refine core (fun b=>if b = a then some (.frz { cls:=.type "list",data:=.seq vs.toArray } (.lst (ns.map V.int))) else none) (fun b=>?_) (.inl (.inr ⟨{ cls:=.type "list",data:=.seq vs.toArray },if_pos rfl⟩)) (fun b u z=>?_) (fun b z=>?_) fun _=>hk
  ·by_cases hb:b = a
   ·exact .inr ⟨_,_,if_pos hb⟩
   ·exact .inl (if_neg hb)
  ·by_cases hb:b = a
   ·have z':=(if_pos hb).symm.trans z
    cases z'
    subst hb
    exact ⟨ha,by rw [List.length_map];exact hl,vs,_,rv,ha⟩
   ·have z':=(if_neg hb).symm.trans z
    cases z'
  ·by_cases hb:b = a
   ·exact hb
   ·exact absurd (if_neg hb) z
end L2
namespace L2
open PySem PySem.Spec PyProof.Rows
end L2
namespace L2
open PySem PySem.Spec PyProof.Rows
noncomputable def jG (s:Stmt):Arguments:=match s with
 | .FunctionDef _ a _ _ _ _ _ _ _ _=>a
 | _=>{ posonlyargs:=[],args:=[],vararg:=none,kwonlyargs:=[],kw_defaults:=[],kwarg:=none,defaults:=[] }
noncomputable def dO (s:Stmt):List Stmt:=match s with
 | .FunctionDef _ _ b _ _ _ _ _ _ _=>b
 | _=>[]
noncomputable def aJ (s:Stmt):Scope:=match s with
 | .FunctionDef _ _ _ _ _ _ sc _ _ _=>sc
 | _=>{ kind:=.function,names:=[],isGenerator:=false,isCoroutine:=false }
noncomputable abbrev CX0:CXT:=fun _ _ _ _ _ _=>False
noncomputable abbrev E0:XK:=fun _ _ _=>False
theorem aGb {X:Cx}:sS CX0 X E0:=fun _ _ _ _ _ _ _ h=>h.elim
structure Fun (K:PySem.W.Frag) (x qual:Str) (st:Stmt) (f:Addr) (fd:FuncData):Prop where
 ex:∃ (oc:Value) (od:Option Addr) (kV doc pm:Value) (an:Option Addr) (cdv ct:Value) (osl:Array (Option Value)),
  fd = PySem.W.fnOf x qual (jG st) (dO st) (aJ st) .none kV doc pm an cdv ct/\K.lookup f = some ⟨oc,od,.func fd,osl⟩/\PySem.W.codeIn K cdv qual = true
 kp:PySem.W.keepIn K (.ref f) = true
section
variable {P:Program} {w:World} {K:PySem.W.Frag} {mg:Str->Option Value} {base:Heap}
theorem Fun.ok {x qual:Str} {st:Stmt} {f:Addr} {fd:FuncData} {N ps:List Str} {k:Nat} {sp:Sp} (F:Fun K x qual st f fd) (S:aT N ps (aJ st)) (len:∀ vs H Q E,sp vs H Q E->vs.length = ps.length)
  (hbody:∀ (cdv:Value) (A:Around) (outer:List Env) (s:Shared) (H:Hp) (vs:List V) (Q:VK) (E:XK),dN k (A.deeper (envOfC qual (aJ st) s.heap.objs.size f cdv))->sp vs H Q E ->
   ∃ t,PSs (jR CX0 P w K mg base N qual (aJ st) f cdv A outer s H E).nox (dO st) t/\t { nx:=fun _ H'=>Q .non H',rt:=Q } (start N vs) H):jD P w K mg base CX0 (k + 1) f fd ps sp:=by
 obtain ⟨oc,od,kV,doc,pm,an,cdv,ct,osl,rfl,lk,hcd⟩:=F.ex
 refine aDi lk hcd S len fun A outer s H vs Q E hr hsp=>?_
 obtain ⟨t,h,q⟩:=hbody cdv A outer s H vs Q E hr hsp
 exact ⟨t,h.nox,q⟩
theorem Fun.binds {x qual:Str} {st:Stmt} {f:Addr} {fd:FuncData} {ps:List Str} (F:Fun K x qual st f fd)
  (h:∀ (kV doc pm:Value) (an:Option Addr) (cdv ct:Value) (us:List Value),us.length = ps.length->bindArgs (PySem.W.fnOf x qual (jG st) (dO st) (aJ st) .none kV doc pm an cdv ct) ⟨us,[]⟩ = pure (ps.zip us)):lE K fd ps []:=by
 obtain ⟨oc,od,kV,doc,pm,an,cdv,ct,osl,rfl,lk,hcd⟩:=F.ex
 exact .all (h kV doc pm an cdv ct)
theorem fun_mk {x qual:Str} {st:Stmt} {f:Addr} {oc:Value} {od an:Option Addr} {osl:Array (Option Value)} {kV doc pm cdv ct:Value} (l:K.lookup f = some ⟨oc,od,.func (PySem.W.fnOf x qual (jG st) (dO st) (aJ st) .none kV doc pm an cdv ct),osl⟩)
  (c:PySem.W.codeIn K cdv qual = true) (k:PySem.W.keepIn K (.ref f) = true):Fun K x qual st f (PySem.W.fnOf x qual (jG st) (dO st) (aJ st) .none kV doc pm an cdv ct):=⟨⟨oc,od,kV,doc,pm,an,cdv,ct,osl,rfl,l,c⟩,k⟩
end
theorem dZ {n:Nat} (h:n<=1000):n < sizeLine:=Nat.lt_of_le_of_lt h (by decide)
section
variable {X:Cx}
end
noncomputable def yA (H H':Hp):Prop:=∀ b o,H b = some o->H' b = some o
theorem yA.trans {H H1 H2:Hp} (a:yA H H1) (b:yA H1 H2):yA H H2:=fun c o h=>b c o (a c o h)
theorem yA.seq {K:PySem.W.Frag} {H H':Hp} {a:Addr} {xs:List V} (e:yA H H') (h:SqL K H a xs):SqL K H' a xs:=by
 rcases h with (h | ⟨o,h⟩) | h
 ·exact .inl (.inl (e _ _ h))
 ·exact .inl (.inr ⟨o,e _ _ h⟩)
 ·exact .inr h
end L2
set_option maxHeartbeats 4000000
namespace Dd
open PySem PySem.Spec PyProof.Rows L2
inductive D where
 | non | bl (b:Bool) | int (i:Int) | str (x:Str) | tup (xs:List D) | fz (xs:List D) | ref (a:Addr)
noncomputable def SqX (K:PySem.W.Frag) (H:Hp) (a:Addr) (xs:List V):Prop :=
 (∃ o,H a = some (.frz o (.lst xs))) ∨
 ∃ (its:Array Value) (n:Nat),K.lookup a = some { cls:=.type "list",data:=.seq its n }/\its.size<=sizeLine/\bM xs its.toList
theorem SqX.sq {K:PySem.W.Frag} {H:Hp} {a:Addr} {xs:List V} (h:SqX K H a xs):SqL K H a xs:=by
 rcases h with ⟨o,h⟩ | ⟨its,n,h,z,r⟩
 ·exact .inl (.inr ⟨o,h⟩)
 ·exact .inr ⟨_,its,n,h,rfl,rfl,rfl,z,r⟩
mutual
noncomputable def Rep (K:PySem.W.Frag) (H:Hp):D->V->Prop
 | .non,v=>v = .non
 | .bl b,v=>v = .bl b
 | .int i,v=>v = .int i
 | .str x,v=>v = .str x
 | .ref a,v=>v = .ref a
 | .tup ds,v=>∃ a xs,v = .ref a/\SqT K H a xs/\bG K H ds xs
 | .fz ds,v=>∃ a xs,v = .ref a/\SqX K H a xs/\bG K H ds xs
noncomputable def bG (K:PySem.W.Frag) (H:Hp):List D->List V->Prop
 | [],vs=>vs = []
 | d :: ds,vs=>∃ v r,vs = v :: r/\Rep K H d v/\bG K H ds r
end
structure Ext (H H':Hp):Prop where
 tup:∀ a xs,H a = some (.tup xs)->H' a = some (.tup xs)
 frz:∀ a o u,H a = some (.frz o u)->H' a = some (.frz o u)
theorem Ext.refl (H:Hp):Ext H H:=⟨fun _ _ h=>h,fun _ _ _ h=>h⟩
theorem Ext.trans {H H1 H2:Hp} (a:Ext H H1) (b:Ext H1 H2):Ext H H2:=⟨fun c xs h=>b.tup c xs (a.tup c xs h),fun c o u h=>b.frz c o u (a.frz c o u h)⟩
theorem Ext.new {H:Hp} {p:Addr} (h:H p = none) (o:HO):Ext H (upd H p o) :=
 ⟨fun a xs e=>by rw [bB (bH e h)];exact e,fun a ob u e=>by rw [bB (bH e h)];exact e⟩
theorem Ext.put {H:Hp} {p:Addr} {xs:List V} (h:H p = some (.lst xs)) (o:HO):Ext H (upd H p o) :=
 ⟨fun a ys e=>by rw [bB (lB e h (by intro z;cases z))];exact e,fun a ob u e=>by rw [bB (lB e h (by intro z;cases z))];exact e⟩
section
variable {K:PySem.W.Frag} {H H':Hp}
theorem jK (e:Ext H H') {a:Addr} {xs:List V} (h:SqT K H a xs):SqT K H' a xs:=by
 rcases h with (h | ⟨o,h⟩) | h
 ·exact .inl (.inl (e.tup _ _ h))
 ·exact .inl (.inr ⟨o,e.frz _ _ _ h⟩)
 ·exact .inr h
theorem pA (e:Ext H H') {a:Addr} {xs:List V} (h:SqX K H a xs):SqX K H' a xs:=by
 rcases h with ⟨o,h⟩ | h
 ·exact .inl ⟨o,e.frz _ _ _ h⟩
 ·exact .inr h
mutual
theorem Rep.ext (e:Ext H H'):∀ {d:D} {v:V},Rep K H d v->Rep K H' d v
 | .non,_,h=>by unfold Rep at h ⊢;exact h
 | .bl _,_,h=>by unfold Rep at h ⊢;exact h
 | .int _,_,h=>by unfold Rep at h ⊢;exact h
 | .str _,_,h=>by unfold Rep at h ⊢;exact h
 | .ref _,_,h=>by unfold Rep at h ⊢;exact h
 | .tup ds,_,h=>by
  unfold Rep at h ⊢
  obtain ⟨a,xs,e1,sq,r⟩:=h
  exact ⟨a,xs,e1,jK e sq,bG.ext e r⟩
 | .fz ds,_,h=>by
  unfold Rep at h ⊢
  obtain ⟨a,xs,e1,sq,r⟩:=h
  exact ⟨a,xs,e1,pA e sq,bG.ext e r⟩
theorem bG.ext (e:Ext H H'):∀ {ds:List D} {vs:List V},bG K H ds vs->bG K H' ds vs
 | [],_,h=>by unfold bG at h ⊢;exact h
 | d :: ds,_,h=>by
  unfold bG at h ⊢
  obtain ⟨v,r,e1,hv,hr⟩:=h
  exact ⟨v,r,e1,Rep.ext e hv,bG.ext e hr⟩
end
theorem bL {i:Int}:Rep K H (.int i) (.int i):=by unfold Rep;rfl
theorem cL {b:Bool}:Rep K H (.bl b) (.bl b):=by unfold Rep;rfl
theorem xR {x:Str}:Rep K H (.str x) (.str x):=by unfold Rep;rfl
theorem pC:Rep K H .non .non:=by unfold Rep;rfl
theorem eB {a:Addr}:Rep K H (.ref a) (.ref a):=by unfold Rep;rfl
theorem aP {i:Int} {v:V} (h:Rep K H (.int i) v):v = .int i:=by unfold Rep at h;exact h
theorem bN {b:Bool} {v:V} (h:Rep K H (.bl b) v):v = .bl b:=by unfold Rep at h;exact h
theorem bI {x:Str} {v:V} (h:Rep K H (.str x) v):v = .str x:=by unfold Rep at h;exact h
theorem cQ {v:V} (h:Rep K H .non v):v = .non:=by unfold Rep at h;exact h
theorem aW {a:Addr} {v:V} (h:Rep K H (.ref a) v):v = .ref a:=by unfold Rep at h;exact h
theorem bS {ds:List D} {v:V} (h:Rep K H (.tup ds) v):∃ a xs,v = .ref a/\SqT K H a xs/\bG K H ds xs:=by unfold Rep at h;exact h
theorem lJ {ds:List D} {v:V} (h:Rep K H (.fz ds) v):∃ a xs,v = .ref a/\SqX K H a xs/\bG K H ds xs:=by unfold Rep at h;exact h
theorem cN {ds:List D} {a:Addr} {xs:List V} (sq:SqT K H a xs) (r:bG K H ds xs):Rep K H (.tup ds) (.ref a):=by unfold Rep;exact ⟨a,xs,rfl,sq,r⟩
theorem dB:bG K H [] []:=by unfold bG;rfl
theorem aX {vs:List V} (h:bG K H [] vs):vs = []:=by unfold bG at h;exact h
theorem cG {d:D} {ds:List D} {v:V} {vs:List V} (h:Rep K H d v) (r:bG K H ds vs):bG K H (d :: ds) (v :: vs):=by unfold bG;exact ⟨v,vs,rfl,h,r⟩
theorem aO {d:D} {ds:List D} {vs:List V} (h:bG K H (d :: ds) vs):∃ v r,vs = v :: r/\Rep K H d v/\bG K H ds r:=by unfold bG at h;exact h
theorem bG.length:∀ {ds:List D} {vs:List V},bG K H ds vs->ds.length = vs.length
 | [],_,h=>by rw [aX h];rfl
 | d :: ds,_,h=>by
  obtain ⟨v,r,rfl,_,hr⟩:=aO h
  rw [List.length_cons,List.length_cons,bG.length hr]
theorem bG.get:∀ {ds:List D} {vs:List V} {i:Nat} {d:D},bG K H ds vs->ds[i]? = some d->∃ v,vs[i]? = some v/\Rep K H d v
 | [],_,i,d,h,e=>by simp at e
 | d0 :: ds,_,0,d,h,e=>by
  obtain ⟨v,r,rfl,hv,hr⟩:=aO h
  simp at e;subst e
  exact ⟨v,rfl,hv⟩
 | d0 :: ds,_,i + 1,d,h,e=>by
  obtain ⟨v,r,rfl,hv,hr⟩:=aO h
  exact bG.get (i:=i) hr (by simpa using e)
theorem bG.getV:∀ {ds:List D} {vs:List V} {i:Nat} {v:V},bG K H ds vs->vs[i]? = some v->∃ d,ds[i]? = some d/\Rep K H d v
 | [],_,i,v,h,e=>by rw [aX h] at e;simp at e
 | d0 :: ds,_,0,v,h,e=>by
  obtain ⟨v0,r,rfl,hv,hr⟩:=aO h
  simp at e;subst e
  exact ⟨d0,rfl,hv⟩
 | d0 :: ds,_,i + 1,v,h,e=>by
  obtain ⟨v0,r,rfl,hv,hr⟩:=aO h
  exact bG.getV (i:=i) hr (by simpa using e)
theorem bG.append:∀ {ds es:List D} {vs us:List V},bG K H ds vs->bG K H es us->bG K H (ds ++ es) (vs ++ us)
 | [],es,vs,us,h,q=>by rw [aX h];exact q
 | d :: ds,es,_,us,h,q=>by
  obtain ⟨v,r,rfl,hv,hr⟩:=aO h
  exact cG hv (bG.append hr q)
theorem bG.take:∀ {ds:List D} {vs:List V} (n:Nat),bG K H ds vs->bG K H (ds.take n) (vs.take n)
 | ds,vs,0,h=>by rw [List.take_zero,List.take_zero];exact dB
 | [],_,n + 1,h=>by rw [aX h];exact dB
 | d :: ds,_,n + 1,h=>by
  obtain ⟨v,r,rfl,hv,hr⟩:=aO h
  exact cG hv (bG.take n hr)
theorem bG.drop:∀ {ds:List D} {vs:List V} (n:Nat),bG K H ds vs->bG K H (ds.drop n) (vs.drop n)
 | ds,vs,0,h=>h
 | [],_,n + 1,h=>by rw [aX h];exact dB
 | d :: ds,_,n + 1,h=>by
  obtain ⟨v,r,rfl,hv,hr⟩:=aO h
  exact bG.drop n hr
theorem sE:∀ (ns:List Int),bG K H (ns.map D.int) (ns.map V.int)
 | []=>dB
 | n :: ns=>cG bL (sE ns)
end
inductive AK where
 | l (a:Addr) | d (a:Addr)
deriving DecidableEq
instance:Coe Addr AK:=⟨AK.l⟩
noncomputable abbrev DM:=AK->Option (List D)
noncomputable def cW (M:DM) (a:Addr) (ds:List D):DM:=fun b=>if b = AK.l a then some ds else M b
noncomputable def jM (M:DM) (a:Addr) (ds:List D):DM:=fun b=>if b = AK.d a then some ds else M b
theorem aL {M:DM} {a:Addr} {ds:List D}:cW M a ds a = some ds:=if_pos rfl
theorem mF {M:DM} {a b:Addr} {ds:List D} (h:b ≠ a):cW M a ds b = M b:=if_neg fun e=>h (AK.l.inj e)
theorem aAD {M:DM} {a:Addr} {b:AK} {ds:List D} (h:b ≠ AK.l a):cW M a ds b = M b:=if_neg h
theorem aBc {M:DM} {a b:Addr} {ds:List D}:cW M a ds (.d b) = M (.d b):=if_neg fun e=>nomatch e
theorem rV {M:DM} {a:Addr} {ds es:List D}:cW (cW M a ds) a es = cW M a es:=by
 funext b;unfold cW;split<;>rfl
theorem iI {M:DM} {a:Addr} {ds:List D}:jM M a ds (.d a) = some ds:=if_pos rfl
theorem xT {M:DM} {a b:Addr} {ds:List D} (h:b ≠ a):jM M a ds (.d b) = M (.d b):=if_neg fun e=>h (AK.d.inj e)
theorem aBl {M:DM} {a:Addr} {b:AK} {ds:List D} (h:b ≠ AK.d a):jM M a ds b = M b:=if_neg h
theorem aBi {M:DM} {a b:Addr} {ds:List D}:jM M a ds (.l b) = M (.l b):=if_neg fun e=>nomatch e
theorem sG {M:DM} {a:Addr} {ds es:List D}:jM (jM M a ds) a es = jM M a es:=by
 funext b;unfold jM;split<;>rfl
theorem vD {M:DM} {a b:Addr} {o:List D} (h:M a = some o) (h':M b = none):a ≠ b:=by
 intro e;subst e;rw [h] at h';cases h'
theorem oK {M:DM} {a b:AK} {o:List D} (h:M a = some o) (h':M b = none):a ≠ b:=by
 intro e;subst e;rw [h] at h';cases h'
noncomputable def kE (a:Addr) (es:List DictEntry):Heap->Prop:=fun h=>(a == sysModules) = false/\es.length<=sizeLine/\∃ ep,h.get? a = some { cls:=.type "dict",data:=.dict es.toArray ep }
noncomputable def aCN (K:PySem.W.Frag) (H:Hp) (d:D) (e:DictEntry):Prop:=∃ k v kv vv,d = .tup [.int e.hash,k,v]/\bF kv e.key/\Rep K H k kv/\bF vv e.val/\Rep K H v vv
theorem aCN.ext {K:PySem.W.Frag} {H H':Hp} {d:D} {e:DictEntry} (h:aCN K H d e) (x:Ext H H'):aCN K H' d e :=
 let ⟨k,v,kv,vv,a,b,c,f,g⟩:=h;⟨k,v,kv,vv,a,b,c.ext x,f,g.ext x⟩
noncomputable abbrev nZ (K:PySem.W.Frag) (H:Hp) (ds:List D) (es:List DictEntry):Prop:=Paired (aCN K H) ds es
theorem eC {K:PySem.W.Frag} {H H':Hp} {ds:List D} {es:List DictEntry} (h:nZ K H ds es) (x:Ext H H'):nZ K H' ds es:=Paired.mapP h fun _ _ r=>r.ext x
structure bJ (K:PySem.W.Frag) (M:DM) (H:Hp):Prop where
 l:∀ (a:Addr) ds,M (.l a) = some ds->∃ xs,H a = some (.lst xs)/\bG K H ds xs
 d:∀ (a:Addr) ds,M (.d a) = some ds->∃ es,H a = some (.ext (kE a es))/\nZ K H ds es
theorem Ext.putX {H:Hp} {p:Addr} {φ:Heap->Prop} (h:H p = some (.ext φ)) (o:HO):Ext H (upd H p o) :=
 ⟨fun a ys e=>by rw [bB (lB e h (by intro z;cases z))];exact e,fun a ob u e=>by rw [bB (lB e h (by intro z;cases z))];exact e⟩
section
variable {K:PySem.W.Frag} {H H':Hp} {M M':DM}
theorem bJ.fresh (h:bJ K M H) {p:Addr} (e:H p = none):M p = none:=by
 cases q:M p with
 | none=>rfl
 | some ds=>obtain ⟨xs,z,_⟩:=h.l p ds q;rw [e] at z;cases z
theorem bJ.freshD (h:bJ K M H) {p:Addr} (e:H p = none):M (.d p) = none:=by
 cases q:M (.d p) with
 | none=>rfl
 | some ds=>obtain ⟨xs,z,_⟩:=h.d p ds q;rw [e] at z;cases z
theorem bJ.new (h:bJ K M H) {p:Addr} (e:H p = none) (o:HO):bJ K M (upd H p o) where
 l:=fun a ds q=>by
  obtain ⟨xs,z,r⟩:=h.l a ds q
  exact ⟨xs,by rw [bB (bH z e)];exact z,r.ext (Ext.new e o)⟩
 d:=fun a ds q=>by
  obtain ⟨xs,z,r⟩:=h.d a ds q
  exact ⟨xs,by rw [bB (bH z e)];exact z,eC r (Ext.new e o)⟩
theorem bJ.lnew (h:bJ K M H) {p:Addr} (e:H p = none) {xs:List V} {ds:List D} (r:bG K H ds xs):bJ K (cW M p ds) (upd H p (.lst xs)) where
 l:=fun a es q=>by
  by_cases ha:a = p
  ·subst ha
   rw [aL] at q
   cases q
   exact ⟨xs,cR,r.ext (Ext.new e _)⟩
  ·rw [mF ha] at q
   obtain ⟨ys,z,r2⟩:=h.l a es q
   exact ⟨ys,by rw [bB ha];exact z,r2.ext (Ext.new e _)⟩
 d:=fun a es q=>by
  rw [aBc] at q
  obtain ⟨ys,z,r2⟩:=h.d a es q
  exact ⟨ys,by rw [bB (bH z e)];exact z,eC r2 (Ext.new e _)⟩
theorem bJ.put (h:bJ K M H) {p:Addr} {xs0:List V} (e:H p = some (.lst xs0)) {xs:List V} {ds:List D} (r:bG K H ds xs):bJ K (cW M p ds) (upd H p (.lst xs)) where
 l:=fun a es q=>by
  by_cases ha:a = p
  ·subst ha
   rw [aL] at q
   cases q
   exact ⟨xs,cR,r.ext (Ext.put e _)⟩
  ·rw [mF ha] at q
   obtain ⟨ys,z,r2⟩:=h.l a es q
   exact ⟨ys,by rw [bB ha];exact z,r2.ext (Ext.put e _)⟩
 d:=fun a es q=>by
  rw [aBc] at q
  obtain ⟨ys,z,r2⟩:=h.d a es q
  exact ⟨ys,by rw [bB (lB z e (by intro z;cases z))];exact z,eC r2 (Ext.put e _)⟩
theorem bJ.knew (h:bJ K M H) {p:Addr} (e:H p = none) {xs:List DictEntry} {ds:List D} (r:nZ K H ds xs):bJ K (jM M p ds) (upd H p (.ext (kE p xs))) where
 d:=fun a es q=>by
  by_cases ha:a = p
  ·subst ha
   rw [iI] at q
   cases q
   exact ⟨xs,cR,eC r (Ext.new e _)⟩
  ·rw [xT ha] at q
   obtain ⟨ys,z,r2⟩:=h.d a es q
   exact ⟨ys,by rw [bB ha];exact z,eC r2 (Ext.new e _)⟩
 l:=fun a es q=>by
  rw [aBi] at q
  obtain ⟨ys,z,r2⟩:=h.l a es q
  exact ⟨ys,by rw [bB (bH z e)];exact z,r2.ext (Ext.new e _)⟩
theorem bJ.kput (h:bJ K M H) {p:Addr} {φ:Heap->Prop} (e:H p = some (.ext φ)) {xs:List DictEntry} {ds:List D} (r:nZ K H ds xs):bJ K (jM M p ds) (upd H p (.ext (kE p xs))) where
 d:=fun a es q=>by
  by_cases ha:a = p
  ·subst ha
   rw [iI] at q
   cases q
   exact ⟨xs,cR,eC r (Ext.putX e _)⟩
  ·rw [xT ha] at q
   obtain ⟨ys,z,r2⟩:=h.d a es q
   exact ⟨ys,by rw [bB ha];exact z,eC r2 (Ext.putX e _)⟩
 l:=fun a es q=>by
  rw [aBi] at q
  obtain ⟨ys,z,r2⟩:=h.l a es q
  exact ⟨ys,by rw [bB (lB z e (by intro z;cases z))];exact z,r2.ext (Ext.putX e _)⟩
noncomputable def bK (M M':DM):Prop:=∀ a o,M a = some o->M' a = some o
theorem bK.refl (M:DM):bK M M:=fun _ _ h=>h
theorem bK.trans {M1 M2 M3:DM} (a:bK M1 M2) (b:bK M2 M3):bK M1 M3:=fun c o h=>b c o (a c o h)
theorem bK.new {M:DM} {p:Addr} (h:M p = none) (ds:List D):bK M (cW M p ds):=fun a o e=>by rw [aAD (oK e h)];exact e
theorem bK.newK {M:DM} {p:Addr} (h:M (.d p) = none) (ds:List D):bK M (jM M p ds):=fun a o e=>by rw [aBl (oK e h)];exact e
theorem bJ.sub (h:bJ K M' H) (s:bK M M'):bJ K M H:=⟨fun a ds q=>h.l a ds (s _ ds q),fun a ds q=>h.d a ds (s _ ds q)⟩
end
noncomputable abbrev bV:=List (Option D)
structure eI (K:PySem.W.Frag) (H:Hp) (ρ:bV) (σ:L2.St):Prop where
 len:ρ.length = σ.length
 get:∀ (i:Nat) d,ρ[i]? = some (some d)->∃ v,σ[i]? = some (some v)/\Rep K H d v
section
variable {K:PySem.W.Frag} {H H':Hp} {ρ:bV} {σ:L2.St}
theorem eI.ext (h:eI K H ρ σ) (e:Ext H H'):eI K H' ρ σ:=⟨h.len,fun i d q=>let ⟨v,a,b⟩:=h.get i d q;⟨v,a,b.ext e⟩⟩
theorem eI.set (h:eI K H ρ σ) {d:D} {v:V} (r:Rep K H d v) (i:Nat):eI K H (ρ.set i (some d)) (σ.set i (some v)):=by
 refine ⟨by rw [List.length_set,List.length_set,h.len],fun j d' q=>?_⟩
 rw [List.getElem?_set] at q
 by_cases hij:i = j
 ·subst hij
  rw [if_pos rfl] at q
  by_cases hl:i < ρ.length
  ·rw [if_pos hl] at q
   cases q
   exact ⟨v,by rw [List.getElem?_set,if_pos rfl,if_pos (by rw [<- h.len];exact hl)],r⟩
  ·rw [if_neg hl] at q
   cases q
 ·rw [if_neg hij] at q
  obtain ⟨u,a,b⟩:=h.get j d' q
  exact ⟨u,by rw [List.getElem?_set,if_neg hij];exact a,b⟩
end
noncomputable abbrev DQ:=D->DM->Prop
noncomputable abbrev DE:=bV->DM->DQ->Prop
noncomputable abbrev DT:=bV->DM->(Bool->DM->Prop)->Prop
noncomputable abbrev DA:=bV->DM->(List D->DM->Prop)->Prop
structure eY where
 nx:bV->DM->Prop
 rt:DQ
 bk:bV->DM->Prop:=fun _ _=>False
 ct:bV->DM->Prop:=fun _ _=>False
noncomputable abbrev DS:=eY->bV->DM->Prop
noncomputable abbrev DG:=D->bV->DM->(bV->DM->Prop)->Prop
noncomputable abbrev DGs:=List D->bV->DM->(bV->DM->Prop)->Prop
noncomputable def LQ (K:PySem.W.Frag) (H:Hp) (Q:DQ):VK:=fun v H'=>∃ d M',Rep K H' d v/\bJ K M' H'/\Ext H H'/\Q d M'
noncomputable def LT (K:PySem.W.Frag) (H:Hp) (Q:Bool->DM->Prop):Bool->Hp->Prop:=fun b H'=>∃ M',bJ K M' H'/\Ext H H'/\Q b M'
noncomputable def LA (K:PySem.W.Frag) (H:Hp) (Q:List D->DM->Prop):List V->Hp->Prop:=fun vs H'=>∃ ds M',bG K H' ds vs/\bJ K M' H'/\Ext H H'/\Q ds M'
noncomputable def LN (K:PySem.W.Frag) (H:Hp) (Q:bV->DM->Prop):L2.St->Hp->Prop:=fun σ' H'=>∃ ρ' M',eI K H' ρ' σ'/\bJ K M' H'/\Ext H H'/\Q ρ' M'
structure hV (K:PySem.W.Frag) (H:Hp) (D:eY) (E:mQ):Prop where
 nx:∀ σ' H',LN K H D.nx σ' H'->E.nx σ' H'
 rt:∀ v H',LQ K H D.rt v H'->E.rt v H'
 bk:∀ σ' H',LN K H D.bk σ' H'->E.bk σ' H'
 ct:∀ σ' H',LN K H D.ct σ' H'->E.ct σ' H'
noncomputable def low (K:PySem.W.Frag) (t:DE):TE:=fun σ H Q=>∃ ρ M Q',eI K H ρ σ/\bJ K M H/\t ρ M Q'/\∀ v H',LQ K H Q' v H'->Q v H'
noncomputable def aEz (K:PySem.W.Frag) (t:DT):TT:=fun σ H Q=>∃ ρ M Q',eI K H ρ σ/\bJ K M H/\t ρ M Q'/\∀ v H',LT K H Q' v H'->Q v H'
noncomputable def aE6 (K:PySem.W.Frag) (t:DA):TA:=fun σ H Q=>∃ ρ M Q',eI K H ρ σ/\bJ K M H/\t ρ M Q'/\∀ v H',LA K H Q' v H'->Q v H'
noncomputable def aA0 (K:PySem.W.Frag) (t:DS):TS:=fun E σ H=>∃ ρ M D,eI K H ρ σ/\bJ K M H/\t D ρ M/\hV K H D E
noncomputable def yV (K:PySem.W.Frag) (g:DG):TG:=fun v σ H Q=>∃ d ρ M Q',Rep K H d v/\eI K H ρ σ/\bJ K M H/\g d ρ M Q'/\∀ σ' H',LN K H Q' σ' H'->Q σ' H'
noncomputable def aGk (K:PySem.W.Frag) (g:DGs):TGs:=fun vs σ H Q=>∃ ds ρ M Q',bG K H ds vs/\eI K H ρ σ/\bJ K M H/\g ds ρ M Q'/\∀ σ' H',LN K H Q' σ' H'->Q σ' H'
noncomputable abbrev PDE (X:Cx) (e:Expr) (t:DE):Prop:=PE X e (low X.K t)
noncomputable abbrev PDT (X:Cx) (e:Expr) (t:DT):Prop:=PT X e (aEz X.K t)
noncomputable abbrev PDW (X:Cx) (e:Expr) (t:DT):Prop:=PW X e (aEz X.K t)
noncomputable abbrev PDA (X:Cx) (es:List Expr) (t:DA):Prop:=PA X es (aE6 X.K t)
noncomputable abbrev PDS (X:Cx) (st:Stmt) (t:DS):Prop:=PS X st (aA0 X.K t)
noncomputable abbrev iS (X:Cx) (st:List Stmt) (t:DS):Prop:=PSs X st (aA0 X.K t)
noncomputable abbrev PDG (X:Cx) (e:Expr) (g:DG):Prop:=PG X e (yV X.K g)
noncomputable abbrev uW (X:Cx) (es:List Expr) (g:DGs):Prop:=PGs X es (aGk X.K g)
section
variable {K:PySem.W.Frag} {H H1:Hp}
theorem LQ.back {Q:DQ} {v:V} {H2:Hp} (e:Ext H H1) (h:LQ K H1 Q v H2):LQ K H Q v H2:=let ⟨d,M,a,b,c,q⟩:=h;⟨d,M,a,b,e.trans c,q⟩
theorem LT.back {Q:Bool->DM->Prop} {v:Bool} {H2:Hp} (e:Ext H H1) (h:LT K H1 Q v H2):LT K H Q v H2:=let ⟨M,b,c,q⟩:=h;⟨M,b,e.trans c,q⟩
theorem LN.back {Q:bV->DM->Prop} {v:L2.St} {H2:Hp} (e:Ext H H1) (h:LN K H1 Q v H2):LN K H Q v H2:=let ⟨d,M,a,b,c,q⟩:=h;⟨d,M,a,b,e.trans c,q⟩
theorem hV.at {D:eY} {E:mQ} (h:hV K H D E) (e:Ext H H1):hV K H1 D E :=
 ⟨fun s H2 q=>h.nx s H2 (q.back e),fun s H2 q=>h.rt s H2 (q.back e),fun s H2 q=>h.bk s H2 (q.back e),fun s H2 q=>h.ct s H2 (q.back e)⟩
end
section
variable {X:Cx} {e:Expr} {st:Stmt} {sts:List Stmt}
theorem cF {t u:TE} (h:PE X e t) (k:∀ σ H Q,u σ H Q->t σ H Q):PE X e u:=fun pins s σ H Q I q=>h pins s σ H Q I (k σ H Q q)
theorem vK {t u:TT} (h:PT X e t) (k:∀ σ H Q,u σ H Q->t σ H Q):PT X e u:=fun pins s σ H Q I q=>h pins s σ H Q I (k σ H Q q)
theorem zP {t u:TT} (h:PW X e t) (k:∀ σ H Q,u σ H Q->t σ H Q):PW X e u:=fun wh pins s σ H Q I q=>h wh pins s σ H Q I (k σ H Q q)
theorem aBe {es:List Expr} {t u:TA} (h:PA X es t) (k:∀ σ H Q,u σ H Q->t σ H Q):PA X es u:=fun pos pins s σ H Q I q=>h pos pins s σ H Q I (k σ H Q q)
theorem gF {t u:TS} (h:PS X st t) (k:∀ D σ H,u D σ H->t D σ H):PS X st u:=fun pins s σ H D I q=>h pins s σ H D I (k D σ H q)
theorem tT {t u:TS} (h:PSs X sts t) (k:∀ D σ H,u D σ H->t D σ H):PSs X sts u:=fun pins s σ H D I q=>h pins s σ H D I (k D σ H q)
theorem aAd {t u:TG} (h:PG X e t) (k:∀ v σ H Q,u v σ H Q->t v σ H Q):PG X e u:=fun pins s σ H v w Q I r q=>h pins s σ H v w Q I r (k v σ H Q q)
theorem xC {es:List Expr} {t u:TGs} (h:PGs X es t) (k:∀ v σ H Q,u v σ H Q->t v σ H Q):PGs X es u:=fun pins s σ H v w Q I r q=>h pins s σ H v w Q I r (k v σ H Q q)
end
section
variable {X:Cx} {a b c e:Expr} {es:List Expr} {ta tb tc te:DE} {tA tB:DT} {t:DA} {pos:Pos}
noncomputable def aCX (i:Nat):DE:=fun ρ M Q=>match ρ[i]? with
 | some (some d)=>Q d M
 | _=>False
theorem aFK (i:Nat) {x:Str} {pos:Pos} (hN:X.N[i]? = some x:=by rfl) (hv:Vis X.env.scope x:=by first | exact Or.inl rfl | exact Or.inr (Or.inl rfl) | exact Or.inr (Or.inr rfl)) (hd:(x == ("__debug__":Str)) = false:=by decide)
  (hcd:(x == ("__classdict__":Str)) = false:=by decide):PDE X (.Name x pos) (aCX i) :=
 cF (nF (i:=i) hN hv hd hcd) fun σ H Q ⟨ρ,M,Q',re,hm,q,k⟩=>by
  unfold aCX at q
  split at q
  ·rename_i d e
   obtain ⟨v,e1,r⟩:=re.get i d e
   exact ⟨v,e1,k v H ⟨d,M,r,hm,.refl H,q⟩⟩
  ·exact q.elim
noncomputable def dC (d:D):DE:=fun _ M Q=>Q d M
theorem aFa {i j pos}:PDE X (.Constant (.int i) j pos) (dC (.int i)):=cF aFx fun σ H Q ⟨ρ,M,Q',re,hm,q,k⟩=>k _ H ⟨_,M,bL,hm,.refl H,q⟩
theorem aGl {i j pos}:PDE X (.Constant (.bool i) j pos) (dC (.bl i)):=cF aGv fun σ H Q ⟨ρ,M,Q',re,hm,q,k⟩=>k _ H ⟨_,M,cL,hm,.refl H,q⟩
theorem aEn {j pos}:PDE X (.Constant .none j pos) (dC .non):=cF aFA fun σ H Q ⟨ρ,M,Q',re,hm,q,k⟩=>k _ H ⟨_,M,pC,hm,.refl H,q⟩
theorem aDr {x j pos}:PDE X (.Constant (.str x) j pos) (dC (.str x)):=cF aDI fun σ H Q ⟨ρ,M,Q',re,hm,q,k⟩=>k _ H ⟨_,M,xR,hm,.refl H,q⟩
theorem aCp {x:Str} {d:D} {v:V} {u:Value} {pos:Pos} (hg:Gl X x) (hm:X.mg x = some u) (r:bF v u) (hr:∀ H,Rep X.K H d v) (hd:(x == ("__debug__":Str)) = false:=by decide):PDE X (.Name x pos) (dC d) :=
 cF (xW hg hm r hd) fun σ H Q ⟨ρ,M,Q',re,hm,q,k⟩=>k _ H ⟨_,M,hr H,hm,.refl H,q⟩
noncomputable abbrev D2:=D->D->DM->DQ->Prop
noncomputable def OpL (K:PySem.W.Frag) (r:R2) (r':D2):Prop:=∀ x y H M dx dy Q,Rep K H dx x->Rep K H dy y->bJ K M H->r' dx dy M Q->r x y H (LQ K H Q)
noncomputable def OpD (X:Cx) (f:Value->Value->Sem Value) (r':D2):Prop :=
 OpR X f fun x y H Q=>∃ dx dy M Q',Rep X.K H dx x/\Rep X.K H dy y/\bJ X.K M H/\r' dx dy M Q'/\∀ v H',LQ X.K H Q' v H'->Q v H'
theorem xN {pins:List (Addr × Obj)} {σ:L2.St} {Q Q':VK} {u:Value} {s:Shared} (h:EP X pins σ Q u s) (k:∀ v H,Q v H->Q' v H):EP X pins σ Q' u s:=let ⟨v,H,a,b,c⟩:=h;⟨v,H,a,b,k v H c⟩
theorem OpD.of {f:Value->Value->Sem Value} {r:R2} {r':D2} (h:OpR X f r) (l:OpL X.K r r'):OpD X f r':=fun pins s σ H x y v u Q I rx ry ⟨dx,dy,M,Q',r1,r2,hm,q,k⟩ =>
 thn (h pins s σ H x y v u _ I rx ry (l x y H M dx dy Q' r1 r2 hm q)) fun v s h=>xN h k
noncomputable def dOp (r:D2) (ta tb:DE):DE:=fun ρ M Q=>ta ρ M fun x M1=>tb ρ M1 fun y M2=>r x y M2 Q
theorem tS {r':D2} {σ:L2.St} {H:Hp} {Q:VK} {R:V->V->Hp->VK->Prop} (hR:∀ x y H1 Q1,(∃ dx dy M Q',Rep X.K H1 dx x/\Rep X.K H1 dy y/\bJ X.K M H1/\r' dx dy M Q'/\∀ v H',LQ X.K H1 Q' v H'->Q1 v H')->R x y H1 Q1)
  (h:low X.K (dOp r' ta tb) σ H Q):low X.K ta σ H fun x H1=>low X.K tb σ H1 fun y H2=>R x y H2 Q:=by
 obtain ⟨ρ,M,Q',re,hm,q,k⟩:=h
 refine ⟨ρ,M,_,re,hm,q,fun x H1 ⟨dx,M1,rx,hm1,e1,q1⟩=>⟨ρ,M1,_,re.ext e1,hm1,q1,fun y H2 ⟨dy,M2,ry,hm2,e2,q2⟩=>?_⟩⟩
 exact hR x y H2 Q ⟨dx,dy,M2,Q',rx.ext e2,ry,hm2,q2,fun v H' z=>k v H' (z.back (e1.trans e2))⟩
theorem aGn {op:Operator} {r:D2} (ho:OpD X (binaryOp op) r) (ha:PDE X a ta) (hb:PDE X b tb):PDE X (.BinOp a op b pos) (dOp r ta tb) :=
 cF (aG3 ho ha hb) fun σ H Q h=>tS (fun _ _ _ _ z=>z) h
theorem aEI {op:CmpOp} {r:D2} (ho:OpD X (compareOp op) r) (ha:PDE X a ta) (hb:PDE X b tb) (hm:behindInMarks op b = false:=by exact tH _):PDE X (.Compare a [op] [b] pos) (dOp r ta tb) :=
 cF (xL ho ha hb hm) fun σ H Q h=>tS (fun _ _ _ _ z=>z) h
noncomputable def rT (t:DE):DT:=fun ρ M Q=>t ρ M fun d M'=>match d with
 | .bl k=>Q k M'
 | _=>False
theorem vC {σ:L2.St} {H:Hp} {Q:Bool->Hp->Prop} (h:aEz X.K (rT te) σ H Q):low X.K te σ H fun x H'=>∃ k,x = .bl k/\Q k H':=by
 obtain ⟨ρ,M,Q',re,hm,q,k⟩:=h
 refine ⟨ρ,M,_,re,hm,q,fun x H1 ⟨d,M1,rd,hm1,e1,q1⟩=>?_⟩
 cases d with
 | bl c=>exact ⟨c,bN rd,k c H1 ⟨M1,hm1,e1,q1⟩⟩
 | _=>exact q1.elim
theorem aD1 {op:CmpOp} {r:D2} (ho:OpD X (compareOp op) r) (ha:PDE X a ta) (hb:PDE X b tb) (hm:behindInMarks op b = false:=by exact tH _):PDT X (.Compare a [op] [b] pos) (rT (dOp r ta tb)) :=
 vK (aCi ho ha hb hm) fun σ H Q h=>tS (R:=fun x y H Q1=>∃ dx dy M Q',Rep X.K H dx x/\Rep X.K H dy y/\bJ X.K M H/\r dx dy M Q'/\∀ v H',LQ X.K H Q' v H'->Q1 v H') (fun _ _ _ _ z=>z) (vC h)
theorem aEd (h:PDE X e te) (he:∀ whole,isTrue e X.env whole = (do let v <- whole;standAt e.pos;holding [v] (truthy v)):=by intro _;rfl):PDT X e (rT te) :=
 vK (aDB h he) fun σ H Q h=>vC h
noncomputable def aDW (t u:DT):DT:=fun ρ M Q=>t ρ M fun c M1=>if c = true then u ρ M1 Q else Q false M1
noncomputable def dOr (t u:DT):DT:=fun ρ M Q=>t ρ M fun c M1=>if c = true then Q true M1 else u ρ M1 Q
noncomputable def aFz (t:DT):DT:=fun ρ M Q=>t ρ M fun c M1=>Q (!c) M1
variable {cU:List Expr}
theorem aBX (ha:PDT X a tA):PDW X (.BoolOp .And [a] pos) tA:=aCv ha
theorem aFt (ha:PDT X a tA):PDW X (.BoolOp .Or [a] pos) tA:=aDK ha
theorem aEf (ha:PDT X a tA) (hb:PDW X (.BoolOp .And (b :: cU) pos) tB):PDW X (.BoolOp .And (a :: b :: cU) pos) (aDW tA tB) :=
 zP (aDJ ha hb) fun σ H Q ⟨ρ,M,Q',re,hm,q,k⟩=>⟨ρ,M,_,re,hm,q,fun c H1 ⟨M1,hm1,e1,q1⟩=>by
  cases c with
  | true=>exact ⟨ρ,M1,_,re.ext e1,hm1,q1,fun v H' z=>k v H' (z.back e1)⟩
  | false=>exact k false H1 ⟨M1,hm1,e1,q1⟩⟩
theorem aGj (ha:PDT X a tA) (hb:PDW X (.BoolOp .Or (b :: cU) pos) tB):PDW X (.BoolOp .Or (a :: b :: cU) pos) (dOr tA tB) :=
 zP (aFQ ha hb) fun σ H Q ⟨ρ,M,Q',re,hm,q,k⟩=>⟨ρ,M,_,re,hm,q,fun c H1 ⟨M1,hm1,e1,q1⟩=>by
  cases c with
  | false=>exact ⟨ρ,M1,_,re.ext e1,hm1,q1,fun v H' z=>k v H' (z.back e1)⟩
  | true=>exact k true H1 ⟨M1,hm1,e1,q1⟩⟩
theorem aHr (h:PDW X e tA):PDT X e tA:=PW.pt h
theorem aEY (ha:PDT X a tA):PDT X (.UnaryOp .Not a pos) (aFz tA) :=
 vK (aFy ha) fun σ H Q ⟨ρ,M,Q',re,hm,q,k⟩=>⟨ρ,M,_,re,hm,q,fun c H1 ⟨M1,hm1,e1,q1⟩=>k (!c) H1 ⟨M1,hm1,e1,q1⟩⟩
noncomputable def aA8 (ta tb:DE):DE:=fun ρ M Q=>ta ρ M fun x M1=>match x with
 | .bl c=>if c = true then tb ρ M1 Q else Q (.bl false) M1
 | _=>False
noncomputable def aDC (ta tb:DE):DE:=fun ρ M Q=>ta ρ M fun x M1=>match x with
 | .bl c=>if c = true then Q (.bl true) M1 else tb ρ M1 Q
 | _=>False
noncomputable def aBw (ta:DE):DE:=fun ρ M Q=>ta ρ M fun x M1=>match x with
 | .bl c=>Q (.bl (!c)) M1
 | _=>False
theorem aDA {op} (h:PDE X a ta):PDE X (.BoolOp op [a] pos) ta:=aEr h
theorem aDE (ha:PDE X a ta) (hb:PDE X (.BoolOp .And (b :: cU) pos) tb):PDE X (.BoolOp .And (a :: b :: cU) pos) (aA8 ta tb) :=
 cF (aE4 ha hb) fun σ H Q ⟨ρ,M,Q',re,hm,q,k⟩=>⟨ρ,M,_,re,hm,q,fun x H1 ⟨d,M1,rd,hm1,e1,q1⟩=>by
  cases d with
  | bl c =>
   refine ⟨c,bN rd,?_⟩
   cases c with
   | true=>exact ⟨ρ,M1,_,re.ext e1,hm1,q1,fun v H' z=>k v H' (z.back e1)⟩
   | false=>exact k _ H1 ⟨_,M1,cL,hm1,e1,q1⟩
  | _=>exact q1.elim⟩
theorem aF7 (ha:PDE X a ta) (hb:PDE X (.BoolOp .Or (b :: cU) pos) tb):PDE X (.BoolOp .Or (a :: b :: cU) pos) (aDC ta tb) :=
 cF (aGc ha hb) fun σ H Q ⟨ρ,M,Q',re,hm,q,k⟩=>⟨ρ,M,_,re,hm,q,fun x H1 ⟨d,M1,rd,hm1,e1,q1⟩=>by
  cases d with
  | bl c =>
   refine ⟨c,bN rd,?_⟩
   cases c with
   | false=>exact ⟨ρ,M1,_,re.ext e1,hm1,q1,fun v H' z=>k v H' (z.back e1)⟩
   | true=>exact k _ H1 ⟨_,M1,cL,hm1,e1,q1⟩
  | _=>exact q1.elim⟩
theorem aEC (ha:PDE X a ta):PDE X (.UnaryOp .Not a pos) (aBw ta) :=
 cF (aDG ha) fun σ H Q ⟨ρ,M,Q',re,hm,q,k⟩=>⟨ρ,M,_,re,hm,q,fun x H1 ⟨d,M1,rd,hm1,e1,q1⟩=>by
  cases d with
  | bl c=>exact ⟨c,bN rd,k _ H1 ⟨_,M1,cL,hm1,e1,q1⟩⟩
  | _=>exact q1.elim⟩
noncomputable def aFh (t:DT) (ta tb:DE):DE:=fun ρ M Q=>t ρ M fun c M1=>if c = true then ta ρ M1 Q else tb ρ M1 Q
theorem aA4 (hc:PDT X c tA) (ha:PDE X a ta) (hb:PDE X b tb):PDE X (.IfExp c a b pos) (aFh tA ta tb) :=
 cF (aAz hc ha hb) fun σ H Q ⟨ρ,M,Q',re,hm,q,k⟩=>⟨ρ,M,_,re,hm,q,fun c H1 ⟨M1,hm1,e1,q1⟩=>by
  cases c with
  | true=>exact ⟨ρ,M1,_,re.ext e1,hm1,q1,fun v H' z=>k v H' (z.back e1)⟩
  | false=>exact ⟨ρ,M1,_,re.ext e1,hm1,q1,fun v H' z=>k v H' (z.back e1)⟩⟩
noncomputable def oP:DA:=fun _ M Q=>Q [] M
noncomputable def hG (ta:DE) (tr:DA):DA:=fun ρ M Q=>ta ρ M fun x M1=>tr ρ M1 fun xs M2=>Q (x :: xs) M2
theorem pL:PDA X [] oP:=aBe sP fun σ H Q ⟨ρ,M,Q',re,hm,q,k⟩=>k [] H ⟨[],M,dB,hm,.refl H,q⟩
theorem kU (ha:PDE X e te) (hr:PDA X es t) (hs:starEach (e :: es) X.env = (false,eval e X.env) :: starEach es X.env:=by rfl):PDA X (e :: es) (hG te t) :=
 aBe (iZ ha hr hs) fun σ H Q ⟨ρ,M,Q',re,hm,q,k⟩=>⟨ρ,M,_,re,hm,q,fun x H1 ⟨dx,M1,rx,hm1,e1,q1⟩=>⟨ρ,M1,_,re.ext e1,hm1,q1,fun xs H2 ⟨dxs,M2,rxs,hm2,e2,q2⟩ =>
  k _ H2 ⟨dx :: dxs,M2,cG (rx.ext e2) rxs,hm2,e1.trans e2,q2⟩⟩⟩
noncomputable def aEM (t:DA):DE:=fun ρ M Q=>t ρ M fun xs M1=>xs.length<=1000/\Q (.tup xs) M1
noncomputable def aDH (t:DA):DE:=fun ρ M Q=>t ρ M fun xs M1=>xs.length<=1000/\∀ p:Addr,M1 p = none->Q (.ref p) (cW M1 p xs)
theorem aEh {x1} (h:PDA X es t):PDE X (.Tuple es x1 pos) (aEM t) :=
 cF (aFe h) fun σ H Q ⟨ρ,M,Q',re,hm,q,k⟩=>⟨ρ,M,_,re,hm,q,fun xs H1 ⟨ds,M1,rs,hm1,e1,q1,q2⟩=>⟨by rw [<- rs.length];exact Nat.le_of_lt (dZ q1),fun p hp =>
  k _ _ ⟨.tup ds,M1,cN (.of cR) (rs.ext (Ext.new hp _)),hm1.new hp _,e1.trans (Ext.new hp _),q2⟩⟩⟩
theorem aEy (h:PDA X es t):PDE X (.List es pos) (aDH t) :=
 cF (aEL h) fun σ H Q ⟨ρ,M,Q',re,hm,q,k⟩=>⟨ρ,M,_,re,hm,q,fun xs H1 ⟨ds,M1,rs,hm1,e1,q1,q2⟩=>⟨by rw [<- rs.length];exact Nat.le_of_lt (dZ q1),fun p hp =>
  k _ _ ⟨.ref p,_,eB,hm1.lnew hp rs,e1.trans (Ext.new hp _),q2 p (hm1.fresh hp)⟩⟩⟩
end
end Dd
namespace Dd
open PySem PySem.Spec PyProof.Rows L2
section
variable {X:Cx} {st:Stmt} {cU:List Stmt} {t u:DS} {e:Expr} {te:DE} {pos:Pos}
noncomputable def aBk:DS:=fun E ρ M=>E.nx ρ M
noncomputable def aFs (t u:DS):DS:=fun E ρ M=>t { E with nx:=u E } ρ M
theorem aB9:iS X [] aBk:=tT aCU fun E σ H ⟨ρ,M,D,re,hm,q,k⟩=>k.nx σ H ⟨ρ,M,re,hm,.refl H,q⟩
theorem aAn (h1:PDS X st t) (h2:iS X cU u):iS X (st :: cU) (aFs t u) :=
 tT (uC h1 h2) fun E σ H ⟨ρ,M,D,re,hm,q,k⟩=>⟨ρ,M,{ D with nx:=u D },re,hm,q,
  ⟨fun σ' H' ⟨ρ',M',re',hm',ex,q'⟩=>⟨ρ',M',D,re',hm',q',k.at ex⟩,k.rt,k.bk,k.ct⟩⟩
theorem aCq (h1:PDS X st t):iS X [st] t:=xK h1
noncomputable def aAA (te:DE):DS:=fun E ρ M=>te ρ M fun _ M1=>E.nx ρ M1
theorem aCe (he:PDE X e te) (hs:swapsWith e none pos.line X.env = pure false:=by rfl):PDS X (.Expr e pos) (aAA te) :=
 gF (aCs he hs) fun E σ H ⟨ρ,M,D,re,hm,q,k⟩=>⟨ρ,M,_,re,hm,q,fun v H1 ⟨d,M1,rd,hm1,ex,q1⟩=>k.nx σ H1 ⟨ρ,M1,re.ext ex,hm1,ex,q1⟩⟩
noncomputable def aFm (te:DE):DS:=fun E ρ M=>te ρ M E.rt
theorem aDv (he:PDE X e te):PDS X (.Return (some e) pos) (aFm te) :=
 gF (aFo he) fun E σ H ⟨ρ,M,D,re,hm,q,k⟩=>⟨ρ,M,_,re,hm,q,k.rt⟩
noncomputable def aEX (c:DT) (t u:DS):DS:=fun E ρ M=>c ρ M fun b M1=>if b = true then t E ρ M1 else u E ρ M1
theorem aGN {c:Expr} {a b:List Stmt} {tc:DT} (hc:PDT X c tc) (ha:iS X a t) (hb:iS X b u):PDS X (.If c a b pos) (aEX tc t u) :=
 gF (aFX hc ha hb) fun E σ H ⟨ρ,M,D,re,hm,q,k⟩=>⟨ρ,M,_,re,hm,q,fun b H1 ⟨M1,hm1,ex,q1⟩=>by
  cases b with
  | true=>exact ⟨ρ,M1,D,re.ext ex,hm1,q1,k.at ex⟩
  | false=>exact ⟨ρ,M1,D,re.ext ex,hm1,q1,k.at ex⟩⟩
noncomputable def vM:DS:=fun _ _ _=>False
theorem aBJ:PDS X st vM:=fun _ _ _ _ _ _ ⟨_,_,_,_,_,q,_⟩=>q.elim
end
section
variable {X:Cx} {pos:Pos} {e tg:Expr} {es:List Expr} {te:DE}
noncomputable def gN (i:Nat):DG:=fun d ρ M Q=>Q (ρ.set i (some d)) M
theorem aBP {i:Nat} {x:Str} (hN:X.N.Nodup) (hi:X.N[i]? = some x:=by rfl) (hx:Loc X.env.scope x:=by first | exact Or.inl rfl | exact Or.inr rfl) (hf:X.fn x = true ∨ X.env.scope.names.lookup x = some .local:=by first | exact .inl rfl | exact .inr rfl | assumption):PDG X (.Name x pos) (gN i) :=
 aAd (aC8 (i:=i) hN hi hx hf) fun v σ H Q ⟨d,ρ,M,Q',rd,re,hm,q,k⟩=>k _ H ⟨_,M,re.set rd i,hm,.refl H,q⟩
noncomputable def gNl:DGs:=fun ds ρ M Q=>match ds with
 | []=>Q ρ M
 | _=>False
noncomputable def gCn (t:DG) (u:DGs):DGs:=fun ds ρ M Q=>match ds with
 | d :: r=>t d ρ M fun ρ' M'=>u r ρ' M' Q
 | []=>False
theorem aBT:uW X [] gNl:=xC aB5 fun v σ H Q ⟨ds,ρ,M,Q',rd,re,hm,q,k⟩=>by
 cases ds with
 | nil=>exact ⟨aX rd,k σ H ⟨ρ,M,re,hm,.refl H,q⟩⟩
 | cons _ _=>exact q.elim
theorem aBn {t:DG} {u:DGs} (h1:PDG X e t) (h2:uW X es u) (hs:(assignEach (e :: es) X.env).map (·.2) = assign e X.env :: (assignEach es X.env).map (·.2):=by rfl):uW X (e :: es) (gCn t u) :=
 xC (aBK h1 h2 hs) fun v σ H Q ⟨ds,ρ,M,Q',rd,re,hm,q,k⟩=>by
  cases ds with
  | nil=>exact q.elim
  | cons d r =>
   obtain ⟨x,xs,rfl,rx,rxs⟩:=aO rd
   exact ⟨x,xs,rfl,d,ρ,M,_,rx,re,hm,q,fun σ' H' ⟨ρ',M',re',hm',ex,q'⟩=>⟨r,ρ',M',Q',rxs.ext ex,re',hm',q',fun σ2 H2 z=>k σ2 H2 (z.back ex)⟩⟩
noncomputable def gT (n:Nat) (t:DGs):DG:=fun d ρ M Q=>match d with
 | .tup ds=>ds.length = n/\t ds ρ M Q
 | _=>False
theorem aFf {k:Nat} {t:DGs} {n:Nat} (hc:X.calm = true) (h:uW X es t) (hn:(assignEach es X.env).length = n:=by rfl) (hst:(assignEach es X.env).findIdx? (·.1) = none:=by rfl):PDG X (.Tuple es k pos) (gT n t) :=
 aAd (aE8 hc h hn hst) fun v σ H Q ⟨d,ρ,M,Q',rd,re,hm,q,k⟩=>by
  cases d with
  | tup ds =>
   obtain ⟨a,xs,rfl,sq,rs⟩:=bS rd
   exact ⟨a,xs,rfl,sq,by rw [<- rs.length];exact q.1,ds,ρ,M,Q',rs,re,hm,q.2,k⟩
  | _=>exact q.elim
noncomputable def zD (te:DE) (g:DG):DS:=fun E ρ M=>te ρ M fun x M1=>g x ρ M1 E.nx
theorem aBY {g:DG} {σ:L2.St} {H:Hp} {E:mQ} (h:aA0 X.K (zD te g) E σ H):low X.K te σ H fun x H1=>yV X.K g x σ H1 E.nx:=by
 obtain ⟨ρ,M,D,re,hm,q,k⟩:=h
 exact ⟨ρ,M,_,re,hm,q,fun v H1 ⟨d,M1,rd,hm1,ex,q1⟩=>⟨d,ρ,M1,_,rd,re.ext ex,hm1,q1,fun σ' H' z=>k.nx σ' H' (z.back ex)⟩⟩
theorem aFp {g:DG} (he:PDE X e te) (hg:PDG X tg g) (hs:swapsWithSole [tg] e pos.line X.env = pure false:=by rfl) (hw:swappedStores [tg] e X.env = pure none:=by rfl)
  (h1:(assignEach [tg] X.env).map (·.2) = [assign tg X.env]:=by rfl):PDS X (.Assign [tg] e pos) (zD te g) :=
 gF (aDN he hg hs hw h1) fun E σ H h=>aBY h
theorem aEU {i:Nat} {x:Str} {pos':Pos} (hN:X.N.Nodup) (he:PDE X e te) (hi:X.N[i]? = some x:=by rfl) (hx:Loc X.env.scope x:=by first | exact Or.inl rfl | exact Or.inr rfl) (hs:swapsWith e (some (.Name x pos')) pos.line X.env = pure false:=by rfl) (hf:X.fn x = true ∨ X.env.scope.names.lookup x = some .local:=by first | exact .inl rfl | exact .inr rfl | assumption) :
  PDS X (.Assign [.Name x pos'] e pos) (zD te (gN i)) :=
 gF (aDQ (i:=i) hN hi hx he hs hf) fun E σ H ⟨ρ,M,D,re,hm,q,k⟩=>⟨ρ,M,_,re,hm,q,fun v H1 ⟨d,M1,rd,hm1,ex,q1⟩=>k.nx _ H1 ⟨_,M1,(re.ext ex).set rd i,hm1,ex,q1⟩⟩
noncomputable def aEW (i j:Nat) (ta:DA):DS:=fun E ρ M=>ta ρ M fun ds M1=>match ds with
 | [x,y]=>E.nx ((ρ.set i (some x)).set j (some y)) M1
 | _=>False
theorem aEQ {i j:Nat} {x y:Str} {a b:Expr} {ta:DA} {px py pt:Pos} {kt k2 pt2} (hc:X.calm = true) (hN:X.N.Nodup) (ha:PDA X [a,b] ta) (hi:X.N[i]? = some x:=by rfl) (hj:X.N[j]? = some y:=by rfl) (hij:i ≠ j:=by decide)
  (hx:X.env.scope.names.lookup x = some .local:=by rfl) (hy:X.env.scope.names.lookup y = some .local:=by rfl)
  (hw:swappedStores [.Tuple [.Name x px,.Name y py] kt pt] (.Tuple [a,b] k2 pt2) X.env = pure (some [x,y]):=by rfl)
  (hs:swapsWithSole [.Tuple [.Name x px,.Name y py] kt pt] (.Tuple [a,b] k2 pt2) pos.line X.env = pure false:=by rfl) :
  PDS X (.Assign [.Tuple [.Name x px,.Name y py] kt pt] (.Tuple [a,b] k2 pt2) pos) (aEW i j ta) :=
 gF (aDO (i:=i) (j:=j) hc hN hi hj hij hx hy ha hw hs) fun E σ H ⟨ρ,M,D,re,hm,q,k⟩=>⟨ρ,M,_,re,hm,q,fun vs H1 ⟨ds,M1,rs,hm1,ex,q1⟩=>by
  match ds,q1 with
  | [d1,d2],q1 =>
   obtain ⟨v1,r1,rfl,rv1,rr1⟩:=aO rs
   obtain ⟨v2,r2,rfl,rv2,rr2⟩:=aO rr1
   obtain rfl:=aX rr2
   exact ⟨v1,v2,rfl,k.nx _ H1 ⟨_,M1,((re.ext ex).set rv1 i).set rv2 j,hm1,ex,q1⟩⟩
  | [],q1=>exact q1.elim
  | [_],q1=>exact q1.elim
  | _ :: _ :: _ :: _,q1=>exact q1.elim⟩
end
section
variable {X:Cx} {pos:Pos}
noncomputable def wN (c:DT) (tb:DS):DS:=fun E ρ M=>∃ W:Nat->bV->DM->Prop,(∃ m,W m ρ M)/\∀ m ρ M,W m ρ M ->
 c ρ M fun b M1=>if b = true then tb { E with nx:=fun ρ' M'=>∃ m',m' < m/\W m' ρ' M',ct:=fun ρ' M'=>∃ m',m' < m/\W m' ρ' M',bk:=E.nx } ρ M1 else E.nx ρ M1
theorem aAu {c:Expr} {body:List Stmt} {tc:DT} {tb:DS} (hp:PassesOwn (model X.prog X.w) X.A X.env X.xe) (hc:PDT X c tc) (hb:iS X body tb):PDS X (.While c body [] pos) (wN tc tb) :=
 gF (aAk hp hc hb) fun E σ H ⟨ρ,M,D,re,hm,⟨W,⟨m0,w0⟩,turn⟩,k⟩=>by
  refine ⟨fun m σ' H'=>∃ ρ' M',eI X.K H' ρ' σ'/\bJ X.K M' H'/\Ext H H'/\W m ρ' M',⟨m0,ρ,M,re,hm,.refl H,w0⟩,?_⟩
  rintro m σ1 H1 ⟨ρ1,M1,re1,hm1,e1,w1⟩
  refine ⟨ρ1,M1,_,re1,hm1,turn m ρ1 M1 w1,fun b H2 ⟨M2,hm2,e2,q2⟩=>?_⟩
  cases b with
  | false=>exact k.nx σ1 H2 ⟨ρ1,M2,re1.ext e2,hm2,e1.trans e2,q2⟩
  | true =>
   refine ⟨fun σ' H'=>∃ m',m' < m/\∃ ρ' M',eI X.K H' ρ' σ'/\bJ X.K M' H'/\Ext H H'/\W m' ρ' M',fun σ' H' z=>z,?_⟩
   refine ⟨ρ1,M2,_,re1.ext e2,hm2,q2,?_⟩
   have ex:=e1.trans e2
   exact ⟨fun σ' H' ⟨ρ',M',a,b,c,m',l,d⟩=>⟨m',l,ρ',M',a,b,ex.trans c,d⟩,fun v H' z=>k.rt v H' (z.back ex),fun σ' H' z=>k.nx σ' H' (z.back ex),fun σ' H' ⟨ρ',M',a,b,c,m',l,d⟩=>⟨m',l,ρ',M',a,b,ex.trans c,d⟩⟩
theorem rL {c:DT} {tb:DS} {E:eY} {ρ:bV} {M:DM} (Pv:Nat->bV->DM->Prop) (m0:Nat) (h0:Pv m0 ρ M)
  (hs:∀ m ρ M,Pv m ρ M->c ρ M fun b M1=>if b = true then tb { E with nx:=fun ρ' M'=>∃ m',m' < m/\Pv m' ρ' M',ct:=fun ρ' M'=>∃ m',m' < m/\Pv m' ρ' M',bk:=E.nx } ρ M1 else E.nx ρ M1):wN c tb E ρ M:=⟨Pv,⟨m0,h0⟩,hs⟩
noncomputable def dIt (at':Option Addr) (ds:List D) (g:DG) (tb:DS):DS:=fun E ρ M=>∃ Pv:Nat->bV->DM->Prop,Pv 0 ρ M /\
 (∀ i ρ M,i<=ds.length->Pv i ρ M->∀ a,at' = some a->M a = some ds) /\
 (∀ i d ρ M,ds[i]? = some d->Pv i ρ M->g d ρ M fun ρ2 M2=>tb { E with nx:=Pv (i + 1),ct:=Pv (i + 1),bk:=E.nx } ρ2 M2)/\∀ ρ M,Pv ds.length ρ M->E.nx ρ M
noncomputable def aAS (tl:DE) (g:DG) (tb:DS):DS:=fun E ρ M=>tl ρ M fun d M1=>match d with
 | .tup ds=>dIt none ds g tb E ρ M1
 | _=>False
noncomputable def aAs (tl:DE) (g:DG) (tb:DS):DS:=fun E ρ M=>tl ρ M fun d M1=>match d with
 | .fz ds=>dIt none ds g tb E ρ M1
 | .ref a=>∃ ds,M1 a = some ds/\dIt (some a) ds g tb E ρ M1
 | _=>False
variable {iter tg:Expr} {body:List Stmt} {tl:DE} {g:DG} {tb:DS}
theorem aA2 {K:PySem.W.Frag} {a':Option Addr} {ds:List D} {E:mQ} {Dn:eY} {σ:L2.St} {ρ:bV} {M:DM} {H0 H:Hp} {J:It} (ex0:Ext H0 H) (re:eI K H ρ σ) (hm:bJ K M H) (k:hV K H0 Dn E) (h:dIt a' ds g tb Dn ρ M)
  (seq:∀ H',Ext H H'->(∀ M',bJ K M' H'->(∀ a,a' = some a->M' a = some ds)->∃ xs,bG K H' ds xs/\(∀ i,xs.length<=i->J.stop i H')/\(∀ i,i < xs.length->J.go i H')/\∀ i x H2,J.yld i H' x H2->H2 = H'/\xs[i]? = some x)) :
  ∃ W:Nat->Nat->L2.St->Hp->Prop,(∃ m,W 0 m σ H)/\∀ i m σ H,W i m σ H ->
   (J.stop i H/\E.nx σ H) ∨ (J.go i H/\∃ N:L2.St->Hp->Prop,(∀ σ' H',N σ' H'->∃ m',m' < m/\W (i + 1) m' σ' H')/\∀ x H',J.yld i H x H'->yV K g x σ H' fun σ2 H2=>aA0 K tb { E with nx:=N,ct:=N,bk:=E.nx } σ2 H2):=by
 obtain ⟨Pv,p0,hat,step,done⟩:=h
 refine ⟨fun i m σ' H'=>∃ ρ' M',eI K H' ρ' σ'/\bJ K M' H'/\Ext H H'/\m = ds.length - i/\i<=ds.length/\Pv i ρ' M',⟨ds.length,ρ,M,re,hm,.refl H,rfl,Nat.zero_le _,p0⟩,?_⟩
 rintro i m σ1 H1 ⟨ρ1,M1,re1,hm1,e1,rfl,hi,w1⟩
 obtain ⟨xs,rs,hst,hgo,hy⟩:=seq H1 e1 M1 hm1 (hat i ρ1 M1 hi w1)
 have hl:=rs.length
 by_cases hlt:i < ds.length
 ·refine .inr ⟨hgo i (by omega),fun σ' H'=>∃ ρ' M',eI K H' ρ' σ'/\bJ K M' H'/\Ext H H'/\Pv (i + 1) ρ' M',fun σ' H' ⟨ρ',M',a,b,c,d⟩=>⟨ds.length - (i + 1),by omega,ρ',M',a,b,c,rfl,hlt,d⟩,fun x H' y=>?_⟩
  obtain ⟨rfl,hx⟩:=hy i x H' y
  obtain ⟨d,hd,rd⟩:=rs.getV hx
  refine ⟨d,ρ1,M1,_,rd,re1,hm1,step i d ρ1 M1 hd w1,fun σ2 H2 ⟨ρ2,M2,re2,hm2,e2,q2⟩=>⟨ρ2,M2,_,re2,hm2,q2,?_⟩⟩
  have ex:=e1.trans e2
  exact ⟨fun σ' H' ⟨ρ',M',a,b,c,d⟩=>⟨ρ',M',a,b,ex.trans c,d⟩,fun v H' z=>k.rt v H' (z.back (ex0.trans ex)),fun σ' H' z=>k.nx σ' H' (z.back (ex0.trans ex)),fun σ' H' ⟨ρ',M',a,b,c,d⟩=>⟨ρ',M',a,b,ex.trans c,d⟩⟩
 ·have e:i = ds.length:=by omega
  subst e
  exact .inl ⟨hst _ (by omega),k.nx σ1 H1 ⟨ρ1,M1,re1,hm1,ex0.trans e1,done ρ1 M1 w1⟩⟩
noncomputable def aFS (lo:Int) (n:Nat) (g:DG) (tb:DS):DS:=fun E ρ M=>∃ Pv:Nat->bV->DM->Prop,Pv 0 ρ M /\
 (∀ i ρ M,i < n->Pv i ρ M->g (.int (lo + i)) ρ M fun ρ2 M2=>tb { E with nx:=Pv (i + 1),ct:=Pv (i + 1),bk:=E.nx } ρ2 M2)/\∀ ρ M,Pv n ρ M->E.nx ρ M
noncomputable def aBs (ta:DA) (g:DG) (tb:DS):DS:=fun E ρ M=>ta ρ M fun ds M1=>match ds with
 | [.int j]=>(-(2 ^ 62)<=j/\j < 2 ^ 62)/\aFS 0 j.toNat g tb E ρ M1
 | _=>False
theorem aEx {K:PySem.W.Frag} {lo:Int} {n:Nat} {E:mQ} {Dn:eY} {σ:L2.St} {ρ:bV} {M:DM} {H0 H:Hp} (ex0:Ext H0 H) (re:eI K H ρ σ) (hm:bJ K M H) (k:hV K H0 Dn E) (h:aFS lo n g tb Dn ρ M) :
  ∃ W:Nat->Nat->L2.St->Hp->Prop,(∃ m,W 0 m σ H)/\∀ i m σ H,W i m σ H ->
   ((Itr lo n).stop i H/\E.nx σ H) ∨ ((Itr lo n).go i H/\∃ N:L2.St->Hp->Prop,(∀ σ' H',N σ' H'->∃ m',m' < m/\W (i + 1) m' σ' H')/\∀ x H',(Itr lo n).yld i H x H'->yV K g x σ H' fun σ2 H2=>aA0 K tb { E with nx:=N,ct:=N,bk:=E.nx } σ2 H2):=by
 obtain ⟨Pv,p0,step,done⟩:=h
 refine ⟨fun i m σ' H'=>∃ ρ' M',eI K H' ρ' σ'/\bJ K M' H'/\Ext H H'/\m = n - i/\i<=n/\Pv i ρ' M',⟨n,ρ,M,re,hm,.refl H,rfl,Nat.zero_le _,p0⟩,?_⟩
 rintro i m σ1 H1 ⟨ρ1,M1,re1,hm1,e1,rfl,hi,w1⟩
 by_cases hlt:i < n
 ·refine .inr ⟨hlt,fun σ' H'=>∃ ρ' M',eI K H' ρ' σ'/\bJ K M' H'/\Ext H H'/\Pv (i + 1) ρ' M',fun σ' H' ⟨ρ',M',a,b,c,d⟩=>⟨n - (i + 1),by omega,ρ',M',a,b,c,rfl,hlt,d⟩,fun x H' y=>?_⟩
  obtain ⟨rfl,rfl⟩:=y
  refine ⟨_,ρ1,M1,_,bL,re1,hm1,step i ρ1 M1 hlt w1,fun σ2 H2 ⟨ρ2,M2,re2,hm2,e2,q2⟩=>⟨ρ2,M2,_,re2,hm2,q2,?_⟩⟩
  have ex:=e1.trans e2
  exact ⟨fun σ' H' ⟨ρ',M',a,b,c,d⟩=>⟨ρ',M',a,b,ex.trans c,d⟩,fun v H' z=>k.rt v H' (z.back (ex0.trans ex)),fun σ' H' z=>k.nx σ' H' (z.back (ex0.trans ex)),fun σ' H' ⟨ρ',M',a,b,c,d⟩=>⟨ρ',M',a,b,ex.trans c,d⟩⟩
 ·have e:i = n:=by omega
  subst e
  exact .inl ⟨Nat.le_refl _,k.nx σ1 H1 ⟨ρ1,M1,re1,hm1,ex0.trans e1,done ρ1 M1 w1⟩⟩
end
end Dd
namespace Dd
open PySem PySem.Spec PyProof.Rows L2
section
variable {X:Cx} {pos:Pos} {iter tg:Expr} {body:List Stmt} {tl:DE} {g:DG} {tb:DS} {ta:DA}
theorem aBN (hp:PassesOwn (model X.prog X.w) X.A X.env X.xe) (hc:X.calm = true) (hi:PDE X iter tl) (hg:PDG X tg g) (hb:iS X body tb) (hs:∀ x,foldedSetIterable iter X.env x = pure x:=by intro _;rfl):PDS X (.For tg iter body [] pos) (aAS tl g tb) :=
 gF (vX hp hc (zQ hi) hg hb hs) fun E σ H ⟨ρ,M,Dn,re,hm,q,k⟩=>⟨ρ,M,_,re,hm,q,fun v H1 ⟨d,M1,rd,hm1,ex,q1⟩=>by
  cases d with
  | tup ds =>
   obtain ⟨a,xs,rfl,sq,rs⟩:=bS rd
   refine ⟨a,rfl,⟨xs,sq⟩,aA2 ex (re.ext ex) hm1 k q1 fun H' e' M' hm' _=>⟨xs,rs.ext e',fun i hi=>⟨xs,jK e' sq,hi⟩,fun i hi=>⟨xs,xs[i],jK e' sq,by simp [hi]⟩,fun i x H2 y=>⟨y.1,y.2 xs (jK e' sq)⟩⟩⟩
  | _=>exact q1.elim⟩
theorem aCZ (hp:PassesOwn (model X.prog X.w) X.A X.env X.xe) (hc:X.calm = true) (hi:PDE X iter tl) (hg:PDG X tg g) (hb:iS X body tb) (hs:∀ x,foldedSetIterable iter X.env x = pure x:=by intro _;rfl):PDS X (.For tg iter body [] pos) (aAs tl g tb) :=
 gF (vX hp hc (aCJ hi) hg hb hs) fun E σ H ⟨ρ,M,Dn,re,hm,q,k⟩=>⟨ρ,M,_,re,hm,q,fun v H1 ⟨d,M1,rd,hm1,ex,q1⟩=>by
  cases d with
  | fz ds =>
   obtain ⟨a,xs,rfl,sq,rs⟩:=lJ rd
   exact ⟨a,rfl,⟨xs,sq.sq⟩,aA2 ex (re.ext ex) hm1 k q1 fun H' e' M' hm' _=>⟨xs,rs.ext e',fun i hi=>⟨xs,(pA e' sq).sq,hi⟩,fun i hi=>⟨xs,xs[i],(pA e' sq).sq,by simp [hi]⟩,fun i x H2 y=>⟨y.1,y.2 xs (pA e' sq).sq⟩⟩⟩
  | ref a =>
   obtain ⟨ds,ha,q1⟩:=q1
   obtain rfl:=aW rd
   obtain ⟨xs,hx,rs⟩:=hm1.l a ds ha
   refine ⟨a,rfl,⟨xs,.of hx⟩,aA2 ex (re.ext ex) hm1 k q1 fun H' e' M' hm' hat=>?_⟩
   obtain ⟨ys,hy,rs'⟩:=hm'.l a ds (hat a rfl)
   exact ⟨ys,rs',fun i hi=>⟨ys,.of hy,hi⟩,fun i hi=>⟨ys,ys[i],.of hy,by simp [hi]⟩,fun i x H2 y=>⟨y.1,y.2 ys (.of hy)⟩⟩
  | _=>exact q1.elim⟩
theorem aC4 {a:Expr} {p pos':Pos} (hp:PassesOwn (model X.prog X.w) X.A X.env X.xe) (hc:X.calm = true) (hmg:X.mg "range" = none) (ha:PDA X [a] ta) (hg:PDG X tg g) (hb:iS X body tb) (hgl:Gl X "range":=by rfl) (hse:starEach [a] X.env = [(false,eval a X.env)]:=by rfl)
  (hs:∀ x,foldedSetIterable (.Call (.Name "range" p) [a] [] pos') X.env x = pure x:=by intro _;rfl):PDS X (.For tg (.Call (.Name "range" p) [a] [] pos') body [] pos) (aBs ta g tb) :=
 gF (vX hp hc (yJ hgl hmg ha hse) hg hb hs) fun E σ H ⟨ρ,M,Dn,re,hm,q,k⟩=>⟨ρ,M,_,re,hm,q,fun vs H1 ⟨ds,M1,rs,hm1,ex,q1⟩=>by
  rcases ds with _ | ⟨d,_ | ⟨d2,r⟩⟩
  ·exact q1.elim
  ·cases d with
   | int j =>
    obtain ⟨⟨j1,j2⟩,q1⟩:=q1
    obtain ⟨v1,r1,rfl,rv1,rr1⟩:=aO rs
    obtain rfl:=aX rr1
    obtain rfl:=aP rv1
    exact ⟨j,rfl,j1,j2,aEx ex (re.ext ex) hm1 k q1⟩
   | _=>exact q1.elim
  ·cases d<;>exact q1.elim⟩
end
mutual
noncomputable def eqD:D->D->Bool
 | .tup xs,.tup ys=>iM xs ys
 | .non,.non=>true
 | .bl a,.bl b=>a == b
 | .bl a,.int b=>(if a then 1 else 0) == b
 | .int a,.bl b=>a == (if b then 1 else 0)
 | .int a,.int b=>a == b
 | .str a,.str b=>a == b
 | _,_=>false
noncomputable def iM:List D->List D->Bool
 | [],[]=>true
 | x :: xs,y :: ys=>eqD x y && iM xs ys
 | _,_=>false
end
noncomputable def aZ:Nat->D->Bool
 | _,.ref _=>false
 | _,.fz _=>false
 | 0,.tup _=>false
 | n + 1,.tup ds=>ds.all (aZ n)
 | _,_=>true
noncomputable def oB:List D->List D->Nat->Bool
 | x :: _,y :: _,0=>eqD x y
 | _ :: xs,_ :: ys,j + 1=>oB xs ys j
 | _,_,_=>true
theorem pM (n:Nat) (e:Nat->Bool):(List.range (n + 1)).all e = (e 0 && (List.range n).all fun j=>e (j + 1)):=by
 rw [List.range_succ_eq_map,List.all_cons,List.all_map]
 rfl
theorem gM:∀ (xs ys:List D),iM xs ys = ((List.range (min xs.length ys.length)).all (oB xs ys) && xs.length == ys.length)
 | [],[]=>by simp [iM]
 | [],_ :: _=>by simp [iM]
 | _ :: _,[]=>by simp [iM]
 | x :: xs,y :: ys=>by
  have ih:=gM xs ys
  have e1:min (x :: xs).length (y :: ys).length = min xs.length ys.length + 1:=by simp only [List.length_cons];omega
  have e2:((x :: xs).length == (y :: ys).length) = (xs.length == ys.length):=by simp
  rw [e1,e2,pM]
  show (eqD x y && iM xs ys) = ((eqD x y && (List.range (min xs.length ys.length)).all fun j=>oB xs ys j) && xs.length == ys.length)
  rw [ih,Bool.and_assoc]
section
variable {X:Cx} {pins:List (Addr × Obj)} {σ:L2.St} {H:Hp} {s:Shared}
theorem rW {n:Nat} {d:D} (p:aZ n d = true) (h:∀ xs,d ≠ .tup xs):aZ 0 d = true:=by
 cases d with
 | tup xs=>exact absurd rfl (h xs)
 | ref b=>cases n<;>exact absurd p Bool.false_ne_true
 | fz b=>cases n<;>exact absurd p Bool.false_ne_true
 | _=>rfl
theorem uY {d d':D} {v:V} (p:aZ 0 d = true) (p':aZ 0 d' = true) (r:Rep X.K H d v) (r':Rep X.K H d' v):eqD d d' = true:=by
 cases d<;>cases d'<;>first
  | (exact absurd p Bool.false_ne_true)
  | (exact absurd p' Bool.false_ne_true)
  | (unfold Rep at r r';subst r;cases r'<;>simp [eqD])
theorem uH {d:D} {a:Addr} (p:aZ 0 d = true) (r:Rep X.K H d (.ref a)):False:=by
 cases d<;>first
  | (exact absurd p Bool.false_ne_true)
  | (unfold Rep at r;cases r)
theorem uT {n:Nat} (ih:∀ {d d':D} {v:V},aZ n d = true->aZ n d' = true->Rep X.K H d v->Rep X.K H d' v->eqD d d' = true) :
  ∀ {xs ys:List D} {us:List V},xs.all (aZ n) = true->ys.all (aZ n) = true->bG X.K H xs us->bG X.K H ys us->iM xs ys = true
 | [],[],_,_,_,_,_=>by simp [iM]
 | [],_ :: _,_,_,_,r,r'=>by
  rw [aX r] at r'
  obtain ⟨_,_,z,_⟩:=aO r'
  cases z
 | _ :: _,[],_,_,_,r,r'=>by
  rw [aX r'] at r
  obtain ⟨_,_,z,_⟩:=aO r
  cases z
 | x :: xs,y :: ys,_,p1,p2,r,r'=>by
  obtain ⟨v0,r0,rfl,h1,h2⟩:=aO r
  obtain ⟨v0',r0',e0,h1',h2'⟩:=aO r'
  cases e0
  rw [List.all_cons,Bool.and_eq_true] at p1 p2
  show (eqD x y && iM xs ys) = true
  rw [ih p1.1 p2.1 h1 h1',uT ih p1.2 p2.2 h2 h2']
  rfl
theorem xV (I:Inv X pins σ H s):∀ (n:Nat) {d d':D} {v:V},aZ n d = true->aZ n d' = true->Rep X.K H d v->Rep X.K H d' v->eqD d d' = true:=by
 intro n
 induction n with
 | zero=>intro d d' v p p' r r';exact uY p p' r r'
 | succ n ih =>
  intro d d' v p p' r r'
  by_cases h1:∃ xs,d = .tup xs
  ·obtain ⟨xs,rfl⟩:=h1
   obtain ⟨a,us,rfl,sq,rs⟩:=bS r
   by_cases h2:∃ ys,d' = .tup ys
   ·obtain ⟨ys,rfl⟩:=h2
    obtain ⟨a',us',e1',sq',rs'⟩:=bS r'
    cases e1'
    obtain rfl:=I.tuple_inj sq sq'
    exact uT ih p p' rs rs'
   ·exact (uH (rW p' fun xs e=>h2 ⟨xs,e⟩) r').elim
  ·have p0:=rW p fun xs e=>h1 ⟨xs,e⟩
   by_cases h2:∃ ys,d' = .tup ys
   ·obtain ⟨ys,rfl⟩:=h2
    obtain ⟨a',us',rfl,sq',rs'⟩:=bS r'
    exact (uH p0 r).elim
   ·exact uY p0 (rW p' fun xs e=>h2 ⟨xs,e⟩) r r'
theorem jC (I:Inv X pins σ H s) {a:Addr} {xs:List V} (sq:SqT X.K H a xs):∃ its:List Value,bM xs its/\s.heap.IsTuple a its.toArray:=let ⟨its,r,p,_⟩:=I.tuple sq;⟨its,r,p⟩
theorem pE {d:D} {v:V} {n:Nat} (h:Rep X.K H d v) (p:aZ 0 d = true):aBq v = true:=by
 cases d with
 | non=>unfold Rep at h;subst h;rfl
 | bl b=>unfold Rep at h;subst h;rfl
 | int b=>unfold Rep at h;subst h;rfl
 | str b=>unfold Rep at h;subst h;rfl
 | tup b=>exact absurd p Bool.false_ne_true
 | ref b=>exact absurd p Bool.false_ne_true
 | fz b=>exact absurd p Bool.false_ne_true
theorem mO {A:Around} {n:Nat} (ih:∀ {d d':D} {v v':V} {u u':Value},aZ n d = true->aZ n d' = true->Rep X.K H d v->Rep X.K H d' v'->bF v u->bF v' u'->SeqAt.EqAt A s u u' (eqD d d')) :
  ∀ {xs ys:List D} {us us':List V} {its its':List Value},xs.all (aZ n) = true->ys.all (aZ n) = true->bG X.K H xs us->bG X.K H ys us'->bM us its->bM us' its'->∀ j (h1:j < its.length) (h2:j < its'.length),SeqAt.EqAt A s its[j] its'[j] (oB xs ys j)
 | [],ys,us,us',its,its',_,_,r1,_,v1,_,j,h1,_=>by rw [aX r1] at v1;cases v1;exact absurd h1 (Nat.not_lt_zero _)
 | _ :: _,[],us,us',its,its',_,_,_,r2,_,v2,j,_,h2=>by rw [aX r2] at v2;cases v2;exact absurd h2 (Nat.not_lt_zero _)
 | x :: xs,y :: ys,us,us',its,its',p1,p2,r1,r2,v1,v2,j,h1,h2=>by
  obtain ⟨a,ra,rfl,ha,hra⟩:=aO r1
  obtain ⟨b,rb,rfl,hb,hrb⟩:=aO r2
  rw [List.all_cons,Bool.and_eq_true] at p1 p2
  cases v1 with
  | cons q1 w1 =>
   cases v2 with
   | cons q2 w2 =>
    cases j with
    | zero=>exact ih p1.1 p2.1 ha hb q1 q2
    | succ j=>exact mO ih p1.2 p2.2 hra hrb w1 w2 j (Nat.lt_of_succ_lt_succ h1) (Nat.lt_of_succ_lt_succ h2)
theorem aAN {d d':D} {v v':V} (p:aZ 0 d = true) (p':aZ 0 d' = true) (r:Rep X.K H d v) (r':Rep X.K H d' v'):eqV v v' = eqD d d':=by
 cases d<;>cases d'<;>first
  | (exact absurd p Bool.false_ne_true)
  | (exact absurd p' Bool.false_ne_true)
  | (unfold Rep at r r';subst r;subst r';simp [eqD,eqV])
theorem aDn (I:Inv X pins σ H s):∀ (n:Nat) {A:Around} {d d':D} {v v':V} {u u':Value},A.units + n < cLine->aZ n d = true->aZ n d' = true->Rep X.K H d v->Rep X.K H d' v'->bF v u->bF v' u'->SeqAt.EqAt A s u u' (eqD d d'):=by
 intro n
 induction n with
 | zero =>
  intro A d d' v v' u u' hu p p' r r' q q'
  have:=aAO (A:=A) (s:=s) q q' (pE (n:=0) r p) (pE (n:=0) r' p')
  rw [aAN p p' r r'] at this
  exact this
 | succ n ih =>
  intro A d d' v v' u u' hu p p' r r' q q'
  by_cases h1:∃ xs,d = .tup xs
  ·obtain ⟨xs,rfl⟩:=h1
   obtain ⟨a,us,rfl,sq,rs⟩:=bS r
   obtain ⟨its,rv,ht⟩:=jC I sq
   cases q
   by_cases h2:∃ ys,d' = .tup ys
   ·obtain ⟨ys,rfl⟩:=h2
    obtain ⟨a',us',rfl,sq',rs'⟩:=bS r'
    obtain ⟨its',rv',ht'⟩:=jC I sq'
    cases q'
    by_cases hll:a = a'
    ·subst hll
     rw [xV I (n + 1) p p' r r']
     exact SeqAt.EqAt.same _
    ·have e1:=rs.length
     have e2:=rv.length
     have e3:=rs'.length
     have e4:=rv'.length
     show SeqAt.EqAt A s (.ref a) (.ref a') (iM xs ys)
     rw [gM,show xs.length = its.toArray.size by rw [List.size_toArray];omega,show ys.length = its'.toArray.size by rw [List.size_toArray];omega]
     refine SeqAt.EqAt.of_refs hll (SeqAt.RcAt.tuples ht ht' (by omega) fun j j1 j2=>?_)
     have hu':A.in1.units + n < cLine:=by show A.units + 1 + n < cLine;omega
     have:=mO (A:=A.in1) (s:=s) (fun {d d' v v' u u'} p p' r r' q q'=>ih hu' p p' r r' q q') p p' rs rs' rv rv' j (by simpa using j1) (by simpa using j2)
     simpa using this
   ·have p0:=rW p' (fun xs e=>h2 ⟨xs,e⟩)
    cases d' with
    | non=>rw [cQ r'] at q';cases q';exact SeqAt.EqAt.tuple_none ht (by omega)
    | bl b=>rw [bN r'] at q';cases q';exact SeqAt.EqAt.tuple_bool b ht (by omega)
    | int b=>rw [aP r'] at q';obtain ⟨t,rfl⟩:=q';exact SeqAt.EqAt.tuple_int b t ht (by omega)
    | str b=>rw [bI r'] at q';obtain ⟨t,rfl⟩:=q';exact SeqAt.EqAt.tuple_str b t ht (by omega)
    | tup b=>exact absurd p0 Bool.false_ne_true
    | ref b=>exact absurd p0 Bool.false_ne_true
    | fz b=>exact absurd p0 Bool.false_ne_true
  ·have p0:=rW p (fun xs e=>h1 ⟨xs,e⟩)
   by_cases h2:∃ ys,d' = .tup ys
   ·obtain ⟨ys,rfl⟩:=h2
    obtain ⟨a',us',rfl,sq',rs'⟩:=bS r'
    obtain ⟨its',rv',ht'⟩:=jC I sq'
    cases q'
    cases d with
    | non=>rw [cQ r] at q;cases q;exact SeqAt.EqAt.none_tuple ht' (by omega)
    | bl b=>rw [bN r] at q;cases q;exact SeqAt.EqAt.bool_tuple b ht' (by omega)
    | int b=>rw [aP r] at q;obtain ⟨t,rfl⟩:=q;exact SeqAt.EqAt.int_tuple b t ht' (by omega)
    | str b=>rw [bI r] at q;obtain ⟨t,rfl⟩:=q;exact SeqAt.EqAt.str_tuple b t ht' (by omega)
    | tup b=>exact absurd p0 Bool.false_ne_true
    | ref b=>exact absurd p0 Bool.false_ne_true
    | fz b=>exact absurd p0 Bool.false_ne_true
   ·have p0':=rW p' (fun xs e=>h2 ⟨xs,e⟩)
    have:=aAO (A:=A) (s:=s) q q' (pE (n:=0) r p0) (pE (n:=0) r' p0')
    rw [aAN p0 p0' r r'] at this
    exact this
theorem aGU (I:Inv X pins σ H s) {A:Around} (hu:A.units + 60 < cLine) {d d':D} {v v':V} {u u':Value} (p:aZ 60 d = true) (p':aZ 60 d' = true) (r:Rep X.K H d v) (r':Rep X.K H d' v') (q:bF v u) (q':bF v' u') :
  SeqAt.RcAt A s u u' (eqD d d')/\SeqAt.RcNeAt A s u u' (!eqD d d'):=by
 have hu0:A.units < cLine:=by omega
 cases d with
 | ref b=>exact absurd p Bool.false_ne_true
 | fz b=>exact absurd p Bool.false_ne_true
 | tup xs =>
  obtain ⟨a,us,rfl,sq,rs⟩:=bS r
  obtain ⟨its,rv,ht⟩:=jC I sq
  cases q
  cases d' with
  | ref b=>exact absurd p' Bool.false_ne_true
  | fz b=>exact absurd p' Bool.false_ne_true
  | non=>rw [cQ r'] at q';cases q';exact ⟨SeqAt.RcAt.tuple_none ht hu0,SeqAt.RcNeAt.tuple_none ht hu0⟩
  | bl b=>rw [bN r'] at q';cases q';exact ⟨SeqAt.RcAt.tuple_bool b ht hu0,SeqAt.RcNeAt.tuple_bool b ht hu0⟩
  | int b=>rw [aP r'] at q';obtain ⟨t,rfl⟩:=q';exact ⟨SeqAt.RcAt.tuple_int b t ht hu0,SeqAt.RcNeAt.tuple_int b t ht hu0⟩
  | str b=>rw [bI r'] at q';obtain ⟨t,rfl⟩:=q';exact ⟨SeqAt.RcAt.tuple_str b t ht hu0,SeqAt.RcNeAt.tuple_str b t ht hu0⟩
  | tup ys =>
   obtain ⟨a',us',rfl,sq',rs'⟩:=bS r'
   obtain ⟨its',rv',ht'⟩:=jC I sq'
   cases q'
   have e1:=rs.length
   have e2:=rv.length
   have e3:=rs'.length
   have e4:=rv'.length
   have hit:∀ j (h1:j < its.toArray.size) (h2:j < its'.toArray.size),SeqAt.EqAt A.in1 s its.toArray[j] its'.toArray[j] (oB xs ys j):=fun j j1 j2=>by
    have hu':A.in1.units + 59 < cLine:=by show A.units + 1 + 59 < cLine;omega
    have:=mO (A:=A.in1) (s:=s) (fun {d d' v v' u u'} p p' r r' q q'=>aDn I 59 hu' p p' r r' q q') p p' rs rs' rv rv' j (by simpa using j1) (by simpa using j2)
    simpa using this
   have hz:eqD (.tup xs) (.tup ys) = ((List.range (min its.toArray.size its'.toArray.size)).all (oB xs ys) && its.toArray.size == its'.toArray.size):=by
    show iM xs ys = _
    rw [gM,show xs.length = its.toArray.size by rw [List.size_toArray];omega,show ys.length = its'.toArray.size by rw [List.size_toArray];omega]
   rw [hz]
   exact ⟨SeqAt.RcAt.tuples ht ht' hu0 hit,SeqAt.RcNeAt.tuples ht ht' hu0 hit⟩
 | non =>
  rw [cQ r] at q;cases q
  cases d' with
  | ref b=>exact absurd p' Bool.false_ne_true
  | fz b=>exact absurd p' Bool.false_ne_true
  | non=>rw [cQ r'] at q';cases q';exact ⟨SeqAt.RcAt.none_none,SeqAt.RcNeAt.none_none⟩
  | bl b=>rw [bN r'] at q';cases q';exact ⟨SeqAt.RcAt.none_bool b,SeqAt.RcNeAt.none_bool b⟩
  | int b=>rw [aP r'] at q';obtain ⟨t,rfl⟩:=q';exact ⟨SeqAt.RcAt.none_int b t,SeqAt.RcNeAt.none_int b t⟩
  | str b=>rw [bI r'] at q';obtain ⟨t,rfl⟩:=q';exact ⟨SeqAt.RcAt.none_str b t,SeqAt.RcNeAt.none_str b t⟩
  | tup ys =>
   obtain ⟨a',us',rfl,sq',rs'⟩:=bS r'
   obtain ⟨its',rv',ht'⟩:=jC I sq'
   cases q'
   exact ⟨SeqAt.RcAt.none_tuple ht' hu0,SeqAt.RcNeAt.none_tuple ht' hu0⟩
 | bl z =>
  rw [bN r] at q;cases q
  cases d' with
  | ref b=>exact absurd p' Bool.false_ne_true
  | fz b=>exact absurd p' Bool.false_ne_true
  | non=>rw [cQ r'] at q';cases q';exact ⟨SeqAt.RcAt.bool_none z,SeqAt.RcNeAt.bool_none z⟩
  | bl b=>rw [bN r'] at q';cases q';exact ⟨SeqAt.RcAt.bool_bool z b,SeqAt.RcNeAt.bool_bool z b⟩
  | int b=>rw [aP r'] at q';obtain ⟨t,rfl⟩:=q';exact ⟨SeqAt.RcAt.bool_int z b t,SeqAt.RcNeAt.bool_int z b t⟩
  | str b=>rw [bI r'] at q';obtain ⟨t,rfl⟩:=q';exact ⟨SeqAt.RcAt.bool_str z b t,SeqAt.RcNeAt.bool_str z b t⟩
  | tup ys =>
   obtain ⟨a',us',rfl,sq',rs'⟩:=bS r'
   obtain ⟨its',rv',ht'⟩:=jC I sq'
   cases q'
   exact ⟨SeqAt.RcAt.bool_tuple z ht' hu0,SeqAt.RcNeAt.bool_tuple z ht' hu0⟩
 | int z =>
  rw [aP r] at q;obtain ⟨tz,rfl⟩:=q
  cases d' with
  | ref b=>exact absurd p' Bool.false_ne_true
  | fz b=>exact absurd p' Bool.false_ne_true
  | non=>rw [cQ r'] at q';cases q';exact ⟨SeqAt.RcAt.int_none z tz,SeqAt.RcNeAt.int_none z tz⟩
  | bl b=>rw [bN r'] at q';cases q';exact ⟨SeqAt.RcAt.int_bool z tz b,SeqAt.RcNeAt.int_bool z tz b⟩
  | int b=>rw [aP r'] at q';obtain ⟨t,rfl⟩:=q';exact ⟨SeqAt.RcAt.int_int z tz b t,SeqAt.RcNeAt.int_int z tz b t⟩
  | str b=>rw [bI r'] at q';obtain ⟨t,rfl⟩:=q';exact ⟨SeqAt.RcAt.int_str z tz b t,SeqAt.RcNeAt.int_str z tz b t⟩
  | tup ys =>
   obtain ⟨a',us',rfl,sq',rs'⟩:=bS r'
   obtain ⟨its',rv',ht'⟩:=jC I sq'
   cases q'
   exact ⟨SeqAt.RcAt.int_tuple z tz ht' hu0,SeqAt.RcNeAt.int_tuple z tz ht' hu0⟩
 | str z =>
  rw [bI r] at q;obtain ⟨tz,rfl⟩:=q
  cases d' with
  | ref b=>exact absurd p' Bool.false_ne_true
  | fz b=>exact absurd p' Bool.false_ne_true
  | non=>rw [cQ r'] at q';cases q';exact ⟨SeqAt.RcAt.str_none z tz,SeqAt.RcNeAt.str_none z tz⟩
  | bl b=>rw [bN r'] at q';cases q';exact ⟨SeqAt.RcAt.str_bool z tz b,SeqAt.RcNeAt.str_bool z tz b⟩
  | int b=>rw [aP r'] at q';obtain ⟨t,rfl⟩:=q';exact ⟨SeqAt.RcAt.str_int z tz b t,SeqAt.RcNeAt.str_int z tz b t⟩
  | str b=>rw [bI r'] at q';obtain ⟨t,rfl⟩:=q';exact ⟨SeqAt.RcAt.str_str z tz b t,SeqAt.RcNeAt.str_str z tz b t⟩
  | tup ys =>
   obtain ⟨a',us',rfl,sq',rs'⟩:=bS r'
   obtain ⟨its',rv',ht'⟩:=jC I sq'
   cases q'
   exact ⟨SeqAt.RcAt.str_tuple z tz ht' hu0,SeqAt.RcNeAt.str_tuple z tz ht' hu0⟩
end
end Dd
namespace Dd
open PySem PySem.Spec PyProof.Rows L2
section
variable {X:Cx} {a b e o:Expr} {es:List Expr} {ta tb te to:DE} {t:DA} {pos:Pos}
noncomputable def d2I (C:Int->Int->Prop) (g:Int->Int->D):D2:=fun x y M Q=>match x,y with
 | .int i,.int j=>C i j/\Q (g i j) M
 | _,_=>False
noncomputable def d2J (g:Int->Int->D):D2:=fun x y M Q=>match x,y with
 | .int i,.int j=>Q (g i j) M
 | _,_=>False
theorem aCL {f:Value->Value->Sem Value} {C:Int->Int->Prop} {g:Int->Int->D} {g':Int->Int->V} (h:OpR X f (rI C g')) (hg:∀ H i j,Rep X.K H (g i j) (g' i j)):OpD X f (d2I C g) :=
 OpD.of h fun x y H M dx dy Q rx ry hm q=>by
  cases dx with
  | int i =>
   cases dy with
   | int j=>exact ⟨i,j,aP rx,aP ry,q.1,_,M,hg H i j,hm,.refl H,q.2⟩
   | _=>exact q.elim
  | _=>exact q.elim
theorem aBx {f:Value->Value->Sem Value} {g:Int->Int->D} {g':Int->Int->V} (h:OpR X f (rI0 g')) (hg:∀ H i j,Rep X.K H (g i j) (g' i j)):OpD X f (d2J g) :=
 OpD.of h fun x y H M dx dy Q rx ry hm q=>by
  cases dx with
  | int i =>
   cases dy with
   | int j=>exact ⟨i,j,aP rx,aP ry,_,M,hg H i j,hm,.refl H,q⟩
   | _=>exact q.elim
  | _=>exact q.elim
theorem gK:OpD X (binaryOp .Sub) (d2J fun i j=>.int (i - j)):=aBx aD5 fun _ _ _=>bL
theorem aCI:OpR X (binaryOp .Mult) (rI IntMulOk fun i j=>.int (i * j)):=opI fun _ _ _ _ _ _ _ hc q=>mul_int q hc
theorem bU:OpD X (binaryOp .Mult) (d2I IntMulOk fun i j=>.int (i * j)):=aCL aCI fun _ _ _=>bL
noncomputable def CFd (i j:Int):Prop:=j ≠ 0/\j.natAbs.log2 < 9000
theorem aDY:OpR X (binaryOp .FloorDiv) (rI CFd fun i j=>.int (i.fdiv j)):=opI fun _ _ _ _ _ _ _ hc q=>floordiv_int hc.1 q (.inl (PyProof.noPylong_of_log2 hc.2))
theorem mR:OpD X (binaryOp .FloorDiv) (d2I CFd fun i j=>.int (i.fdiv j)):=aCL aDY fun _ _ _=>bL
theorem bZ:OpD X (binaryOp .Mod) (d2I (fun _ j=>j ≠ 0) fun i j=>.int (i.fmod j)):=aCL aCb fun _ _ _=>bL
theorem pH:OpD X (binaryOp .Pow) (d2I aGE fun i j=>.int (i ^ j.toNat)):=aCL aEs fun _ _ _=>bL
theorem aAM:OpD X (compareOp .Lt) (d2J fun i j=>.bl (decide (i < j))):=aBx aGJ fun _ _ _=>cL
theorem uZ:OpD X (compareOp .LtE) (d2J fun i j=>.bl (decide (i<=j))):=aBx aGM fun _ _ _=>cL
theorem rR:OpD X (compareOp .Gt) (d2J fun i j=>.bl (decide (j < i))):=aBx aGD fun _ _ _=>cL
theorem aGX:OpD X (compareOp .GtE) (d2J fun i j=>.bl (decide (j<=i))):=aBx aGO fun _ _ _=>cL
noncomputable def aFP:D2:=fun x y M Q=>match x,y with
 | .int i,.int j=>Q (.int (i + j)) M
 | .ref a,.ref b=>∃ xs ys,M a = some xs/\M b = some ys/\xs.length + ys.length<=1000/\∀ p:Addr,M p = none->Q (.ref p) (cW M p (xs ++ ys))
 | .fz xs,.ref b=>∃ ys,M b = some ys/\xs.length + ys.length<=1000/\∀ p:Addr,M p = none->Q (.ref p) (cW M p (xs ++ ys))
 | .tup xs,.tup ys=>xs ≠ []/\ys ≠ []/\xs.length + ys.length<=1000/\Q (.tup (xs ++ ys)) M
 | _,_=>False
theorem aAe {pins:List (Addr × Obj)} {σ:L2.St} {H:Hp} {s:Shared} (I:Inv X pins σ H s) {a:Addr} {xs:List V} (h:SqX X.K H a xs):xs.length<=sizeLine/\∃ (its:List Value) (n:Nat),bM xs its/\s.heap.get? a = some { cls:=.type "list",data:=.seq its.toArray n }:=by
 rcases h with ⟨o,h⟩ | ⟨its,n,hk,hz,r⟩
 ·obtain ⟨_,z,its,n,r,e⟩:=I.hok a _ h
  exact ⟨z,its,n,r,e⟩
 ·have e:=r.length
  simp only [Array.length_toList] at e
  exact ⟨by omega,its.toList,n,r,by simpa using I.kIn a _ hk⟩
theorem cO:OpD X (binaryOp .Add) aFP:=by
 intro pins s σ H x y v u Q I rx ry ⟨dx,dy,M,Q',r1,r2,hm,q,k⟩
 cases dx with
 | int i =>
  cases dy with
  | int j=>exact aDx pins s σ H x y v u Q I rx ry ⟨i,j,aP r1,aP r2,k _ H ⟨_,M,bL,hm,.refl H,q⟩⟩
  | _=>exact q.elim
 | ref a =>
  cases dy with
  | ref b =>
   obtain ⟨xs,ys,ha,hb,hl,q⟩:=q
   obtain ⟨us,hu,ru⟩:=hm.l a xs ha
   obtain ⟨ws,hw,rw'⟩:=hm.l b ys hb
   refine aDD pins s σ H x y v u Q I rx ry ⟨a,b,us,ws,aW r1,aW r2,hu,hw,?_,fun p hp=>k _ _ ⟨.ref p,_,eB,hm.lnew hp (ru.append rw'),Ext.new hp _,q p (hm.fresh hp)⟩⟩
   rw [<- ru.length,<- rw'.length];exact Nat.le_of_lt (dZ hl)
  | _=>exact q.elim
 | fz xs =>
  cases dy with
  | ref b =>
   obtain ⟨ys,hb,hl,q⟩:=q
   obtain ⟨a,us,rfl,sq,ru⟩:=lJ r1
   obtain ⟨ws,hw,rw'⟩:=hm.l b ys hb
   obtain rfl:=aW r2
   cases rx
   cases ry
   obtain ⟨z,its,n,r,e⟩:=aAe I sq
   obtain ⟨z2,its2,n2,r3,hl2,e2⟩:=I.lstM hw
   have l1:=r.length
   have l2:=r3.length
   have l3:=ru.length
   have l4:=rw'.length
   have hz:=dZ hl
   refine PySem.P.add_list e e2 ?_ (by rw [List.size_toArray,List.size_toArray];omega)
   have ea:its.toArray ++ its2.toArray = (its ++ its2).toArray:=by simp
   rw [ea]
   refine ⟨.ref _,_,I.lnew (t':=s.toks) (r.append r3) (by rw [List.length_append];omega),rfl,k _ _ ⟨.ref _,_,eB,hm.lnew I.fresh (ru.append rw'),Ext.new I.fresh _,q _ (hm.fresh I.fresh)⟩⟩
  | _=>exact q.elim
 | tup xs =>
  cases dy with
  | tup ys =>
   obtain ⟨h1,h2,hl,q⟩:=q
   obtain ⟨a,us,rfl,sq,ru⟩:=bS r1
   obtain ⟨b,ws,rfl,sq2,rw'⟩:=bS r2
   have l3:=ru.length
   have l4:=rw'.length
   refine xX pins s σ H _ _ v u Q I rx ry ?_
   have n1:us ≠ []:=fun z=>by rw [z] at l3;exact h1 (List.length_eq_zero_iff.mp l3)
   have n2:ws ≠ []:=fun z=>by rw [z] at l4;exact h2 (List.length_eq_zero_iff.mp l4)
   exact ⟨a,b,us,ws,rfl,rfl,sq,sq2,n1,by rw [<- l3,<- l4];exact Nat.le_of_lt (dZ hl),fun z=>absurd z n2,fun _ p hp=>k _ _ ⟨.tup _,M,cN (.of cR) ((ru.append rw').ext (Ext.new hp _)),hm.new hp _,Ext.new hp _,q⟩⟩
  | _=>exact q.elim
 | _=>exact q.elim
noncomputable def dEq (g:Bool->Bool):D2:=fun x y M Q=>match x,y with
 | .ref a,.ref b=>∃ xs ys,M a = some xs/\M b = some ys/\(a ≠ b)/\xs.all (aZ 59) = true/\ys.all (aZ 59) = true/\Q (.bl (g (iM xs ys))) M
 | x,y=>aZ 60 x = true/\aZ 60 y = true/\Q (.bl (g (eqD x y))) M
theorem zR {pins:List (Addr × Obj)} {σ:L2.St} {H:Hp} {s:Shared} (I:Inv X pins σ H s) {A:Around} (hu:A.units + 60 < cLine) {a b:Addr} {us ws:List V} {xs ys:List D} (ha:H a = some (.lst us)) (hb:H b = some (.lst ws)) (ru:bG X.K H xs us) (rw':bG X.K H ys ws)
  (p:xs.all (aZ 59) = true) (p':ys.all (aZ 59) = true):SeqAt.RcAt A s (.ref a) (.ref b) (iM xs ys)/\SeqAt.RcNeAt A s (.ref a) (.ref b) (!iM xs ys):=by
 obtain ⟨z,its,n,r,hl,e⟩:=I.lstM ha
 obtain ⟨z2,its2,n2,r3,hl2,e2⟩:=I.lstM hb
 have i1:s.heap.IsList a its.toArray:=⟨_,e,rfl,_,rfl⟩
 have i2:s.heap.IsList b its2.toArray:=⟨_,e2,rfl,_,rfl⟩
 have l3:=ru.length
 have l4:=rw'.length
 have hu0:A.units < cLine:=by omega
 by_cases hz:its.toArray.size = its2.toArray.size
 ·have hz':=hz
  rw [List.size_toArray,List.size_toArray] at hz'
  have hit:∀ j (h1:j < its.toArray.size) (h2:j < its2.toArray.size),SeqAt.EqAt A.in1 s its.toArray[j] its2.toArray[j] (oB xs ys j):=fun j j1 j2=>by
   have hu':A.in1.units + 59 < cLine:=by show A.units + 1 + 59 < cLine;omega
   have:=mO (A:=A.in1) (s:=s) (fun {d d' v v' u u'} p p' r r' q q'=>aDn I 59 hu' p p' r r' q q') p p' ru rw' r r3 j (by simpa using j1) (by simpa using j2)
   simpa using this
  have hz2:iM xs ys = (List.range its.toArray.size).all (oB xs ys):=by
   rw [gM,show min xs.length ys.length = its.toArray.size by rw [List.size_toArray];omega,show (xs.length == ys.length) = true by simp;omega,Bool.and_true]
  rw [hz2]
  exact ⟨SeqAt.RcAt.lists i1 i2 hz hu0 hit,SeqAt.RcNeAt.lists i1 i2 hz hu0 hit⟩
 ·have hz':=hz
  rw [List.size_toArray,List.size_toArray] at hz'
  have hz2:iM xs ys = false:=by
   rw [gM,show (xs.length == ys.length) = false by simp;omega,Bool.and_false]
  rw [hz2]
  exact ⟨SeqAt.RcAt.lists_lengths i1 i2 (by simpa using hz) hu0,SeqAt.RcNeAt.lists_lengths i1 i2 (by simpa using hz) hu0⟩
theorem aBt (hu:X.A.units + 60 < cLine):OpD X (compareOp .Eq) (dEq id)/\OpD X (compareOp .NotEq) (dEq not):=by
 have key:∀ {pins:List (Addr × Obj)} {s:Shared} {σ:L2.St} {H:Hp} {x y:V} {v u:Value} {dx dy:D} {M:DM} {Q':DQ} {g:Bool->Bool},Inv X pins σ H s->bF x v->bF y u->Rep X.K H dx x->Rep X.K H dy y->bJ X.K M H->dEq g dx dy M Q' ->
   ∃ b,SeqAt.RcAt X.A s v u b/\SeqAt.RcNeAt X.A s v u (!b)/\Q' (.bl (g b)) M:=by
  intro pins s σ H x y v u dx dy M Q' g I rx ry r1 r2 hm q
  have gen:aZ 60 dx = true->aZ 60 dy = true->Q' (.bl (g (eqD dx dy))) M->∃ b,SeqAt.RcAt X.A s v u b/\SeqAt.RcNeAt X.A s v u (!b)/\Q' (.bl (g b)) M:=fun p p' q=>let ⟨h1,h2⟩:=aGU I hu p p' r1 r2 rx ry;⟨_,h1,h2,q⟩
  cases dx with
  | ref a =>
   cases dy with
   | ref b =>
    obtain ⟨xs,ys,ha,hb,_,p,p',q⟩:=q
    obtain ⟨us,hu',ru⟩:=hm.l a xs ha
    obtain ⟨ws,hw,rw'⟩:=hm.l b ys hb
    obtain rfl:=aW r1
    obtain rfl:=aW r2
    cases rx
    cases ry
    obtain ⟨h1,h2⟩:=zR I hu hu' hw ru rw' p p'
    exact ⟨_,h1,h2,q⟩
   | _=>exact gen q.1 q.2.1 q.2.2
  | _=>exact gen q.1 q.2.1 q.2.2
 refine ⟨fun pins s σ H x y v u Q I rx ry ⟨dx,dy,M,Q',r1,r2,hm,q,k⟩=>?_,fun pins s σ H x y v u Q I rx ry ⟨dx,dy,M,Q',r1,r2,hm,q,k⟩=>?_⟩
 ·obtain ⟨b,h1,_,q⟩:=key I rx ry r1 r2 hm q
  exact h1 X.prog X.w X.xe _ ⟨.bl b,H,I,rfl,k _ H ⟨.bl b,M,cL,hm,.refl H,q⟩⟩
 ·obtain ⟨b,_,h2,q⟩:=key I rx ry r1 r2 hm q
  exact h2 X.prog X.w X.xe _ ⟨.bl (!b),H,I,rfl,k _ H ⟨.bl (!b),M,cL,hm,.refl H,q⟩⟩
theorem cE {k:Nat} (hr:dN k X.A):OpD X (compareOp .Eq) (dEq id):=(aBt (by have:=hr.un;omega)).1
theorem jP {k:Nat} (hr:dN k X.A):OpD X (compareOp .NotEq) (dEq not):=(aBt (by have:=hr.un;omega)).2
noncomputable def aFL (ta:DE):DE:=fun ρ M Q=>ta ρ M fun x M1=>match x with
 | .int i=>Q (.int (-i)) M1
 | _=>False
theorem aER (ha:PDE X a ta):PDE X (.UnaryOp .USub a pos) (aFL ta) :=
 cF (aF2 aFi ha) fun σ H Q ⟨ρ,M,Q',re,hm,q,k⟩=>⟨ρ,M,_,re,hm,q,fun x H1 ⟨d,M1,rd,hm1,ex,q1⟩=>by
  cases d with
  | int i=>exact ⟨i,aP rd,k _ H1 ⟨_,M1,bL,hm1,ex,q1⟩⟩
  | _=>exact q1.elim⟩
noncomputable def jQ:D2:=fun x y M Q=>match x,y with
 | .tup ds,.int i=>match atI ds i with
  | some d=>Q d M
  | none=>False
 | .fz ds,.int i=>match atI ds i with
  | some d=>Q d M
  | none=>False
 | .ref a,.int i=>∃ ds d,M a = some ds/\atI ds i = some d/\Q d M
 | _,_=>False
theorem qL {K:PySem.W.Frag} {H:Hp} {ds:List D} {xs:List V} {i:Int} {d:D} (r:bG K H ds xs) (h:atI ds i = some d):∃ v,atI xs i = some v/\Rep K H d v:=by
 unfold atI at h ⊢
 rw [<- r.length]
 cases e:ixN ds.length i with
 | none=>rw [e] at h;cases h
 | some j =>
  rw [e] at h
  exact r.get h
theorem ixd:IxR X fun x y H Q=>∃ dx dy M Q',Rep X.K H dx x/\Rep X.K H dy y/\bJ X.K M H/\jQ dx dy M Q'/\∀ v H',LQ X.K H Q' v H'->Q v H':=by
 intro value slice pins s σ H x y v u Q I rx ry ⟨dx,dy,M,Q',r1,r2,hm,q,k⟩ hs
 cases dx with
 | tup ds =>
  cases dy with
  | int i =>
   obtain ⟨a,us,rfl,sq,ru⟩:=bS r1
   obtain rfl:=aP r2
   cases e:atI ds i with
   | none=>exact absurd q (by show ¬ (match atI ds i with | some d=>Q' d M | none=>False);rw [e];exact id)
   | some d =>
    have q':Q' d M:=by
     have z:(match atI ds i with | some d=>Q' d M | none=>False):=q
     rw [e] at z;exact z
    obtain ⟨w,hw,rw'⟩:=qL ru e
    exact aFJ value slice pins s σ H _ _ v u Q I rx ry ⟨a,us,i,w,rfl,rfl,sq,hw,k _ H ⟨d,M,rw',hm,.refl H,q'⟩⟩ hs
  | _=>exact q.elim
 | fz ds =>
  cases dy with
  | int i =>
   obtain ⟨a,us,rfl,sq,ru⟩:=lJ r1
   obtain rfl:=aP r2
   cases e:atI ds i with
   | none=>exact absurd q (by show ¬ (match atI ds i with | some d=>Q' d M | none=>False);rw [e];exact id)
   | some d =>
    have q':Q' d M:=by
     have z:(match atI ds i with | some d=>Q' d M | none=>False):=q
     rw [e] at z;exact z
    obtain ⟨w,hw,rw'⟩:=qL ru e
    exact wP value slice pins s σ H _ _ v u Q I rx ry ⟨a,us,i,w,rfl,rfl,sq.sq,hw,k _ H ⟨d,M,rw',hm,.refl H,q'⟩⟩ hs
  | _=>exact q.elim
 | ref a =>
  cases dy with
  | int i =>
   obtain ⟨ds,d,ha,e,q'⟩:=q
   obtain rfl:=aW r1
   obtain rfl:=aP r2
   obtain ⟨us,hu,ru⟩:=hm.l a ds ha
   obtain ⟨w,hw,rw'⟩:=qL ru e
   exact wP value slice pins s σ H _ _ v u Q I rx ry ⟨a,us,i,w,rfl,rfl,.of hu,hw,k _ H ⟨d,M,rw',hm,.refl H,q'⟩⟩ hs
  | _=>exact q.elim
 | _=>exact q.elim
theorem aFU (ha:PDE X a ta) (hb:PDE X b tb) (hs:tG b:=by exact fun _ _=>rfl):PDE X (.Subscript a b pos) (dOp jQ ta tb) :=
 cF (aF9 ixd ha hb hs) fun σ H Q h=>tS (fun _ _ _ _ z=>z) h
noncomputable abbrev DO:=bV->DM->(Option Int->DM->Prop)->Prop
noncomputable def sW (K:PySem.W.Frag) (t:DO):TO:=fun σ H Q=>∃ ρ M Q',eI K H ρ σ/\bJ K M H/\t ρ M Q'/\∀ i H',(∃ M',bJ K M' H'/\Ext H H'/\Q' i M')->Q i H'
noncomputable def aED:DO:=fun _ M Q=>Q none M
noncomputable def dPt (t:DE):DO:=fun ρ M Q=>t ρ M fun x M1=>match x with
 | .int i=>Q (some i) M1
 | _=>False
theorem aDb:PO X none (sW X.K aED):=fun pins s σ H Q I ⟨ρ,M,Q',re,hm,q,k⟩=>aBM pins s σ H Q I (k none H ⟨M,hm,.refl H,q⟩)
theorem aB2 (h:PDE X e te):PO X (some e) (sW X.K (dPt te)):=fun pins s σ H Q I ⟨ρ,M,Q',re,hm,q,k⟩=>aBS h pins s σ H Q I ⟨ρ,M,_,re,hm,q,fun v H1 ⟨d,M1,rd,hm1,ex,q1⟩=>by
 cases d with
 | int i=>exact ⟨i,aP rd,k (some i) H1 ⟨M1,hm1,ex,q1⟩⟩
 | _=>exact q1.elim⟩
noncomputable def cutD (xs:List D) (lo hi:Option Int):List D:=(xs.drop (HT.sIx xs.length 0 lo)).take (HT.sIx xs.length xs.length hi - HT.sIx xs.length 0 lo)
theorem pR {K:PySem.W.Frag} {H:Hp} {ds:List D} {xs:List V} (r:bG K H ds xs) (lo hi:Option Int):bG K H (cutD ds lo hi) (uN xs lo hi):=by
 unfold cutD uN
 rw [r.length]
 exact (r.drop _).take _
noncomputable def aGd (x:D) (lo hi:Option Int) (M:DM) (Q:DQ):Prop:=match x with
 | .fz ds=>∀ p:Addr,M p = none->Q (.ref p) (cW M p (cutD ds lo hi))
 | .ref a=>∃ ds,M a = some ds/\∀ p:Addr,M p = none->Q (.ref p) (cW M p (cutD ds lo hi))
 | _=>False
noncomputable def dSl (te:DE) (tl th:DO):DE:=fun ρ M Q=>te ρ M fun x M1=>tl ρ M1 fun l M2=>th ρ M2 fun h M3=>aGd x l h M3 Q
variable {lo hi:Option Expr} {tl th:DO} {p2:Pos}
theorem aAL (he:PDE X e te) (hl:PO X lo (sW X.K tl)) (hu:PO X hi (sW X.K th)):PDE X (.Subscript e (.Slice lo hi none p2) pos) (dSl te tl th) :=
 cF (uS aCx he hl hu) fun σ H Q ⟨ρ,M,Q',re,hm,q,k⟩=>⟨ρ,M,_,re,hm,q,fun v H1 ⟨d,M1,rd,hm1,e1,q1⟩=>⟨ρ,M1,_,re.ext e1,hm1,q1,fun l H2 ⟨M2,hm2,e2,q2⟩=>⟨ρ,M2,_,(re.ext e1).ext e2,hm2,q2,fun h H3 ⟨M3,hm3,e3,q3⟩=>by
  have rd3:=(rd.ext e2).ext e3
  have ex:=(e1.trans e2).trans e3
  cases d with
  | fz ds =>
   obtain ⟨a,us,rfl,sq,ru⟩:=lJ rd3
   exact ⟨a,us,rfl,sq.sq,fun p hp=>k _ _ ⟨.ref p,_,eB,hm3.lnew hp (pR ru l h),ex.trans (Ext.new hp _),q3 p (hm3.fresh hp)⟩⟩
  | ref a =>
   obtain ⟨ds,ha,q3⟩:=q3
   obtain rfl:=aW rd
   obtain ⟨us,hu,ru⟩:=hm3.l a ds ha
   exact ⟨a,us,rfl,.of hu,fun p hp=>k _ _ ⟨.ref p,_,eB,hm3.lnew hp (pR ru l h),ex.trans (Ext.new hp _),q3 p (hm3.fresh hp)⟩⟩
  | _=>exact q3.elim⟩⟩⟩
noncomputable abbrev DSp:=List D->DM->DQ->Prop
noncomputable def oF (K:PySem.W.Frag) (sp:DSp):Sp:=fun vs H Q _=>∃ ds M Q',bG K H ds vs/\bJ K M H/\sp ds M Q'/\∀ v H',LQ K H Q' v H'->Q v H'
noncomputable def mP (sp:DSp) (t:DA):DE:=fun ρ M Q=>t ρ M fun ds M1=>sp ds M1 Q
variable {CX:CXT} {k:Nat} {f:Addr} {fd:FuncData} {ps:List Str} {sp:DSp} {E:XK} {x:Str} {p:Pos}
theorem aC7 (F:jD X.prog X.w X.K X.mg X.base CX k f fd ps (oF X.K sp)) (hr:dN k X.A) (hm:X.mg x = some (.ref f)) (hk:PySem.W.keepIn X.K (.ref f) = true) (hb:lE X.K fd ps []) (hx:sS CX X E) (ha:PDA X (e :: es) t) (hg:Gl X x:=by rfl)
  (hdb:(x == ("__debug__":Str)) = false:=by decide) (he:starEach (e :: es) X.env = (false,eval e X.env) :: starEach es X.env:=by rfl) (hpl:(backTo pos (starEach es X.env)).any (·.1) = false:=by rfl) :
  PDE X (.Call (.Name x p) (e :: es) [] pos) (mP sp t) :=
 cF (aCV F hr hg hm hk hb .nil hx ha hdb he hpl) fun σ H Q ⟨ρ,M,Q',re,hm,q,k⟩=>⟨ρ,M,_,re,hm,q,fun vs H1 ⟨ds,M1,rs,hm1,ex,q1⟩=>⟨ds,M1,Q',by rw [List.append_nil];exact rs,hm1,q1,fun v H' z=>k v H' (z.back ex)⟩⟩
noncomputable def eQ (X:Cx) (fv:Value) (r:DSp):Prop:=gY X fv fun vs H Q=>∃ ds M Q',bG X.K H ds vs/\bJ X.K M H/\r ds M Q'/\∀ v H',LQ X.K H Q' v H'->Q v H'
theorem eQ.of {fv:Value} {r:List V->Hp->VK->Prop} {r':DSp} (h:gY X fv r) (l:∀ vs H M ds Q,bG X.K H ds vs->bJ X.K M H->r' ds M Q->r vs H (LQ X.K H Q)):eQ X fv r':=fun pins s σ H xs us Q I rs ⟨ds,M,Q',r1,hm,q,k⟩ =>
 thn (h pins s σ H xs us _ I rs (l xs H M ds Q' r1 hm q)) fun v s h=>xN h k
theorem zX {r:DSp} {σ:L2.St} {H:Hp} {Q:VK} (h:low X.K (mP r t) σ H Q):aE6 X.K t σ H fun vs H1=>∃ ds M Q',bG X.K H1 ds vs/\bJ X.K M H1/\r ds M Q'/\∀ v H',LQ X.K H1 Q' v H'->Q v H':=by
 obtain ⟨ρ,M,Q',re,hm,q,k⟩:=h
 exact ⟨ρ,M,_,re,hm,q,fun vs H1 ⟨ds,M1,rs,hm1,ex,q1⟩=>⟨ds,M1,Q',rs,hm1,q1,fun v H' z=>k v H' (z.back ex)⟩⟩
theorem aAl {id:String} {r:DSp} (hc:eQ X (.builtin id) r) (hm:X.mg x = none) (ha:PDA X (e :: es) t) (hv:bootBuiltins x = some (.builtin id):=by rfl) (hg:Gl X x:=by rfl) (hn:x ≠ "__name__":=by decide) (hdb:(x == ("__debug__":Str)) = false:=by decide)
  (he:starEach (e :: es) X.env = (false,eval e X.env) :: starEach es X.env:=by rfl) (hpl:(backTo pos (starEach es X.env)).any (·.1) = false:=by rfl):PDE X (.Call (.Name x p) (e :: es) [] pos) (mP r t) :=
 cF (mE hc hg hm hv ha hn hdb he hpl) fun σ H Q h=>zX h
theorem zK {T:String} {r:DSp} (hc:eQ X (.type T) r) (hm:X.mg x = none) (ha:PDA X (e :: es) t) (hv:bootBuiltins x = some (.type T):=by rfl) (hg:Gl X x:=by rfl) (hn:x ≠ "__name__":=by decide) (hdb:(x == ("__debug__":Str)) = false:=by decide)
  (he:starEach (e :: es) X.env = (false,eval e X.env) :: starEach es X.env:=by rfl) (hpl:(backTo pos (starEach es X.env)).any (·.1) = false:=by rfl):PDE X (.Call (.Name x p) (e :: es) [] pos) (mP r t) :=
 cF (zB hc hg hm hv ha hn hdb he hpl) fun σ H Q h=>zX h
end
end Dd
namespace Dd
open PySem PySem.Spec PyProof.Rows L2
section
variable {X:Cx} {a b e o:Expr} {es:List Expr} {ta tb te to:DE} {t:DA} {pos:Pos}
noncomputable def aGL:DSp:=fun ds M Q=>match ds with
 | [.int i]=>Q (.int (if i < 0 then -i else i)) M
 | _=>False
theorem gG {K:PySem.W.Frag} {H:Hp} {d:D} {vs:List V} (h:bG K H [d] vs):∃ v,vs = [v]/\Rep K H d v:=by
 obtain ⟨v,r,rfl,rv,rr⟩:=aO h
 obtain rfl:=aX rr
 exact ⟨v,rfl,rv⟩
theorem aEt {K:PySem.W.Frag} {H:Hp} {d d2:D} {vs:List V} (h:bG K H [d,d2] vs):∃ v v2,vs = [v,v2]/\Rep K H d v/\Rep K H d2 v2:=by
 obtain ⟨v,r,rfl,rv,rr⟩:=aO h
 obtain ⟨v2,rfl,rv2⟩:=gG rr
 exact ⟨v,v2,rfl,rv,rv2⟩
theorem sZ:eQ X (.builtin "abs") aGL:=eQ.of aAW fun vs H M ds Q rs hm q=>by
 rcases ds with _ | ⟨d,_ | ⟨d2,r⟩⟩
 ·exact q.elim
 ·cases d with
  | int i =>
   obtain ⟨v,rfl,rv⟩:=gG rs
   obtain rfl:=aP rv
   exact ⟨i,rfl,_,M,bL,hm,.refl H,q⟩
  | _=>exact q.elim
 ·cases d<;>exact q.elim
noncomputable def aGG:DSp:=fun ds M Q=>match ds with
 | [.int i]=>Q (.int i) M
 | [.bl k]=>Q (.int (if k then 1 else 0)) M
 | _=>False
theorem vP:eQ X (.type "int") aGG:=eQ.of yG fun vs H M ds Q rs hm q=>by
 rcases ds with _ | ⟨d,_ | ⟨d2,r⟩⟩
 ·exact q.elim
 ·cases d with
  | int i =>
   obtain ⟨v,rfl,rv⟩:=gG rs
   obtain rfl:=aP rv
   exact .inl ⟨i,rfl,_,M,bL,hm,.refl H,q⟩
  | bl i =>
   obtain ⟨v,rfl,rv⟩:=gG rs
   obtain rfl:=bN rv
   exact .inr ⟨i,rfl,_,M,bL,hm,.refl H,q⟩
  | _=>exact q.elim
 ·cases d<;>exact q.elim
noncomputable def mT:DSp:=fun ds M Q=>match ds with
 | [.tup xs]=>Q (.int xs.length) M
 | [.fz xs]=>Q (.int xs.length) M
 | [.ref a]=>∃ xs,M a = some xs/\Q (.int xs.length) M
 | _=>False
theorem hJ:eQ X (.builtin "len") mT:=eQ.of sT fun vs H M ds Q rs hm q=>by
 rcases ds with _ | ⟨d,_ | ⟨d2,r⟩⟩
 ·exact q.elim
 ·cases d with
  | tup xs =>
   obtain ⟨v,rfl,rv⟩:=gG rs
   obtain ⟨a,us,rfl,sq,ru⟩:=bS rv
   exact ⟨a,us,rfl,.inr sq,_,M,by rw [<- ru.length];exact bL,hm,.refl H,q⟩
  | fz xs =>
   obtain ⟨v,rfl,rv⟩:=gG rs
   obtain ⟨a,us,rfl,sq,ru⟩:=lJ rv
   exact ⟨a,us,rfl,.inl sq.sq,_,M,by rw [<- ru.length];exact bL,hm,.refl H,q⟩
  | ref a =>
   obtain ⟨v,rfl,rv⟩:=gG rs
   obtain rfl:=aW rv
   obtain ⟨xs,ha,q⟩:=q
   obtain ⟨us,hu,ru⟩:=hm.l a xs ha
   exact ⟨a,us,rfl,.inl (.of hu),_,M,by rw [<- ru.length];exact bL,hm,.refl H,q⟩
  | _=>exact q.elim
 ·cases d<;>exact q.elim
noncomputable def tL (to te:DE):DE:=fun ρ M Q=>to ρ M fun x M1=>match x with
 | .ref p=>(∃ ds,M1 p = some ds)/\hG te oP ρ M1 fun ys M2=>∃ ds y,ys = [y]/\M2 p = some ds/\ds.length < 1000/\Q .non (cW M2 p (ds ++ [y]))
 | _=>False
theorem yT {apos cpos:Pos} (ho:PDE X o to) (he:PDE X e te) (hse:starEach [e] X.env = (false,eval e X.env) :: starEach [] X.env:=by rfl)
  (hbase:attributeBase o "append" X.env (eval o X.env) = eval o X.env:=by rfl)
  (hfew:((backTo cpos (starEach [e] X.env)).all (fun x=>!x.1) && (backToKw cpos (keywordEach [] X.env)).all (fun x=>x.1.isSome)
   && decide ([e].length + ([]:List Keyword).length + (if ([]:List Keyword).isEmpty then 0 else 1) < 30)) = true:=by rfl)
  (hline:(apos.endLine == cpos.line) = true:=by rfl) (hplain:(backTo cpos (starEach [] X.env)).any (·.1) = false:=by rfl) :
  PDE X (.Call (.Attribute o "append" apos) [e] [] cpos) (tL to te) :=
 cF (aFR PySem.F.plainAttrs_list PySem.F.slot_list_append PySem.F.type_list_append zJ ho (kU he pL hse) hbase hfew hline hse hplain) fun σ H Q ⟨ρ,M,Q',re,hm,q,k⟩=>⟨ρ,M,_,re,hm,q,fun v H1 ⟨d,M1,rd,hm1,e1,q1⟩=>by
  cases d with
  | ref p =>
   obtain rfl:=aW rd
   obtain ⟨⟨ds0,h0⟩,q1⟩:=q1
   obtain ⟨us0,hu0,_⟩:=hm1.l p ds0 h0
   refine ⟨.inl ⟨rfl,us0,.of hu0⟩,ρ,M1,_,re.ext e1,hm1,q1,fun vs H2 ⟨dvs,M2,rs,hm2,e2,ds,y,ey,hp,hl,q2⟩=>?_⟩
   subst ey
   obtain ⟨w,rfl,rw'⟩:=gG rs
   obtain ⟨us,hu,ru⟩:=hm2.l p ds hp
   exact ⟨p,us,w,rfl,rfl,hu,by rw [<- ru.length];exact dZ (Nat.le_of_lt hl),k _ _ ⟨.non,_,pC,hm2.put hu (ru.append (cG rw' dB)),(e1.trans e2).trans (Ext.put hu _),q2⟩⟩
  | _=>exact q1.elim⟩
noncomputable def tyD:D->Option String
 | .non=>some "NoneType"
 | .bl _=>some "bool"
 | .int _=>some "int"
 | .str _=>some "str"
 | .tup _=>some "tuple"
 | .fz _=>some "list"
 | .ref _=>none
theorem tyT {K:PySem.W.Frag} {H:Hp} {s:Shared} {pins:List (Addr × Obj)} {σ:L2.St} (I:Inv X pins σ H s) {a:Addr} {xs:List V} (sq:SqT X.K H a xs):∃ o,s.heap.get? a = some o/\o.cls = .type "tuple":=by
 obtain ⟨its,_,⟨o,h1,h2,_⟩,_⟩:=I.tuple sq
 exact ⟨o,h1,h2⟩
theorem aGS {K:PySem.W.Frag} {H:Hp} {s:Shared} {pins:List (Addr × Obj)} {σ:L2.St} {A:Around} {E:Value->Shared->Prop} {Q:Value->Shared->Prop} {c:Value} {d:D} {v:V} {u:Value} {T:String} {k:Bool} (I:Inv X pins σ H s) (rd:Rep X.K H d v) (rv:bF v u) (ty:tyD d = some T)
  (e:PySem.W.kitOne X.K (.type T) c = some k) (h:∀ tk,Q (.bool k) { s with toks:=tk }):wpAny (model X.prog X.w) A (call (.builtin "isinstance") [u,c]) Q E s:=by
 cases d with
 | non=>cases ty;rw [cQ rd] at rv;exact iJ I rv (.non) e h
 | bl b=>cases ty;rw [bN rd] at rv;exact iJ I rv (.bl b) e h
 | int b=>cases ty;rw [aP rd] at rv;exact iJ I rv (.int b) e h
 | str b=>cases ty;rw [bI rd] at rv;exact iJ I rv (.str b) e h
 | ref b=>cases ty
 | tup b =>
  cases ty
  obtain ⟨a,us,rfl,sq,ru⟩:=bS rd
  cases rv
  obtain ⟨o,h1,h2⟩:=tyT (K:=K) I sq
  exact PySem.W.kia_one PySem.W.kitx_tuple I.kIn ⟨o,h1,h2⟩ e (fun z=>nomatch z) h
 | fz b =>
  cases ty
  obtain ⟨a,us,rfl,sq,ru⟩:=lJ rd
  cases rv
  obtain ⟨z,its,n,r,e1⟩:=aAe I sq
  exact PySem.W.kia_one PySem.W.kitx_list I.kIn ⟨_,e1,rfl⟩ e (fun z=>nomatch z) h
noncomputable def dIs (K:PySem.W.Frag) (c:Value) (te:DE):DE:=fun ρ M Q=>te ρ M fun d M1=>(∃ T k,tyD d = some T/\PySem.W.kitOne K (.type T) c = some k/\Q (.bl k) M1) ∨ (∃ (p:Addr) (xs:List D) (k:Bool),d = .ref p/\M1 p = some xs/\PySem.W.kitOne K (.type "list") c = some k/\Q (.bl k) M1)
theorem xQ {T:String} {x:Str} {p p2:Pos} (he:PDE X e te) (hm:X.mg "isinstance" = none) (hmx:X.mg x = none) (hv:bootBuiltins x = some (.type T):=by rfl) (hg:Gl X "isinstance":=by rfl) (hgx:Gl X x:=by rfl) (hn:x ≠ "__name__":=by decide) (hdb:(x == ("__debug__":Str)) = false:=by decide)
  (hse:starEach [e,.Name x p2] X.env = (false,eval e X.env) :: starEach [.Name x p2] X.env:=by rfl) (hse2:starEach [.Name x p2] X.env = (false,eval (.Name x p2) X.env) :: starEach [] X.env:=by rfl) (hpl:(backTo pos (starEach [.Name x p2] X.env)).any (·.1) = false:=by rfl) :
  PDE X (.Call (.Name "isinstance" p) [e,.Name x p2] [] pos) (dIs X.K (.type T) te):=by
 have hc:gY X (.builtin "isinstance") fun vs H Q=>∃ d M Q' v,vs = [v,.ty T]/\Rep X.K H d v/\bJ X.K M H/\((∃ T' k,tyD d = some T'/\PySem.W.kitOne X.K (.type T') (.type T) = some k/\Q' (.bl k) M) ∨ (∃ (p:Addr) (xs:List D) (k:Bool),d = .ref p/\M p = some xs/\PySem.W.kitOne X.K (.type "list") (.type T) = some k/\Q' (.bl k) M))/\∀ v H',LQ X.K H Q' v H'->Q v H':=by
  intro pins s σ H xs us Q I rs ⟨d,M,Q',v,e1,rd,hm,q,k⟩
  subst e1
  obtain ⟨u1,u2,rfl,rv,rt⟩:=rs.two
  cases rt
  rcases q with ⟨T',b,ty,e2,q⟩ | ⟨p,ys,b,rfl,hp,e2,q⟩
  ·exact aGS (K:=X.K) I rd rv ty e2 fun tk=>⟨.bl b,H,I.tok tk,rfl,k _ H ⟨_,M,cL,hm,.refl H,q⟩⟩
  ·obtain rfl:=aW rd
   obtain ⟨us,hu,ru⟩:=hm.l p ys hp
   exact iJ I rv (.lst hu) e2 fun tk=>⟨.bl b,H,I.tok tk,rfl,k _ H ⟨_,M,cL,hm,.refl H,q⟩⟩
 refine cF (mE hc hg hm rfl (iZ he (iZ (wQ hgx hmx hv (v:=.ty T) rfl hn hdb) sP hse2) hse) (by decide) (by decide) hse hpl) fun σ H Q ⟨ρ,M,Q',re,hm,q,k⟩=>?_
 exact ⟨ρ,M,_,re,hm,q,fun v H1 ⟨d,M1,rd,hm1,ex,q1⟩=>⟨d,M1,Q',v,rfl,rd,hm1,q1,fun v H' z=>k v H' (z.back ex)⟩⟩
end
noncomputable def gH (N:List Str) (ds:List D):bV:=ds.map some ++ List.replicate (N.length - ds.length) none
noncomputable def Dn (Q:DQ):DQ:=fun d M=>∃ M',bK M' M/\Q d M'
section
variable {P:Program} {w:World} {K:PySem.W.Frag} {mg:Str->Option Value} {base:Heap}
theorem pX {H:Hp} {ds:List D} {vs:List V} (r:bG K H ds vs) (N:List Str):eI K H (gH N ds) (L2.start N vs):=by
 have hl:=r.length
 refine ⟨by unfold gH L2.start;simp only [List.length_append,List.length_map,List.length_replicate,hl],fun i d q=>?_⟩
 unfold gH at q
 unfold L2.start
 by_cases hi:i < ds.length
 ·rw [List.getElem?_append_left (by simpa using hi),List.getElem?_map] at q
  rw [List.getElem?_append_left (by simpa [<- hl] using hi),List.getElem?_map]
  cases e:ds[i]? with
  | none=>rw [e] at q;cases q
  | some d' =>
   rw [e] at q
   cases q
   obtain ⟨v,e2,rv⟩:=r.get e
   exact ⟨v,by rw [e2];rfl,rv⟩
 ·rw [List.getElem?_append_right (by simpa using hi),List.getElem?_replicate] at q
  split at q<;>cases q
theorem Fun.okD {x qual:Str} {st:Stmt} {f:Addr} {fd:FuncData} {N ps:List Str} {k:Nat} {sp:DSp} (F:L2.Fun K x qual st f fd) (S:aT N ps (aJ st)) (len:∀ ds M Q,sp ds M Q->ds.length = ps.length)
  (hbody:∀ (cdv:Value) (A:Around) (outer:List Env) (s:Shared) (H:Hp) (ds:List D) (M:DM) (Q:DQ) (E:XK),dN k (A.deeper (envOfC qual (aJ st) s.heap.objs.size f cdv))->sp ds M Q ->
   ∃ t,iS (jR CX0 P w K mg base N qual (aJ st) f cdv A outer s H E).nox (dO st) t/\t { nx:=fun _ M'=>Dn Q .non M',rt:=Dn Q } (gH N ds) M):jD P w K mg base CX0 (k + 1) f fd ps (oF K sp):=by
 refine F.ok S (fun vs H Q E ⟨ds,M,Q',rs,hm,q,_⟩=>by rw [<- rs.length];exact len ds M Q' q) fun cdv A outer s H vs Q E hr ⟨ds,M,Q',rs,hm,q,k'⟩=>?_
 obtain ⟨t,h1,h2⟩:=hbody cdv A outer s H ds M Q' E hr q
 have fin:∀ v H',LQ K H (Dn Q') v H'->Q v H':=fun v H' ⟨d,M1,rd,hm1,ex,M2,sub,q2⟩=>k' v H' ⟨d,M2,rd,hm1.sub sub,ex,q2⟩
 refine ⟨_,h1,gH N ds,M,_,pX rs N,hm,h2,⟨fun σ' H' ⟨ρ',M',_,hm',ex,q'⟩=>fin _ H' ⟨.non,M',pC,hm',ex,q'⟩,fin,fun σ' H' ⟨_,_,_,_,_,z⟩=>z.elim,fun σ' H' ⟨_,_,_,_,_,z⟩=>z.elim⟩⟩
end
theorem yS {P:Program} {w:World} {K:PySem.W.Frag} {mg mb:Str->Option Value} {CX:CXT} {k:Nat} {fa a:Addr} {fd:FuncData} {x:Str} {sp:Sp} {s₁:Shared} {vs:List Value} {ns:List Int}
  (KX:K.In s₁.heap) (hns:s₁.heap.Ns mainGlobals mg) (hb:s₁.heap.Ns builtinsNs mb) (hbb:∀ x:Str,x ≠ "__name__"->mb x = bootBuiltins x) (hlim:s₁.heap.NoLimit) (hg:s₁.gens = #[])
  (ha:s₁.heap.get? a = some { cls:=.type "list",data:=.seq vs.toArray }) (hi:IntsAre vs ns) (hl:ns.length<=sizeLine) (hr:dN k callerA)
  (F:∀ base:Heap,K.In base->base.Ns mainGlobals mg->jD P w K mg base CX k fa fd [x] sp) (hbind:∀ (s:Shared) (u:Value),BindsTo s fd ⟨[u],[]⟩ [(x,u)])
  (hsp:∀ H:Hp,aFI H->SqX K H a (ns.map V.int)->sp [.ref a] H (fun v _=>v = .bl true) fun _ _ _=>False)
  (hCX:∀ H e s',CX [] H s₁ (fun _ _ _=>False) e s'->False) :
  codeAny (model P w) callerA (.call (.ref fa) ⟨[.ref a],[]⟩) (fun r s'=>r = .ok (.ret (.bool true))/\OldK s₁.heap s'.heap/\s'.os = s₁.os/\AllBare s'.gens) s₁:=by
 have rv:=nH hi
 have lenV:=hi.length
 refine aAP (ns:=ns) (sp:=fun vs H Q E=>SqX K H a (ns.map V.int)/\sp vs H Q E) KX hns hb hbb hlim hg ha hi hl hr (fun base h1 h2=>(F base h1 h2).imp fun _ _ _ _ z=>z.2) hbind (fun H hO hS=>?_) hCX
 have sx:SqX K H a (ns.map V.int):=by
  rcases hS with (h | h) | ⟨o,its,n,hk,hc,hd,hs,hz,r⟩
  ·rcases hO a with z | ⟨o,xs,z⟩
   ·rw [h] at z;cases z
   ·rw [h] at z;cases z
  ·exact .inl h
  ·have e:=KX a o hk
   rw [ha] at e
   cases e
   cases hs
   exact .inr ⟨_,_,hk,hz,r⟩
 exact ⟨sx,hsp H hO sx⟩
theorem walk_ofD {l:PySem.W.OpenLaw} {n k:Nat} {q:Program} {loose:List Str} {XP:(Str->Option Value)->Heap->Prop} {YP:World->Heap->Prop} {d:DefRec} {K:Params->PySem.W.Frag} {sp:DSp} {x:Str}
  (hn:l.most = some n) (hn2:n<=sizeLine) (hdf:d.params.defaults = []) (hr:dN k callerA)
  (hY:∀ (w:World) (h:Heap),YP w h->(K w.params).In h)
  (F:∀ (w:World) (mg:Str->Option Value) (fa:Addr) (h:Heap),(K w.params).In h->h.Ns mainGlobals mg->mg d.name = some (.ref fa) ->
   ∃ fd:FuncData,(∀ (s:Shared) (u:Value),BindsTo s fd ⟨[u],[]⟩ [(x,u)]) /\
    ∀ base:Heap,(K w.params).In base->base.Ns mainGlobals mg->jD l.prog w (K w.params) mg base CX0 k fa fd [x] (oF (K w.params) sp))
  (hsp:∀ (ns:List Int),ns.length<=n->∀ M,sp [.fz (ns.map D.int)] M fun d _=>d = .bl true) :
  PySem.W.WalkO q loose XP YP l.row.toRowW d [] (fun f vs=>PySem.call f vs):=by
 refine Att.attach_call hn hdf fun w s₀ s₁ mg mb fa o pm cd doc a vs ns G Y ho hd hcd hmg hobj hints hlen hg=>?_
 have KX:=hY w _ Y
 obtain ⟨fd,hb,hF⟩:=F w mg fa _ KX G.T.g hmg
 refine yS KX G.T.g G.T.b G.T.builtins G.T.nolimit hg hobj hints (Nat.le_trans hlen hn2) hr hF hb (fun H hO hS=>?_) fun H e s' h=>h
 refine ⟨[.fz (ns.map D.int)],fun _=>none,_,cG (by unfold Rep;exact ⟨a,_,rfl,hS,sE ns⟩) dB,⟨(fun _ _ z=>by cases z),(fun _ _ z=>by cases z)⟩,hsp ns hlen _,fun v H' z=>?_⟩
 obtain ⟨d,M',rd,_,_,e⟩:=z
 have e':d = .bl true:=e
 subst e'
 exact bN rd
end Dd
namespace Dd
open PySem PySem.Spec PyProof.Rows L2
noncomputable def cZ (K:PySem.W.Frag) (mg:Str->Option Value) (x:Str) (st:Stmt) (ps:List Str):Prop:=∃ f fd,L2.Fun K x x st f fd/\mg x = some (.ref f)/\lE K fd ps []
noncomputable def Has (P:Program) (w:World) (K:PySem.W.Frag) (mg:Str->Option Value) (base:Heap) (k:Nat) (x:Str) (ps:List Str) (sp:DSp):Prop :=
 ∃ f fd,jD P w K mg base CX0 k f fd ps (oF K sp)/\mg x = some (.ref f)/\PySem.W.keepIn K (.ref f) = true/\lE K fd ps []
noncomputable def iB (K:PySem.W.Frag) (mg:Str->Option Value) (x:Str) (d:D):Prop:=∃ u v,mg x = some u/\bF v u/\∀ H,Rep K H d v
section
variable {P:Program} {w:World} {K:PySem.W.Frag} {mg:Str->Option Value} {base:Heap}
theorem Has.mk {x:Str} {st:Stmt} {N ps:List Str} {k:Nat} {sp:DSp} (h:cZ K mg x st ps) (S:aT N ps (aJ st)) (len:∀ ds M Q,sp ds M Q->ds.length = ps.length)
  (hbody:∀ (f:Addr) (cdv:Value) (A:Around) (outer:List Env) (s:Shared) (H:Hp) (ds:List D) (M:DM) (Q:DQ) (E:XK),dN k (A.deeper (envOfC x (aJ st) s.heap.objs.size f cdv))->sp ds M Q ->
   ∃ t,iS (jR CX0 P w K mg base N x (aJ st) f cdv A outer s H E).nox (dO st) t/\t { nx:=fun _ M'=>Dn Q .non M',rt:=Dn Q } (gH N ds) M):Has P w K mg base (k + 1) x ps sp:=by
 obtain ⟨f,fd,F,hm,hb⟩:=h
 exact ⟨f,fd,Fun.okD F S len fun cdv A outer s H ds M Q E hr q=>hbody f cdv A outer s H ds M Q E hr q,hm,F.kp,hb⟩
end
section
variable {X:Cx} {a b c e:Expr} {es:List Expr} {ta tb te:DE} {t:DA} {pos p:Pos} {x:Str} {ps:List Str} {sp:DSp} {k j:Nat}
theorem aBm (h:Has X.prog X.w X.K X.mg X.base k x ps sp) (hr:dN j X.A) (hkj:k<=j) (ha:PDA X (e :: es) t) (hg:Gl X x:=by rfl)
  (hdb:(x == ("__debug__":Str)) = false:=by decide) (he:starEach (e :: es) X.env = (false,eval e X.env) :: starEach es X.env:=by rfl) (hpl:(backTo pos (starEach es X.env)).any (·.1) = false:=by rfl) :
  PDE X (.Call (.Name x p) (e :: es) [] pos) (mP sp t):=by
 obtain ⟨f,fd,F,hm,hk,hb⟩:=h
 exact aC7 F (hr.mono hkj) hm hk hb aGb ha hg hdb he hpl
theorem aBa {d:D} (h:iB X.K X.mg x d) (hg:Gl X x:=by rfl) (hd:(x == ("__debug__":Str)) = false:=by decide):PDE X (.Name x pos) (dC d):=by
 obtain ⟨u,v,hm,rv,hr⟩:=h
 exact aCp hg hm rv hr hd
noncomputable def aB7 (i:Nat) (te:DE) (g:Int->Int->Int):DS:=fun E ρ M=>match ρ[i]? with
 | some (some (.int z))=>te ρ M fun y M1=>match y with
  | .int j=>E.nx (ρ.set i (some (.int (g z j)))) M1
  | _=>False
 | _=>False
theorem aCQ {i:Nat} {op:Operator} {g:Int->Int->Int} {pos':Pos} (ho:PIp X op (ipI g)) (hN:X.N.Nodup) (he:PDE X e te) (hi:X.N[i]? = some x:=by rfl) (hx:Loc X.env.scope x:=by first | exact Or.inl rfl | exact Or.inr rfl) (hf:X.fn x = true ∨ X.env.scope.names.lookup x = some .local:=by first | exact .inl rfl | exact .inr rfl | assumption) :
  PDS X (.AugAssign (.Name x pos') op e pos) (aB7 i te g) :=
 gF (aEg (i:=i) hN hi hx he ho hf) fun E σ H ⟨ρ,M,Dn,re,hm,q,k⟩=>by
  unfold aB7 at q
  split at q
  ·rename_i z e1
   obtain ⟨v,e2,rv⟩:=re.get i _ e1
   obtain rfl:=aP rv
   refine ⟨_,e2,ρ,M,_,re,hm,q,fun w H1 ⟨d,M1,rd,hm1,ex,q1⟩=>?_⟩
   cases d with
   | int j=>exact ⟨z,j,rfl,aP rd,k.nx _ H1 ⟨_,M1,(re.ext ex).set bL i,hm1,ex,q1⟩⟩
   | _=>exact q1.elim
  ·exact q.elim
end
theorem dif {c A B:Prop} [Decidable c] (h1:c->A) (h2:¬ c->B):if decide c = true then A else B:=by
 by_cases h:c
 ·rw [decide_eq_true h];exact h1 h
 ·rw [decide_eq_false h];exact h2 h
theorem aGA {b:Bool} {A B:Prop} (h1:b = true->A) (h2:b = false->B):if b = true then A else B:=by
 cases b
 ·exact h2 rfl
 ·exact h1 rfl
end Dd
namespace Dd
open PySem PySem.Spec PyProof.Rows L2
section
variable {prog:Program} {w:World} {A:Around} {E:Value->Shared->Prop} {s:Shared}
theorem pY {h h':Heap} {it t:Addr} {items:Array Value} (ht:h.IsList t items) (hs:Heap.SameBut it h h') (hne:t ≠ it):h'.IsList t items:=by
 obtain ⟨o,e,r⟩:=ht
 exact ⟨o,(hs.2 t hne).trans e,r⟩
theorem oE {h:Heap} {t:Addr} {items:Array Value} (ht:h.IsList t items) (o:Obj):(h.push o).IsList t items:=by
 obtain ⟨o',e,r⟩:=ht
 exact ⟨o',Heap.get?_push_of_some _ e,r⟩
theorem sJ {it t:Addr} {items:Array Value} (hne:t ≠ it):∀ (n i:Nat) (s:Shared) (Q:List Value->Shared->Prop),s.heap.IsListIter it t i->s.heap.IsList t items->i + n<=items.size ->
  (∀ h',h'.IsListIter it t (i + n)->Heap.SameBut it s.heap h'->Q ((items.toList.drop i).take n) { s with heap:=h' })->wpAny (model prog w) A (draw (.ref it) n) Q E s
 | 0,i,s,Q,hit,_,_,hQ=>by
  show wpAny _ _ (pure []) Q E s
  exact wpAny_pure (by simpa using hQ s.heap hit (Heap.SameBut.refl ..))
 | n + 1,i,s,Q,hit,ht,hle,hQ=>by
  have hlt:i < items.size:=by omega
  show wpAny _ _ (pyNext (.ref it) >>= _) Q E s
  refine wpAny_bind (wpAny_pyNext_list_item hit ht (x:=items[i]) (by simp [hlt]) fun h₁ hit₁ hs₁=>?_)
  refine wpAny_bind (wpAny_holding (sJ hne n (i + 1) _ _ hit₁ (pY ht hs₁ hne) (by omega) fun h₂ hit₂ hs₂=>wpAny_pure ?_))
  have hd:items.toList.drop i = items[i] :: items.toList.drop (i + 1):=by simp [List.drop_eq_getElem_cons,hlt]
  have:=hQ h₂ (by rw [show i + (n + 1) = i + 1 + n by omega];exact hit₂) (hs₁.trans hs₂)
  rw [hd,List.take_succ_cons] at this
  exact this
theorem mW {t:Addr} {items:Array Value} {Q:List Value->Shared->Prop} (hh:A.handled = none) (ht:s.heap.IsList t items)
  (hQ:∀ h',Heap.ExtBut s.heap.objs.size s.heap h'->Q items.toList { s with heap:=h' }):wpAny (model prog w) A (unpackItems (.ref t) items.size none) Q E s:=by
 have hlt:t ≠ s.heap.objs.size:=by obtain ⟨o,ho,_⟩:=ht;exact Nat.ne_of_lt (Heap.lt_size ho)
 unfold unpackItems
 refine wpAny_bind ?_
 ·unfold notIterableAtAll
  refine wpAny_bind (wpAny_specialOf ht.typeIs slot_list_iter.lookup ?_)
  refine wpAny_pure ?_
  simp only [Bool.false_eq_true,if_false]
  refine wpAny_bind (wpAny_holding (wpAny_pyIter_list ht ?_))
  refine wpAny_bind (wpAny_holding (sJ hlt items.size 0 _ _ ⟨_,Heap.get?_push_size _ rfl,rfl,rfl⟩ (oE ht _) (by omega) fun h₁ hit₁ hs₁=>?_))
  have hall:List.take items.size (List.drop 0 items.toList) = items.toList:=by
   rw [List.drop_zero];exact List.take_of_length_le (by simp)
  rw [hall]
  rw [if_neg (by simp)]
  have ht₁:h₁.IsList t items:=pY (oE ht _) hs₁ hlt
  refine wpAny_bind (wpAny_holding (wpAny_pyNext_list_end hh hit₁ ht₁ (by simp) fun h₂ he₂=>?_))
  simp only [Option.isSome_none,Bool.false_eq_true,if_false]
  refine wpAny_pure (hQ h₂ fun b o hb e=>he₂ b o hb (hs₁.extBut b o hb (Heap.get?_push_of_some _ e)))
theorem mU {env:Env} {elts:List Expr} {x1} {pos:Pos} {t:Addr} {items:Array Value} {Q:Unit->Shared->Prop} (hh:A.handled = none) (ht:s.heap.IsList t items)
  (hn:(assignEach elts env).length = items.size) (hstar:(assignEach elts env).findIdx? (·.1) = none)
  (h:∀ h',Heap.ExtBut s.heap.objs.size s.heap h'->wpAny (model prog w) A (assignInOrder ((assignEach elts env).map (·.2)) items.toList) Q E { s with heap:=h' }) :
  wpAny (model prog w) A (assign (.Tuple elts x1 pos) env (.ref t)) Q E s:=by
 rw [assign_Tuple]
 refine wpAny_bind (wpAny_standAt ?_)
 unfold unpack
 rw [hn,hstar]
 exact wpAny_bind (wpAny_holding (mW hh ht h))
end
section
variable {X:Cx} {pos:Pos} {e a b:Expr} {es:List Expr} {te ta tb:DE}
noncomputable def gU (n:Nat) (t:DGs):DG:=fun d ρ M Q=>match d with
 | .tup ds=>ds.length = n/\t ds ρ M Q
 | .ref a=>∃ ds,M a = some ds/\ds.length = n/\t ds ρ M Q
 | _=>False
theorem aDZ {k:Nat} {t:DGs} {n:Nat} (hc:X.calm = true) (h:uW X es t) (hn:(assignEach es X.env).length = n:=by rfl) (hst:(assignEach es X.env).findIdx? (·.1) = none:=by rfl):PDG X (.Tuple es k pos) (gU n t):=by
 intro pins s σ H v u Q I r ⟨d,ρ,M,Q',rd,re,hm,q,k'⟩
 cases d with
 | tup ds=>exact aFf hc h hn hst pins s σ H v u Q I r ⟨.tup ds,ρ,M,Q',rd,re,hm,q,k'⟩
 | ref p =>
  obtain ⟨ds,hp,hl,q⟩:=q
  obtain rfl:=aW rd
  cases r
  obtain ⟨us,hu,ru⟩:=hm.l p ds hp
  obtain ⟨z,its,nn,rv,hlen,e1⟩:=I.lstM hu
  have l1:=ru.length
  refine mU (I.ok.hd hc) ⟨_,e1,rfl,_,rfl⟩ (by rw [hn,List.size_toArray];omega) hst fun h' hx=>?_
  have I1:Inv X pins σ H { s with heap:=h' }:=I.kept (t':=s.toks) fun b o e=>hx b o (Nat.ne_of_lt (Heap.lt_size e)) e
  exact h pins _ σ H us _ Q I1 (by simpa using rv) ⟨ds,ρ,M,Q',ru,re,hm,q,k'⟩
 | _=>exact q.elim
noncomputable def isV:D->D->Option Bool
 | .non,.non=>some true
 | .bl a,.bl b=>some (a == b)
 | .non,.bl _=>some false
 | .bl _,.non=>some false
 | .int _,.non=>some false
 | .str _,.non=>some false
 | .tup _,.non=>some false
 | .ref _,.non=>some false
 | .fz _,.non=>some false
 | .tup _,.bl _=>some false
 | _,_=>none
noncomputable def aFc (g:Bool->Bool):D2:=fun x y M Q=>match isV x y with
 | some k=>Q (.bl (g k)) M
 | none=>False
theorem aD6 {K:PySem.W.Frag} {H:Hp} {x y:V} {v u:Value} {dx dy:D} {k:Bool} (rx:bF x v) (ry:bF y u) (r1:Rep K H dx x) (r2:Rep K H dy y) (h:isV dx dy = some k):plainIs v u = true/\(v == u) = k:=by
 cases dx<;>cases dy<;>first
  | (cases (show (none:Option Bool) = some k from h))
  | (
    first
    | (rw [cQ r1] at rx;cases rx)
    | (rw [bN r1] at rx;cases rx)
    | (rw [aP r1] at rx;obtain ⟨t,rfl⟩:=rx)
    | (rw [bI r1] at rx;obtain ⟨t,rfl⟩:=rx)
    | (rw [aW r1] at rx;cases rx)
    | (obtain ⟨a,us,rfl,_,_⟩:=bS r1;cases rx)
    | (obtain ⟨a,us,rfl,_,_⟩:=lJ r1;cases rx)
    first
    | (rw [cQ r2] at ry;cases ry)
    | (rw [bN r2] at ry;cases ry)
    simp only [isV,Option.some.injEq] at h
    subst h
    constructor<;>first | rfl | (rename_i b1 b2;cases b1<;>cases b2<;>rfl))
theorem aAa:OpD X (compareOp .IsNot) (aFc not):=fun pins s σ H x y v u Q I rx ry ⟨dx,dy,M,Q',r1,r2,hm,q,k⟩=>by
 unfold aFc at q
 split at q
 ·rename_i b e
  obtain ⟨h1,h2⟩:=aD6 rx ry r1 r2 e
  exact wpAny_isNot_plain h1 (by rw [h2];exact ⟨.bl (!b),H,I,rfl,k _ H ⟨_,M,cL,hm,.refl H,q⟩⟩)
 ·exact q.elim
end
end Dd
namespace Dd
open PySem PySem.Spec PyProof.Rows L2
section
variable {M:DM} {Q:DQ} {g:Bool->Bool} {ds:List D} {i:Int} {a:Addr} {α:Type} {x0 x1 x2 x3 x4 x5:α} {l:List α}
theorem ixT:jQ (.tup ds) (.int i) M Q = (match atI ds i with | some d=>Q d M | none=>False):=rfl
theorem ixF:jQ (.fz ds) (.int i) M Q = (match atI ds i with | some d=>Q d M | none=>False):=rfl
theorem aG9:jQ (.ref a) (.int i) M Q = (∃ ds d,M a = some ds/\atI ds i = some d/\Q d M):=rfl
theorem aDM:atI [x0] 0 = some x0:=rfl
theorem aEV:atI [x0] (-1) = some x0:=rfl
theorem aDz:atI [x0,x1] 0 = some x0:=rfl
theorem aFd:atI [x0,x1] 1 = some x1:=rfl
theorem aD2:atI [x0,x1] (-1) = some x1:=rfl
theorem aD0:atI [x0,x1,x2] 0 = some x0:=rfl
theorem aFw:atI [x0,x1,x2] 1 = some x1:=rfl
theorem aFg:atI [x0,x1,x2] 2 = some x2:=rfl
theorem aFn:atI [x0,x1,x2] (-1) = some x2:=rfl
theorem aE1:atI [x0,x1,x2,x3] 0 = some x0:=rfl
theorem aFC:atI [x0,x1,x2,x3] 1 = some x1:=rfl
theorem aEq:atI [x0,x1,x2,x3] 2 = some x2:=rfl
theorem aE3:atI [x0,x1,x2,x3] 3 = some x3:=rfl
theorem aDy:atI [x0,x1,x2,x3] (-1) = some x3:=rfl
theorem aEN:atI [x0,x1,x2,x3,x4] 0 = some x0:=rfl
theorem aEO:atI [x0,x1,x2,x3,x4] 1 = some x1:=rfl
theorem aEw:atI [x0,x1,x2,x3,x4] 2 = some x2:=rfl
theorem aEv:atI [x0,x1,x2,x3,x4] 3 = some x3:=rfl
theorem aDX:atI [x0,x1,x2,x3,x4] 4 = some x4:=rfl
theorem aE7:atI [x0,x1,x2,x3,x4] (-1) = some x4:=rfl
theorem aDR:atI [x0,x1,x2,x3,x4,x5] 0 = some x0:=rfl
theorem aE2:atI [x0,x1,x2,x3,x4,x5] 1 = some x1:=rfl
theorem aEb:atI [x0,x1,x2,x3,x4,x5] 2 = some x2:=rfl
theorem aFG:atI [x0,x1,x2,x3,x4,x5] 3 = some x3:=rfl
theorem aE9:atI [x0,x1,x2,x3,x4,x5] 4 = some x4:=rfl
theorem aDu:atI [x0,x1,x2,x3,x4,x5] 5 = some x5:=rfl
theorem aEo:atI [x0,x1,x2,x3,x4,x5] (-1) = some x5:=rfl
theorem aDS {n:Nat} {t:DGs} {ρ:bV} {R:bV->DM->Prop}:gU n t (.tup ds) ρ M R = (ds.length = n/\t ds ρ M R):=rfl
theorem aFD {n:Nat} {t:DGs} {ρ:bV} {R:bV->DM->Prop}:gU n t (.ref a) ρ M R = (∃ ds,M a = some ds/\ds.length = n/\t ds ρ M R):=rfl
theorem bE {i j:Int}:dEq g (.int i) (.int j) M Q = Q (.bl (g (decide (i = j)))) M:=by
 show (aZ 60 (.int i) = true/\aZ 60 (.int j) = true/\Q (.bl (g (eqD (.int i) (.int j)))) M) = _
 have e:eqD (.int i) (.int j) = decide (i = j):=by show (i == j) = _;by_cases h:i = j<;>simp [h]
 rw [e]
 exact propext ⟨fun h=>h.2.2,fun h=>⟨rfl,rfl,h⟩⟩
theorem bD {x y:Str}:dEq g (.str x) (.str y) M Q = Q (.bl (g (decide (x = y)))) M:=by
 show (aZ 60 (.str x) = true/\aZ 60 (.str y) = true/\Q (.bl (g (eqD (.str x) (.str y)))) M) = _
 have e:eqD (.str x) (.str y) = decide (x = y):=by show (x == y) = _;by_cases h:x = y<;>simp [h]
 rw [e]
 exact propext ⟨fun h=>h.2.2,fun h=>⟨rfl,rfl,h⟩⟩
noncomputable def isK (K:PySem.W.Frag) (c:Value) (d:D) (M:DM) (Q:DQ):Prop:=(∃ T k,tyD d = some T/\PySem.W.kitOne K (.type T) c = some k/\Q (.bl k) M) ∨ (∃ (p:Addr) (xs:List D) (k:Bool),d = .ref p/\M p = some xs/\PySem.W.kitOne K (.type "list") c = some k/\Q (.bl k) M)
theorem aEP {K:PySem.W.Frag} {c:Value} {te:DE} {ρ:bV}:dIs K c te ρ M Q = te ρ M fun d M1=>isK K c d M1 Q:=rfl
end
end Dd
namespace L2
open PySem PySem.Spec PyProof.Rows
noncomputable def clo (cells:List (Str × Addr)):List (Str × NameKind)->List (Str × Addr)->List (Str × Addr)
 | [],cs=>cs
 | (n,k) :: r,cs=>clo cells r (if k == .free then (n,(cells.lookup n).getD 0) :: cs else cs)
noncomputable def uX (env:Env) (x:Str × NameKind) (r:List (Str × Addr)):Sem (ForInStep (List (Str × Addr))) :=
 if (x.2 == NameKind.free) = true then do let a <- cellOf env x.1;pure (ForInStep.yield ((x.1,a) :: r)) else pure (ForInStep.yield r)
theorem vI {env:Env}:∀ (names:List (Str × NameKind)) (cs:List (Str × Addr)),(∀ y ∈ names,y.2 = .free->∃ c,env.cells.lookup y.1 = some c)->(forIn names cs (uX env):Sem (List (Str × Addr))) = pure (clo env.cells names cs)
 | [],cs,_=>rfl
 | (n,k) :: r,cs,hh=>by
  rw [List.forIn_cons]
  have ih:=fun cs=>vI (env:=env) r cs fun z hz=>hh z (List.mem_cons_of_mem _ hz)
  cases hk:k == NameKind.free with
  | true =>
   have hf:k = .free:=by simpa using hk
   obtain ⟨c,hc⟩:=hh (n,k) List.mem_cons_self hf
   have hc:env.cells.lookup n = some c:=hc
   have e:uX env (n,k) cs = pure (ForInStep.yield ((n,c) :: cs)):=by
    unfold uX
    rw [if_pos hk]
    show (cellOf env n >>= _) = _
    unfold cellOf
    rw [hc]
    rfl
   rw [e]
   refine Eq.trans (b:=(forIn r ((n,c) :: cs) (uX env):Sem (List (Str × Addr)))) rfl ?_
   rw [ih]
   show _ = pure (clo env.cells r (if k == .free then (n,(env.cells.lookup n).getD 0) :: cs else cs))
   rw [hk,if_pos rfl,hc]
   rfl
  | false =>
   have e:uX env (n,k) cs = pure (ForInStep.yield cs):=by
    unfold uX
    rw [if_neg (by rw [hk];decide)]
   rw [e]
   refine Eq.trans (b:=(forIn r cs (uX env):Sem (List (Str × Addr)))) rfl ?_
   rw [ih]
   show _ = pure (clo env.cells r (if k == .free then (n,(env.cells.lookup n).getD 0) :: cs else cs))
   rw [hk,if_neg (by decide)]
theorem uU {scope:Scope} {env:Env} (h:∀ y ∈ scope.names,y.2 = .free->∃ c,env.cells.lookup y.1 = some c):closureFor scope env = pure (clo env.cells scope.names []):=by
 have e:closureFor scope env = ((forIn scope.names [] (uX env):Sem (List (Str × Addr))) >>= fun cs=>pure cs):=rfl
 rw [e,vI _ _ h]
 rfl
theorem xG {cells:List (Str × Addr)} {x:Str} {c:Addr}:∀ {names:List (Str × NameKind)} {cs:List (Str × Addr)},(∀ y ∈ names,y.2 = .free->∃ c,cells.lookup y.1 = some c)->(cs.lookup x = some c->cells.lookup x = some c)->(clo cells names cs).lookup x = some c->cells.lookup x = some c
 | [],cs,_,h,e=>h e
 | (n,k) :: r,cs,hh,h,e=>by
  unfold clo at e
  refine xG (fun y hy=>hh y (List.mem_cons_of_mem _ hy)) (fun e2=>?_) e
  cases hk:k == NameKind.free with
  | false=>rw [hk,if_neg (by decide)] at e2;exact h e2
  | true =>
   rw [hk,if_pos rfl] at e2
   have hk':k = .free:=by simpa using hk
   obtain ⟨c',hc'⟩:=hh (n,k) List.mem_cons_self hk'
   have hc':cells.lookup n = some c':=hc'
   rw [List.lookup_cons] at e2
   cases hx:x == n with
   | true =>
    rw [hx] at e2
    have:x = n:=by simpa using hx
    subst this
    rw [hc'] at e2 ⊢
    exact e2
   | false=>rw [hx] at e2;exact h e2
theorem sL {cells:List (Str × Addr)} {x:Str}:∀ {names:List (Str × NameKind)} {cs:List (Str × Addr)},((x,NameKind.free) ∈ names ∨ ∃ c,cs.lookup x = some c)->∃ c,(clo cells names cs).lookup x = some c
 | [],cs,h=>by
  rcases h with h | h
  ·exact nomatch h
  ·exact h
 | (n,k) :: r,cs,h=>by
  unfold clo
  refine sL ?_
  have ins:∀ {v:Addr},(∃ c,cs.lookup x = some c)->∃ c,((n,v) :: cs).lookup x = some c:=fun {v} ⟨c,e⟩=>by
   rw [List.lookup_cons]
   cases x == n with
   | true=>exact ⟨_,rfl⟩
   | false=>exact ⟨c,e⟩
  rcases h with h | h
  ·rcases List.mem_cons.mp h with e | e
   ·cases e
    refine .inr ⟨_,by rw [if_pos (by rfl),List.lookup_cons,beq_self_eq_true]⟩
   ·exact .inl e
  ·cases hk:k == NameKind.free with
   | true=>rw [if_pos rfl];exact .inr (ins h)
   | false=>rw [if_neg (by decide)];exact .inr h
theorem oC {g:Str->NameKind->NameKind} {x:Str}:∀ {names:List (Str × NameKind)},(names.map fun p=>(p.1,g p.1 p.2)).lookup x = (names.lookup x).map (g x)
 | []=>rfl
 | (n,k) :: r=>by
  rw [List.map_cons,List.lookup_cons,List.lookup_cons]
  cases hx:x == n with
  | true =>
   have:x = n:=by simpa using hx
   subst this
   rfl
  | false=>exact oC
theorem jW {scope:Scope} {env:Env} {x:Str}:(relabel scope env).names.lookup x = (scope.names.lookup x).map fun k=>if (k == NameKind.free && env.scope.kind == .function && env.kindOf x == some .cell) = true then .cell else k:=by
 rw [<- oC (g:=fun x k=>if (k == NameKind.free && env.scope.kind == .function && env.kindOf x == some .cell) = true then .cell else k)]
 unfold relabel
 dsimp only
 congr 1
 refine List.map_congr_left fun p _=>?_
 obtain ⟨n,k⟩:=p
 dsimp only
 split<;>rfl
noncomputable abbrev Cx.blk (X:Cx) (N':List Str) (scope:Scope) (C:Addr) (s:Shared) (H:Hp) (fp:List Addr) (pins:List (Addr × Obj)):Cx :=
 { X with N:=N',s₀:=s,H₀:=H,env:=compEnvC scope (clo X.env.cells scope.names []) C X.env,outer:=X.stack,ex:=fp,fn:=fun _=>false,pn:=X.pn ++ pins,xe:=fun _ _=>False }
structure eE (X:Cx) (N':List Str) (fr:List (Option Nat)) (scope:Scope):Prop where
 kind:scope.kind = .function
 nocell:∀ y ∈ scope.names,y.2 ≠ .cell
 names:∀ y ∈ scope.names,y.2 = .local->scope.names.lookup y.1 = some .local
 free:∀ y ∈ scope.names,y.2 = .free->X.env.scope.names.lookup y.1 = some .cell
 len:fr.length = N'.length
 at':∀ (i j:Nat) (x:Str),N'[i]? = some x->fr[i]? = some (some j)->X.N[j]? = some x/\scope.names.lookup x = some .free
structure yM (oN:List Str) (osc:Scope) (N':List Str) (fr:List (Option Nat)) (scope:Scope):Prop where
 kind:scope.kind = .function
 nocell:∀ y ∈ scope.names,y.2 ≠ .cell
 names:∀ y ∈ scope.names,y.2 = .local->scope.names.lookup y.1 = some .local
 free:∀ y ∈ scope.names,y.2 = .free->osc.names.lookup y.1 = some .cell
 len:fr.length = N'.length
 at':∀ p ∈ N'.zip fr,∀ j ∈ p.2,oN[j]? = some p.1/\scope.names.lookup p.1 = some .free
theorem yM.scope {X:Cx} {oN:List Str} {osc:Scope} {N':List Str} {fr:List (Option Nat)} {scope:Scope} (B:yM oN osc N' fr scope) (hN:X.N = oN) (ho:X.env.scope = osc):eE X N' fr scope:=by
 subst hN ho
 refine ⟨B.kind,B.nocell,B.names,B.free,B.len,fun i j x h1 h2=>?_⟩
 have:(x,some j) ∈ N'.zip fr:=by
  refine List.mem_of_getElem? (i:=i) ?_
  rw [List.getElem?_zip_eq_some]
  exact ⟨h1,h2⟩
 exact B.at' _ this j rfl
noncomputable def nL (fr:List (Option Nat)) (σ:St):St:=fr.map fun o=>match o with
 | some j=>(σ[j]?).join
 | none=>none
section
variable {X:Cx} {pins:List (Addr × Obj)} {σ:St} {H:Hp} {s:Shared} {N':List Str} {fr:List (Option Nat)} {scope:Scope} {C:Addr} {fp:List Addr}
theorem eE.hasC (S:eE X N' fr scope) (ok:X.Ok):∀ y ∈ scope.names,y.2 = .free->∃ c,X.env.cells.lookup y.1 = some c:=fun y hy e=>ok.has y.1 (.inl (S.free y hy e))
theorem eE.sub (S:eE X N' fr scope) (ok:X.Ok) {x:Str} {c:Addr} (h:(clo X.env.cells scope.names []).lookup x = some c):X.env.cells.lookup x = some c:=xG (S.hasC ok) (fun z=>by cases z) h
theorem wU (S:eE X N' fr scope) (I:Inv X pins σ H s) {h':Heap} {m:Str->Option Value} (k:∀ x c v,(clo X.env.cells scope.names []).lookup x = some c->s.heap.IsCell c v->h'.IsCell c v) :
  ∀ (i:Nat) (x:Str) (v:V),N'[i]? = some x->(nL fr σ)[i]? = some (some v)->∃ u,bF v u/\aFT (compEnvC scope (clo X.env.cells scope.names []) C X.env) h' m x u:=by
 intro i x v hx hv
 unfold nL at hv
 rw [List.getElem?_map] at hv
 cases hf:fr[i]? with
 | none=>rw [hf] at hv;cases hv
 | some o =>
  rw [hf] at hv
  cases o with
  | none=>cases hv
  | some j =>
   have hv:(σ[j]?).join = some v:=Option.some.inj hv
   obtain ⟨hN,hfree⟩:=S.at' i j x hx hf
   have hσ:σ[j]? = some (some v):=by
    cases e:σ[j]? with
    | none=>rw [e] at hv;cases hv
    | some o=>rw [e] at hv;rw [show o = some v from hv]
   have hmem:(x,NameKind.free) ∈ scope.names:=PySem.mem_of_lookup hfree
   have hcell:=S.free _ hmem rfl
   obtain ⟨mm,_,hl⟩:=I.loc
   obtain ⟨u,r,l⟩:=hl j x v hN hσ (.inr (.inl hcell))
   refine ⟨u,r,.inr ⟨.inl ?_,?_⟩⟩
   ·show (relabel scope X.env).names.lookup x = some .cell
    rw [jW,hfree]
    have h1:X.env.scope.kind = .function:=I.ok.kind
    have h2:X.env.kindOf x = some .cell:=hcell
    rw [h1,h2]
    rfl
   ·rcases l with ⟨k1,_⟩ | ⟨_,c,e,z⟩
    ·have:X.env.scope.names.lookup x = some .local:=k1
     rw [hcell] at this;cases this
    ·obtain ⟨c',e'⟩:=sL (cells:=X.env.cells) (x:=x) (names:=scope.names) (cs:=[]) (.inl hmem)
     have e2:=S.sub I.ok e'
     rw [e] at e2
     cases e2
     exact ⟨c,e',k x c _ e' z⟩
theorem aCA (S:eE X N' fr scope) (I:Inv X pins σ H s) (hf:∀ b ∈ fp,uQ X pins H b) (ho:∀ b ∈ fp,∃ o,s.heap.get? b = some o) {s1:Shared} {m:Str->Option Value} (hos:s1.os = s.os) (hg:s1.gens = s.gens) (hC:s.heap.objs.size<=C) (k:∀ b o,s.heap.get? b = some o->s1.heap.get? b = some o) (hn:s1.heap.Ns C m) :
  Inv (X.blk N' scope C s H fp pins) [] (nL fr σ) H s1:=by
 have lt:∀ b o,s.heap.get? b = some o->b ≠ C:=fun b o e=>Nat.ne_of_lt (Nat.lt_of_lt_of_le (Heap.lt_size e) hC)
 have stk:∀ b,b ≠ X.env.locals->b ∉ X.fs->b ∉ frs X.stack:=fun b h1 h2 hb=>(List.mem_cons.mp (I.stkSub b hb)).elim h1 h2
 have cellK:∀ x c v,(clo X.env.cells scope.names []).lookup x = some c->s.heap.IsCell c v->s1.heap.IsCell c v:=fun x c v _ ⟨o,e,d⟩=>⟨o,k c o e,d⟩
 refine ⟨⟨I.ok.mod,S.kind,I.ok.glob,I.ok.blt,hC,fun x y c h1 h2=>I.ok.inj x y c (S.sub I.ok h1) (S.sub I.ok h2),fun x hx=>?_,(fun x c z=>by cases z),I.ok.hd,I.ok.frames,.inl rfl,fun b hb=>?_,I.bs,Nat.le_trans I.ok.bsz I.sz,fun b o e hb=>?_,fun b hb=>?_,I.stack,I.stkFree⟩,
  hos,by rw [hg];exact I.bare,Un.kept k,⟨m,hn,fun i x v h1 h2 _=>wU S I cellK i x v h1 h2⟩,fun x c e=>?_,I.hok.fresh hC,fun x c e=>I.freeC x c (S.sub I.ok e),fun p hp=>?_,I.hok.kept k,?_⟩
 ·have hx:(relabel scope X.env).names.lookup x = some .cell ∨ (relabel scope X.env).names.lookup x = some .free:=hx
  rw [jW] at hx
  have hfree:(x,NameKind.free) ∈ scope.names:=by
   cases e:scope.names.lookup x with
   | none=>rw [e] at hx;rcases hx with z | z<;>cases z
   | some kk =>
    rw [e] at hx
    have hm:=PySem.mem_of_lookup e
    cases kk with
    | free=>exact hm
    | cell=>exact absurd rfl (S.nocell _ hm)
    | _=>rcases hx with z | z<;>cases z
  exact sL (.inl hfree)
 ·obtain ⟨o,e⟩:=ho b hb
  obtain ⟨_,_,_,_,f4,_⟩:=hf b hb
  exact ⟨lt b o e,fun x c z=>f4 x c (S.sub I.ok z)⟩
 ·obtain ⟨_,_,_,f3,_⟩:=hf b hb
  rcases f3 with z | z
  ·exact I.ok.noex b o e z
  ·exact absurd (Nat.lt_of_lt_of_le (Heap.lt_size e) (Nat.le_trans I.ok.bsz z)) (Nat.lt_irrefl _)
 ·obtain ⟨_,f1,f2,_⟩:=hf b hb
  exact stk b f1 f2
 ·obtain ⟨v,z⟩:=I.cell x c (S.sub I.ok e)
  exact ⟨v,cellK x c v e z⟩
 ·rw [List.append_nil] at hp
  obtain ⟨e,n,ne,nf,d⟩:=I.pin p hp
  exact ⟨k p.1 p.2 e,n,lt p.1 p.2 e,stk p.1 ne nf,d⟩
 ·unfold nL
  rw [List.length_map]
  exact S.len
theorem yR (S:eE X N' fr scope) {s1:Shared} {H1:Hp} {σ1:St} {pl:List (Addr × Obj)} (I:Inv X pins σ H s) (J:Inv (X.blk N' scope C s H fp pins) pl σ1 H1 s1):Inv (X.blk N' scope C s H fp pins) pl (nL fr σ) H1 s1:=by
 obtain ⟨m,hn,_⟩:=id J.loc
 refine ⟨J.ok,J.os,J.bare,J.base,⟨m,hn,fun i x v h1 h2 _=>wU S I (fun x c v e z=>?_) i x v h1 h2⟩,J.cell,J.free,J.freeC,J.pin,J.hok,?_⟩
 ·obtain ⟨o,eo,d⟩:=z
  have e':=S.sub I.ok e
  have hfree:=I.freeC x c e'
  have nex:c ∉ fp:=fun hb=>(J.ok.exf c hb).2 x c e rfl
  by_cases hfs:c ∈ frs X.stack
  ·obtain ⟨sl,q⟩:=J.base.slot c o eo hfree hfs nex
   exact ⟨_,q,d⟩
  ·exact ⟨o,J.base.keep c o eo hfree hfs nex,d⟩
 ·unfold nL
  rw [List.length_map]
  exact S.len
end
section
variable {prog:Program} {w:World} {A:Around} {R:Result->Shared->Prop} {s:Shared}
theorem jZ {elt target iter:Expr} {scope:Scope} {pos:Pos} {it acc:Value} {env:Env} (I:Nat->Shared->Prop)
  (turn:∀ n s,I n s->wpAny (model prog w) A (pyNext it) (fun r s₁=>match r with
   | none=>R (.ok .next) s₁
   | some v=>wpAny (model prog w) A (letOwnedTupleGo target it v) (fun _ s₁'=>wpAny (model prog w) A (assign target env v) (fun _ s₂=>wpAny (model prog w) A (eval elt env) (fun x s₃ =>
     wpAny (model prog w) A (call (.builtin "list.append") [acc,x]) (fun _ s₄=>∃ m,m < n/\I m s₄) (fun _ _=>False) s₃)
     (fun _ _=>False) s₂) (fun _ _=>False) s₁') (fun _ _=>False) s₁) (fun _ _=>False) s)
  (n:Nat) (h:I n s):codeAny (model prog w) A (.compLoop (.ListComp elt [⟨target,iter,[],0⟩] scope pos) 0 it acc env) R s:=by
 refine codeAny_loop rfl I (fun n s hI=>?_) n h
 show wpAny _ _ ((compTurn (.ListComp elt [⟨target,iter,[],0⟩] scope pos) 0 it acc env).onRaise (fun x=>do noteFrame x env;theTreesLotGoes x)) _ _ s
 refine wpAny_noted ?_
 rw [compTurn_list1]
 refine wpAny_bind (wpAny_standAt (wpAny_bind (wpAny_mono (turn n s hI) (fun r s₁ h₁=>?_) fun _ _ h'=>h'.elim)))
 cases r with
 | none=>exact wpAny_pure h₁
 | some v =>
  exact wpAny_bind (wpAny_mono h₁ (fun _ s₁' h₁'=>wpAny_bind (wpAny_mono h₁' (fun _ s₂ h₂=>wpAny_bind (wpAny_bind (wpAny_mono h₂ (fun x s₃ h₃=>wpAny_bind (wpAny_mono h₃
   (fun _ s₄ h₄=>wpAny_pure (wpAny_pure ⟨rfl,h₄⟩)) fun _ _ h'=>h'.elim)) fun _ _ h'=>h'.elim))) fun _ _ h'=>h'.elim)) fun _ _ h'=>h'.elim)
end
theorem Inv.track {X:Cx} {pins:List (Addr × Obj)} {σ:St} {H:Hp} {s:Shared} {d:Addr} {ys:List V} (I:Inv X pins σ H s) (hn:H d = none) (hs:X.s₀.heap.objs.size<=d) (hL:d ≠ X.env.locals) (hc:∀ x c,X.env.cells.lookup x = some c->c ≠ d) (hp:∀ p ∈ X.pn ++ pins,p.1 ≠ d) (new:dM X.prog X.w (upd H d (.lst ys)) s.heap d (.lst ys)):Inv X pins σ (upd H d (.lst ys)) s:=by
 have ne0:∀ b o,X.s₀.heap.get? b = some o->b ≠ d:=fun b o e=>Nat.ne_of_lt (Nat.lt_of_lt_of_le (Heap.lt_size e) hs)
 refine ⟨I.ok,I.os,I.bare,⟨I.base.keep,I.base.slot,fun b o e n hx=>?_,I.base.there,fun b xs e=>?_,fun b o u e=>?_,fun b ps e=>?_⟩,I.loc,I.cell,?_,fun x c e=>?_,fun p hpp=>?_,fun b u e=>?_,I.len⟩
 ·rw [bB (ne0 b o e)];exact I.base.free b o e n hx
 ·have:=I.base.tups b xs e
  rw [bB (bH this hn)];exact this
 ·have:=I.base.frzs b o u e
  rw [bB (bH this hn)];exact this
 ·obtain ⟨more,q⟩:=I.base.tbls b ps e
  exact ⟨more,by rw [bB (bH q hn)];exact q⟩
 ·rw [bB (Ne.symm hL)];exact I.free
 ·rw [bB (hc x c e)];exact I.freeC x c e
 ·obtain ⟨e,n,r⟩:=I.pin p hpp
  exact ⟨e,by rw [bB (hp p hpp)];exact n,r⟩
 ·by_cases hb:b = d
  ·subst hb;rw [cR] at e;cases e;exact new
  ·rw [bB hb] at e
   exact (I.hok b u e).stay (fun c v _ q=>q) (fun c q=>by rw [bB (bH q hn)];exact q) fun c xs q=>by rw [bB (bH q hn)];exact q
noncomputable def tLc (wi:TI) (fr:List (Option Nat)) (g:TG) (te:TE):TE:=fun σ H Q=>wi σ H fun J H1=>∃ W:Nat->Nat->List V->Hp->Prop,(∃ m,W 0 m [] H1)/\∀ i m ys H,W i m ys H ->
 (J.stop i H/\ys.length<=sizeLine/\∀ p,H p = none->Q (.ref p) (upd H p (.lst ys))) ∨
 (J.go i H/\ys.length<=sizeLine/\∀ x H',J.yld i H x H'->g x (nL fr σ) H' fun σ2 H2=>te σ2 H2 fun y H3=>∃ m',m' < m/\W (i + 1) m' (ys ++ [y]) H3)
structure CF (X:Cx) (pins:List (Addr × Obj)) (H:Hp) (C:Addr):Prop where
 none:H C = none
 loc:C ≠ X.env.locals
 sz:X.s₀.heap.objs.size<=C
 cel:∀ x c,X.env.cells.lookup x = some c->c ≠ C
 pin:∀ p ∈ X.pn ++ pins,p.1 ≠ C
theorem aB8 {X:Cx} {elt iter tg:Expr} {scope:Scope} {pos pos2:Pos} {N':List Str} {fr:List (Option Nat)} {wi:TI} {g:TG} {te:TE} (S:eE X N' fr scope) (hc:X.calm = true) (hi:PI X tg iter wi)
  (hg:∀ C s H fp pins,PG (X.blk N' scope C s H fp pins) tg g) (he:∀ C s H fp pins,PE (X.blk N' scope C s H fp pins) elt te) (hs:∀ x,foldedSetIterable iter X.env x = pure x)
  {pins:List (Addr × Obj)} {s:Shared} {σ:St} {H:Hp} {Q:VK} (I:Inv X pins σ H s) (h:tLc wi fr g te σ H Q) (use:Option (Value->Sem Unit)) (Post:Value->Shared->Prop)
  (fin:∀ D C H' s4 m,Inv X pins σ H' s4->s4.heap.Ns C m->CF X pins H' C->Q (.ref D) H'->compPost (model X.prog X.w) X.A X.xe use Post (.ref D) C (.ok .next) s4) :
  wpAny (model X.prog X.w) X.A (comprehension (.ListComp elt [⟨tg,iter,[],0⟩] scope pos) scope X.env pos2 (newList []) false (eval iter X.env) use) Post X.xe s:=by
 refine wpAny_comprehension_free (use:=use) rfl hs (uU (S.hasC I.ok)) S.kind S.names ?_
 show wpAny _ _ (eval iter X.env) _ _ s
 refine thn (hi pins s σ H _ I h) fun v s1 h1=>thn h1 fun itv s2 h2=>?_
 obtain ⟨it,fp,tn,J,H2,e,I2,T,st2,f2,W,⟨m0,w0⟩,turn⟩:=h2
 subst e
 refine wpAny_newObj_type (wpAny_newFunctionEnv S.nocell (by intro y hy;simp at hy) (fun h₁ hns₁ hsb₁=>?_) S.kind)
 dsimp only at hns₁ hsb₁ ⊢
 generalize hHp:s2.heap.push { cls:=.type "list",dict:=none,data:=.seq ([]:List Value).toArray } = HP at hns₁ hsb₁ ⊢
 have hC:HP.objs.size = s2.heap.objs.size + 1:=by rw [<- hHp,Heap.size_push]
 generalize hCe:HP.objs.size = C at hns₁ hsb₁ ⊢
 generalize hDe:s2.heap.objs.size = D at hC ⊢
 have hDC:D ≠ C:=by omega
 have hCle:s2.heap.objs.size<=C:=by omega
 have old:∀ b o,s2.heap.get? b = some o->h₁.get? b = some o:=fun b o e=>hsb₁.extBut b o (Nat.ne_of_lt (Nat.lt_of_lt_of_le (Heap.lt_size e) hCle)) (Heap.get?_push_of_some _ (hHp ▸ Heap.get?_push_of_some _ e))
 have hD1:h₁.PlainList D #[]:=⟨_,by
  refine hsb₁.extBut _ _ hDC (Heap.get?_push_of_some _ ?_)
  rw [<- hHp,<- hDe]
  exact Heap.get?_push_size _ rfl⟩
 have ltf:∀ b ∈ fp,b < D:=fun b hb=>by
  obtain ⟨o,e,_⟩:=T.obj _ _ st2 b hb
  exact Nat.lt_of_lt_of_eq (Heap.lt_size e) hDe
 have J0:=aCA (s1:={ s2 with heap:=h₁,toks:=s2.toks + ([]:List (Str × Value)).length }) S I2 f2 (fun b hb=>let ⟨o,e,_⟩:=T.obj _ _ st2 b hb;⟨o,e⟩) rfl rfl hCle old hns₁
 have ltC:∀ b,b < D->b ≠ C:=fun b hb=>Nat.ne_of_lt (Nat.lt_of_lt_of_le hb (by rw [<- hDe];exact hCle))
 have old2:∀ b o,s2.heap.get? b = some o->b < D:=fun b o e=>Nat.lt_of_lt_of_eq (Heap.lt_size e) hDe
 have neD:∀ b o,s2.heap.get? b = some o->b ≠ D:=fun b o e=>Nat.ne_of_lt (old2 b o e)
 have hDs:s2.heap.objs.size<=D:=Nat.le_of_eq hDe
 have hDfs:D ∉ frs X.stack:=fun hb=>by
  rcases List.mem_cons.mp (I2.stkSub D hb) with z | z
  ·have:=I2.lt
   rw [<- z] at this
   exact absurd (Nat.lt_of_lt_of_le this hDs) (Nat.lt_irrefl _)
  ·exact I2.nofs hDs z
 have cellD:∀ x c,X.env.cells.lookup x = some c->c ≠ D/\c ≠ C:=fun x c e=>by
  obtain ⟨v,o,ho,_⟩:=I2.cell x c e
  exact ⟨neD c o ho,ltC c (old2 c o ho)⟩
 have pinD:∀ p ∈ X.pn ++ pins,p.1 ≠ D/\p.1 ≠ C:=fun p hp=>by
  have e:=(I2.pin p hp).1
  exact ⟨neD _ _ e,ltC _ (old2 _ _ e)⟩
 have fpok:∀ (pl:List (Addr × Obj)) (H':Hp),(∀ b ∈ fp,H' b = none)->(∀ p ∈ pl,∀ b ∈ fp,p.1 ≠ b)->∀ b ∈ fp,uQ (X.blk N' scope C s2 H2 fp pins) pl H' b:=fun pl H' hn hpl b hb=>by
  refine ⟨hn b hb,ltC b (ltf b hb),J0.ok.exfs b hb,.inl hb,(J0.ok.exf b hb).2,fun p hp=>?_⟩
  rcases List.mem_append.mp hp with z | z
  ·exact (f2 b hb).2.2.2.2.2 p z
  ·exact hpl p z b hb
 have loop:codeAny (model X.prog X.w) X.A (.compLoop (.ListComp elt [⟨tg,iter,[],0⟩] scope pos) 0 (.ref it) (.ref D) (compEnvC scope (clo X.env.cells scope.names []) C X.env))
   (compPost (model X.prog X.w) X.A X.xe use Post (.ref D) C) { s2 with heap:=h₁,toks:=s2.toks + ([]:List (Str × Value)).length }:=by
  refine jZ (fun n s'=>∃ i H' ys its,Inv (X.blk N' scope C s2 H2 fp pins) [] (nL fr σ) H' s'/\tn i s'.heap/\(∀ b ∈ fp,H' b = none)/\s'.heap.PlainList D its/\H' D = none/\bM ys its.toList/\W i n ys H') ?_ m0
   ⟨0,H2,[],#[],J0,T.keep _ _ _ st2 fun b hb o e=>old b o e,fun b hb=>(f2 b hb).1,hD1,I2.hok.fresh hDs,.nil,w0⟩
  rintro n s3 ⟨i,H3,ys,its,I3,st3,fr3,⟨nn,pl3⟩,hD3,rv3,w3⟩
  have I3p:Inv (X.blk N' scope C s2 H2 fp pins) [(D,{ cls:=.type "list",data:=.seq its nn })] (nL fr σ) H3 s3:=I3.pins_of fun p hp=>by
   have e:=List.mem_singleton.mp hp
   subst e
   exact ⟨pl3,hD3,hDC,hDfs,fun v z=>by cases z⟩
  have pf:∀ p ∈ [((D,{ cls:=.type "list",data:=.seq its nn }):Addr × Obj)],∀ b ∈ fp,p.1 ≠ b:=fun p hp b hb=>by
   have e:=List.mem_singleton.mp hp
   subst e
   exact (Nat.ne_of_lt (ltf b hb)).symm
  rcases turn i n ys H3 w3 with ⟨stop,hz,q⟩ | ⟨go,hz,step⟩
  ·refine thn (T.done (X.blk N' scope C s2 H2 fp pins) rfl rfl rfl hc i _ s3 _ H3 (fun _ _=>False) I3p (fpok _ H3 fr3 pf) st3 stop) fun r s4 ⟨hr,I4⟩=>?_
   subst hr
   obtain ⟨mm,hn4,_⟩:=id I4.loc
   have pD:=(I4.pin _ (List.mem_append_right _ List.mem_cons_self)).1
   have IX:Inv X pins σ H3 s4:=I2.call' I4.os I4.base I4.hok I4.bare fun b hb=>⟨(f2 b hb).2.2.2.1,(f2 b hb).2.1,(f2 b hb).2.2.2.2.1,(f2 b hb).2.2.2.2.2⟩
   have CL:C ≠ X.env.locals:=(Nat.ne_of_lt (Nat.lt_of_lt_of_le I2.lt hCle)).symm
   have DL:D ≠ X.env.locals:=(Nat.ne_of_lt (Nat.lt_of_lt_of_le I2.lt hDs)).symm
   refine fin D C (upd H3 D (.lst ys)) s4 mm (IX.track hD3 (Nat.le_trans I2.sz hDs) DL (fun x c e=>(cellD x c e).1) (fun p hp=>(pinD p hp).1) ⟨hz,its.toList,nn,rv3,pD⟩) hn4 ⟨by rw [bB (Ne.symm hDC)];exact I4.free,CL,Nat.le_trans I2.sz hCle,fun x c e=>(cellD x c e).2,fun p hp=>(pinD p hp).2⟩ (q D hD3)
  ·refine thn (T.item (X.blk N' scope C s2 H2 fp pins) rfl rfl rfl hc i _ s3 _ H3 (fun _ _=>False) I3p (fpok _ H3 fr3 pf) st3 go) fun r s4 ⟨u,hr,h4⟩=>?_
   subst hr
   refine thn h4 fun _ s5 ⟨x,H5,I5,r5,y5,st5,fr5⟩=>?_
   have I5':=I5.pinned (fpok _ H5 fr5 pf) (T.obj _ _ st5)
   refine thn (hg C s2 H2 fp pins _ s5 _ H5 x u _ I5' r5 (step x H5 y5)) fun _ s6 ⟨σ6,H6,I6,q6⟩=>?_
   refine thn (he C s2 H2 fp pins _ s6 σ6 H6 _ I6 q6) fun yv s7 ⟨y,H7,I7,ry,m',hm,w7⟩=>?_
   obtain ⟨pD,nD,_⟩:=I7.pin _ (List.mem_append_right _ (List.mem_append_left _ List.mem_cons_self))
   have lz:its.size<=sizeLine:=by
    have e:ys.length = its.size:=by rw [rv3.length];simp
    rw [<- e];exact hz
   refine wpAny_list_append_plain (hsz:=lz) ⟨nn,pD⟩ fun h8 pl8 sb8=>?_
   have I7a:Inv (X.blk N' scope C s2 H2 fp pins) [] σ6 H7 s7:=I7.pins_of fun p hp=>nomatch hp
   have I8:Inv (X.blk N' scope C s2 H2 fp pins) [] σ6 H7 { s7 with heap:=h8,toks:=s7.toks }:=I7a.turned (it:=D) (fun b o hb e=>sb8.extBut b o hb e) nD hDC (.inr hDs) (fun x c e=>(cellD x c (S.sub I2.ok e)).1) fun p hp=>by
    rw [List.append_nil] at hp
    exact (pinD p hp).1
   refine ⟨m',hm,i + 1,H7,ys ++ [y],its.push yv,yR S I2 I8,?_,fun b hb=>?_,pl8,nD,?_,w7⟩
   ·refine T.keep _ _ _ st5 fun b hb o e=>sb8.extBut b o (Nat.ne_of_lt (ltf b hb)) (I7.pin (b,o) (List.mem_append_right _ (List.mem_append_right _ (jI hb e)))).1
   ·obtain ⟨o,e,d⟩:=T.obj _ _ st5 b hb
    exact (I7.pin (b,o) (List.mem_append_right _ (List.mem_append_right _ (jI hb e)))).2.1
   ·rw [Array.toList_push]
    exact rv3.append (.cons ry .nil)
 exact codeAny_compStart_list loop (T.self _ _ _ _ _ (T.keep _ _ _ st2 fun b hb o e=>old b o e) loop)
theorem aF5 {X:Cx} {elt iter tg:Expr} {scope:Scope} {pos:Pos} {N':List Str} {fr:List (Option Nat)} {wi:TI} {g:TG} {te:TE} (S:eE X N' fr scope) (hc:X.calm = true) (hi:PI X tg iter wi)
  (hg:∀ C s H fp pins,PG (X.blk N' scope C s H fp pins) tg g) (he:∀ C s H fp pins,PE (X.blk N' scope C s H fp pins) elt te) (hs:∀ x,foldedSetIterable iter X.env x = pure x:=by intro _;rfl) :
  PE X (.ListComp elt [⟨tg,iter,[],0⟩] scope pos) (tLc wi fr g te):=by
 intro pins s σ H Q I h
 rw [eval_ListComp]
 refine aB8 S hc hi hg he hs I h none (EP X pins σ Q) fun D C H' s4 m J hn F q=>⟨m,hn,fun h' sb=>?_⟩
 exact ⟨.ref D,H',J.turned (t':=s4.toks) (it:=C) (fun b o hb e=>sb.extBut b o hb e) F.none F.loc (.inr F.sz) F.cel F.pin,rfl,q⟩
end L2
namespace Dd
open PySem PySem.Spec PyProof.Rows L2
noncomputable def vH (fr:List (Option Nat)) (ρ:bV):bV:=fr.map fun o=>match o with
 | some j=>(ρ[j]?).join
 | none=>none
section
variable {K:PySem.W.Frag} {H:Hp} {ρ:bV} {σ:L2.St}
theorem aBF (re:eI K H ρ σ) (fr:List (Option Nat)):eI K H (vH fr ρ) (nL fr σ):=by
 refine ⟨by unfold vH nL;rw [List.length_map,List.length_map],fun i d e=>?_⟩
 unfold vH at e
 unfold nL
 rw [List.getElem?_map] at e ⊢
 cases hf:fr[i]? with
 | none=>rw [hf] at e;cases e
 | some o =>
  rw [hf] at e
  cases o with
  | none=>cases e
  | some j =>
   have e:(ρ[j]?).join = some d:=Option.some.inj e
   have e2:ρ[j]? = some (some d):=by
    cases h:ρ[j]? with
    | none=>rw [h] at e;cases e
    | some o=>rw [h] at e;rw [show o = some d from e]
   obtain ⟨v,hv,r⟩:=re.get j d e2
   refine ⟨v,?_,r⟩
   show some (σ[j]?).join = some (some v)
   rw [hv]
   rfl
end
noncomputable def zH (at':Option Addr) (ds:List D) (ρ0:bV) (g:DG) (te:DE) (M:DM) (Q:DQ):Prop:=ds.length<=1000/\∃ Pv:Nat->List D->DM->Prop,Pv 0 [] M /\
 (∀ i ys M,i<=ds.length->Pv i ys M->∀ a,at' = some a->M a = some ds) /\
 (∀ i d ys M,ds[i]? = some d->Pv i ys M->g d ρ0 M fun ρ2 M2=>te ρ2 M2 fun y M3=>Pv (i + 1) (ys ++ [y]) M3) /\
 ∀ ys M,ys.length = ds.length->Pv ds.length ys M->∀ p:Addr,M p = none->Q (.ref p) (cW M p ys)
noncomputable def aD3 (tl:DE) (fr:List (Option Nat)) (g:DG) (te:DE):DE:=fun ρ M Q=>tl ρ M fun d M1=>match d with
 | .tup ds=>zH none ds (vH fr ρ) g te M1 Q
 | _=>False
section
variable {X:Cx} {g:DG} {te:DE}
theorem aFF {K:PySem.W.Frag} {a':Option Addr} {ds:List D} {fr:List (Option Nat)} {σ:L2.St} {ρ:bV} {M:DM} {H0 H:Hp} {J:It} {Q:VK} {Q':DQ} (ex0:Ext H0 H) (re:eI K H ρ σ) (hm:bJ K M H) (h:zH a' ds (vH fr ρ) g te M Q') (kq:∀ v H',LQ K H0 Q' v H'->Q v H')
  (seq:∀ H',Ext H H'->(∀ M',bJ K M' H'->(∀ a,a' = some a->M' a = some ds)->∃ xs,bG K H' ds xs/\(∀ i,xs.length<=i->J.stop i H')/\(∀ i,i < xs.length->J.go i H')/\∀ i x H2,J.yld i H' x H2->H2 = H'/\xs[i]? = some x)) :
  ∃ W:Nat->Nat->List V->Hp->Prop,(∃ m,W 0 m [] H)/\∀ i m ys H,W i m ys H ->
   (J.stop i H/\ys.length<=sizeLine/\∀ p,H p = none->Q (.ref p) (upd H p (.lst ys))) ∨
   (J.go i H/\ys.length<=sizeLine/\∀ x H',J.yld i H x H'->yV K g x (nL fr σ) H' fun σ2 H2=>low K te σ2 H2 fun y H3=>∃ m',m' < m/\W (i + 1) m' (ys ++ [y]) H3):=by
 obtain ⟨hl,Pv,p0,hat,step,done⟩:=h
 refine ⟨fun i m ysV H'=>∃ ys M',bG K H' ys ysV/\bJ K M' H'/\Ext H H'/\m = ds.length - i/\i<=ds.length/\ys.length = i/\Pv i ys M',⟨ds.length,[],M,dB,hm,.refl H,rfl,Nat.zero_le _,rfl,p0⟩,?_⟩
 rintro i m ysV H1 ⟨ys,M1,ry,hm1,e1,rfl,hi,ly,w1⟩
 obtain ⟨xs,rs,hst,hgo,hy⟩:=seq H1 e1 M1 hm1 (hat i ys M1 hi w1)
 have hll:=rs.length
 have lz:ysV.length<=sizeLine:=by rw [<- ry.length];exact Nat.le_of_lt (dZ (by omega))
 by_cases hlt:i < ds.length
 ·refine .inr ⟨hgo i (by omega),lz,fun x H' y=>?_⟩
  obtain ⟨rfl,hx⟩:=hy i x H' y
  obtain ⟨d,hd,rd⟩:=rs.getV hx
  refine ⟨d,vH fr ρ,M1,_,rd,aBF (re.ext e1) fr,hm1,step i d ys M1 hd w1,fun σ2 H2 ⟨ρ2,M2,re2,hm2,e2,q2⟩=>?_⟩
  refine ⟨ρ2,M2,_,re2,hm2,q2,fun v H3 ⟨dy,M3,rdy,hm3,e3,q3⟩=>?_⟩
  exact ⟨ds.length - (i + 1),by omega,ys ++ [dy],M3,(ry.ext (e2.trans e3)).append (cG rdy dB),hm3,(e1.trans e2).trans e3,rfl,hlt,by rw [List.length_append,ly];rfl,q3⟩
 ·have e:i = ds.length:=by omega
  subst e
  exact .inl ⟨hst _ (by omega),lz,fun p hp=>kq _ _ ⟨.ref p,_,eB,hm1.lnew hp ry,(ex0.trans e1).trans (Ext.new hp _),done ys M1 ly w1 p (hm1.fresh hp)⟩⟩
variable {elt iter tg:Expr} {scope:Scope} {pos:Pos} {N':List Str} {fr:List (Option Nat)} {tl:DE} {ta:DA} {oN:List Str} {osc:Scope}
theorem aFr (B:yM oN osc N' fr scope) (hc:X.calm = true) (hi:PDE X iter tl) (hg:∀ C s H fp pins,PG (X.blk N' scope C s H fp pins) tg (yV X.K g)) (he:∀ C s H fp pins,PE (X.blk N' scope C s H fp pins) elt (low X.K te)) (hN:X.N = oN:=by rfl) (ho:X.env.scope = osc:=by rfl) (hs:∀ x,foldedSetIterable iter X.env x = pure x:=by intro _;rfl) :
  PDE X (.ListComp elt [⟨tg,iter,[],0⟩] scope pos) (aD3 tl fr g te) :=
 cF (aF5 (B.scope hN ho) hc (zQ hi) hg he hs) fun σ H Q ⟨ρ,M,Q',re,hm,q,k⟩=>⟨ρ,M,_,re,hm,q,fun v H1 ⟨d,M1,rd,hm1,ex,q1⟩=>by
  cases d with
  | tup ds =>
   obtain ⟨a,xs,rfl,sq,rs⟩:=bS rd
   exact ⟨a,rfl,⟨xs,sq⟩,aFF ex (re.ext ex) hm1 q1 k fun H' e' M' hm' _=>⟨xs,rs.ext e',fun i hi=>⟨xs,jK e' sq,hi⟩,fun i hi=>⟨xs,xs[i],jK e' sq,by simp [hi]⟩,fun i x H2 y=>⟨y.1,y.2 xs (jK e' sq)⟩⟩⟩
  | _=>exact q1.elim⟩
end
end Dd
namespace L2
open PySem PySem.Spec PyProof.Rows
variable {X:Cx}
theorem qG (hc:X.calm = true):gY X (.builtin "all") (fun xs H Q=>∃ (p:Addr) (bs:List Bool),xs = [.ref p]/\SqL X.K H p (bs.map V.bl)/\Q (.bl (bs.all id)) H):=by
 intro pins s σ H xs us Q I r h
 obtain ⟨p,bs,rfl,hq,q⟩:=h
 obtain ⟨u,rfl,rx⟩:=rZ r
 cases rx
 obtain ⟨its,r',pl,hz⟩:=I.list hq
 have hl:=pl.isList
 have hlt:p < s.heap.objs.size:=by obtain ⟨_,e,_⟩:=hl;exact Heap.lt_size e
 have hg:∀ (i:Nat) (v:Value),its.toArray[i]? = some v->∃ b,bs[i]? = some b/\v = Value.bool b:=fun i v e=>by
  obtain ⟨x,hx,rv⟩:∃ x,(bs.map V.bl)[i]? = some x/\bF x v:=by
   have:=r'.length
   have hi:i < its.length:=by
    have:=(Array.getElem?_eq_some_iff.mp e).1
    simpa using this
   have hi':i < (bs.map V.bl).length:=by omega
   obtain ⟨w,hw,rw'⟩:=r'.get (i:=i) (List.getElem?_eq_getElem hi')
   have:w = v:=by
    have e':its[i]? = some v:=by simpa using e
    rw [e'] at hw;exact (Option.some.inj hw).symm
   subst this
   exact ⟨_,List.getElem?_eq_getElem hi',rw'⟩
  rw [List.getElem?_map] at hx
  cases hb:bs[i]? with
  | none=>rw [hb] at hx;cases hx
  | some b=>rw [hb] at hx;cases hx;cases rv;exact ⟨b,rfl,rfl⟩
 refine call_all_walk (wpAny_pyIter_list hl ?_)
 refine ⟨s.heap.objs.size,[s.heap.objs.size,p],[s.heap.objs.size],its.toArray.size,_,_,fun i=>(bs[i]?).getD true,rfl,Walks.list (A:=X.A.in1) (I.ok.hd hc) _ p (Nat.ne_of_lt hlt) its.toArray,
  ⟨⟨_,Heap.get?_push_size _ rfl,rfl,rfl⟩,hl.push _⟩,fun i v s' Q' E' hP hQ=>?_,fun h' tk hk=>?_⟩
 ·obtain ⟨b,e,rfl⟩:=hg i v hP
  simp only [e,Option.getD_some] at hQ
  exact wpAny_truthy_bool hQ
 ·have e:((List.range its.toArray.size).all fun i=>(bs[i]?).getD true) = bs.all id:=by
   have l1:=r'.length
   rw [List.length_map] at l1
   rw [List.size_toArray,<- l1];exact LSm.range_all bs
  rw [e]
  exact ⟨.bl (bs.all id),H,I.kept (t':=tk) (LSm.kept_iter hk),rfl,q⟩
end L2
namespace Dd
open PySem PySem.Spec PyProof.Rows L2
variable {X:Cx}
noncomputable def aGz:DSp:=fun ds M Q=>match ds with
 | [.ref a]=>∃ bs:List Bool,M a = some (bs.map D.bl)/\Q (.bl (bs.all id)) M
 | _=>False
theorem uM {K:PySem.W.Frag} {H:Hp}:∀ {bs:List Bool} {vs:List V},bG K H (bs.map D.bl) vs->vs = bs.map V.bl
 | [],_,h=>aX h
 | b :: bs,_,h=>by
  obtain ⟨v,r,rfl,hv,hr⟩:=aO h
  rw [bN hv,uM hr]
  rfl
theorem aAp (hc:X.calm = true):eQ X (.builtin "all") aGz:=eQ.of (qG hc) fun vs H M ds Q rs hm q=>by
 rcases ds with _ | ⟨d,_ | ⟨d2,r⟩⟩
 ·exact q.elim
 ·cases d with
  | ref a =>
   obtain ⟨v,rfl,rv⟩:=gG rs
   obtain rfl:=aW rv
   obtain ⟨bs,ha,q⟩:=q
   obtain ⟨us,hu,ru⟩:=hm.l a _ ha
   obtain rfl:=uM ru
   exact ⟨a,bs,rfl,.of hu,_,M,cL,hm,.refl H,q⟩
  | _=>exact q.elim
 ·cases d<;>exact q.elim
section
variable {g:DG} {te:DE} {tb:DS} {Q:DQ} {ρ0:bV}
noncomputable def itT (d:D) (ρ0:bV) (g:DG) (te:DE) (M:DM) (Q:DQ):Prop:=match d with
 | .tup ds=>zH none ds ρ0 g te M Q
 | _=>False
theorem aCn {tl:DE} {fr:List (Option Nat)} {ρ:bV} {M:DM}:aD3 tl fr g te ρ M Q = tl ρ M fun d M1=>itT d (vH fr ρ) g te M1 Q:=rfl
theorem aBW {ds:List D} {M:DM}:itT (.tup ds) ρ0 g te M Q = zH none ds ρ0 g te M Q:=rfl
noncomputable def foT (d:D) (g:DG) (tb:DS) (E:eY) (ρ:bV) (M:DM):Prop:=match d with
 | .tup ds=>dIt none ds g tb E ρ M
 | _=>False
theorem aAq {tl:DE} {E:eY} {ρ:bV} {M:DM}:aAS tl g tb E ρ M = tl ρ M fun d M1=>foT d g tb E ρ M1:=rfl
theorem aCS {ds:List D} {E:eY} {ρ:bV} {M:DM}:foT (.tup ds) g tb E ρ M = dIt none ds g tb E ρ M:=rfl
noncomputable def goF (g:DG) (tb:DS) (E:eY):List D->bV->DM->Prop
 | [],ρ,M=>E.nx ρ M
 | d :: r,ρ,M=>g d ρ M fun ρ2 M2=>tb { E with nx:=goF g tb E r,ct:=goF g tb E r,bk:=E.nx } ρ2 M2
theorem aGt {E:eY} {ds:List D} {ρ:bV} {M:DM} (h:goF g tb E ds ρ M):dIt none ds g tb E ρ M:=by
 refine ⟨fun i ρ M=>goF g tb E (ds.drop i) ρ M,h,fun _ _ _ _ _ a e=>(by cases e),fun i d ρ M hd hp=>?_,fun ρ M hp=>?_⟩
 ·obtain ⟨hi,e⟩:=List.getElem?_eq_some_iff.mp hd
  have hp:goF g tb E (ds.drop i) ρ M:=hp
  rw [List.drop_eq_getElem_cons hi,e] at hp
  exact hp
 ·have hp:goF g tb E (ds.drop ds.length) ρ M:=hp
  rw [List.drop_length] at hp
  exact hp
end
section
variable {e:Expr} {te:DE} {pos:Pos}
end
end Dd
namespace Dd
open PySem PySem.Spec PyProof.Rows L2
section
variable {X:Cx} {e:Expr} {te:DE} {pos p2:Pos} {lo hi:Option Expr} {tl th:DO}
noncomputable def aFH (g:Bool->Bool):D2:=fun x y M Q=>match x,y with
 | .int k,.ref a=>∃ ns:List Int,M a = some (ns.map D.int)/\Q (.bl (g (ns.any (· == k)))) M
 | .str k,.ref a=>∃ ns:List Str,M a = some (ns.map D.str)/\Q (.bl (g (ns.any (· == k)))) M
 | _,_=>False
theorem lO {K:PySem.W.Frag} {H:Hp}:∀ {ns:List Int} {vs:List V} {its:List Value},bG K H (ns.map D.int) vs->bM vs its->IntsAre its ns
 | [],_,_,h,r=>by rw [aX h] at r;cases r;exact .nil
 | n :: ns,_,_,h,r=>by
  obtain ⟨v,rr,rfl,hv,hr⟩:=aO h
  rw [aP hv] at r
  cases r with
  | cons q w =>
   obtain ⟨t,rfl⟩:=q
   exact .cons _ _ (lO hr w)
theorem lI {K:PySem.W.Frag} {H:Hp}:∀ {ns:List Str} {vs:List V} {its:List Value},bG K H (ns.map D.str) vs->bM vs its->StrsAre its ns
 | [],_,_,h,r=>by rw [aX h] at r;cases r;exact .nil
 | n :: ns,_,_,h,r=>by
  obtain ⟨v,rr,rfl,hv,hr⟩:=aO h
  rw [bI hv] at r
  cases r with
  | cons q w =>
   obtain ⟨t,rfl⟩:=q
   exact .cons _ _ (lI hr w)
theorem aBG:OpD X (compareOp .In) (aFH id):=fun pins s σ H x y v u Q I rx ry ⟨dx,dy,M,Q',r1,r2,hm,q,k⟩=>by
 cases dx with
 | int z =>
  cases dy with
  | ref a =>
   obtain ⟨ns,ha,q⟩:=q
   obtain rfl:=aP r1
   obtain rfl:=aW r2
   obtain ⟨t,rfl⟩:=rx
   cases ry
   obtain ⟨us,hu,ru⟩:=hm.l a _ ha
   obtain ⟨zz,its,nn,rv,hlen,e1⟩:=I.lstM hu
   exact in_list_ints ⟨_,e1,rfl,_,rfl⟩ (lO ru rv) ⟨.bl _,H,I,rfl,k _ H ⟨_,M,cL,hm,.refl H,q⟩⟩
  | _=>exact q.elim
 | str z =>
  cases dy with
  | ref a =>
   obtain ⟨ns,ha,q⟩:=q
   obtain rfl:=bI r1
   obtain rfl:=aW r2
   obtain ⟨t,rfl⟩:=rx
   cases ry
   obtain ⟨us,hu,ru⟩:=hm.l a _ ha
   obtain ⟨zz,its,nn,rv,hlen,e1⟩:=I.lstM hu
   exact in_list_strs ⟨_,e1,rfl,_,rfl⟩ (lI ru rv) ⟨.bl _,H,I,rfl,k _ H ⟨_,M,cL,hm,.refl H,q⟩⟩
  | _=>exact q.elim
 | _=>cases dy<;>exact q.elim
theorem aBH:OpD X (compareOp .NotIn) (aFH not):=fun pins s σ H x y v u Q I rx ry ⟨dx,dy,M,Q',r1,r2,hm,q,k⟩=>by
 cases dx with
 | int z =>
  cases dy with
  | ref a =>
   obtain ⟨ns,ha,q⟩:=q
   obtain rfl:=aP r1
   obtain rfl:=aW r2
   obtain ⟨t,rfl⟩:=rx
   cases ry
   obtain ⟨us,hu,ru⟩:=hm.l a _ ha
   obtain ⟨zz,its,nn,rv,hlen,e1⟩:=I.lstM hu
   exact notin_list_ints ⟨_,e1,rfl,_,rfl⟩ (lO ru rv) ⟨.bl _,H,I,rfl,k _ H ⟨_,M,cL,hm,.refl H,q⟩⟩
  | _=>exact q.elim
 | str z =>
  cases dy with
  | ref a =>
   obtain ⟨ns,ha,q⟩:=q
   obtain rfl:=bI r1
   obtain rfl:=aW r2
   obtain ⟨t,rfl⟩:=rx
   cases ry
   obtain ⟨us,hu,ru⟩:=hm.l a _ ha
   obtain ⟨zz,its,nn,rv,hlen,e1⟩:=I.lstM hu
   exact notin_list_strs ⟨_,e1,rfl,_,rfl⟩ (lI ru rv) ⟨.bl _,H,I,rfl,k _ H ⟨_,M,cL,hm,.refl H,q⟩⟩
  | _=>exact q.elim
 | _=>cases dy<;>exact q.elim
end
end Dd
namespace L2
open PySem PySem.Spec PyProof.Rows
open PySem.AutoSeq1 (wpAny_loadPart')
theorem pV (l:Addr) (lo hi k:Int) (a b c t:Tok):Meets (Builtin.«range.__contains__» ⟨[.ref l,.int k t],[]⟩)
  (fun _ R s=>s.heap.get? l = some { cls:=.type "range",data:=.fields #[.int lo a,.int hi b,.int 1 c] }/\R (.ok (.ret (.bool (decide (lo<=k/\k < hi))))) s):=by
 intro prog w A R s h
 obtain ⟨hp,g,d,tk,os⟩:=s;obtain ⟨hl,h⟩:=h
 wp_walk using wpAny_loadPart' hl
 have e:(Builtin.Range.rangePlace? lo hi 1 k).isSome = decide (lo<=k/\k < hi):=by
  unfold Builtin.Range.rangePlace?
  by_cases h1:lo<=k<;>by_cases h2:k < hi<;>simp [h1,h2]
 rw [e]
 exact h
section
variable {X:Cx} {a n:Expr} {ta:TE} {tn:TA} {pos:Pos}
noncomputable def aAY (g:Bool->Bool):R2:=fun x y H Q=>∃ k lo hi p,x = .int k/\y = .ref p/\H p = some (.rng lo hi)/\Q (.bl (g (decide (lo<=k/\k < hi)))) H
theorem yZ:OpR X (compareOp .In) (aAY id):=by
 intro pins s σ H x y v u Q I rx ry ⟨k,lo,hi,p,e1,e2,hp,q⟩
 subst e1 e2
 obtain ⟨t,rfl⟩:=rx
 cases ry
 obtain ⟨a,b,c,ho⟩:=(show dM X.prog X.w H s.heap p (.rng lo hi) from I.hok p _ hp)
 exact PySem.SeqRoads2.in_meets ⟨_,ho,rfl⟩ PySem.F.slot_range_contains PySem.F.entry_range_contains (PySem.F.args_range_contains_2 _ _) (pV p lo hi k a b c t) ⟨ho,_,rfl,⟨.bl _,H,I,rfl,q⟩⟩
end
end L2
namespace Dd
open PySem PySem.Spec PyProof.Rows L2
section
variable {X:Cx} {a n:Expr} {ta:DE} {tn:DA} {pos p pos':Pos}
end
end Dd
namespace Dd
open PySem PySem.Spec PyProof.Rows L2
section
variable {X:Cx} {a b c e o:Expr} {es:List Expr} {ta tb tc te to:DE} {pos:Pos}
noncomputable def sV (r r':D2) (ta tb tc:DE):DE:=fun ρ M Q=>ta ρ M fun x M1=>tb ρ M1 fun y M2=>r x y M2 fun z M3=>match z with
 | .bl k=>if k = true then tc ρ M3 fun w M4=>r' y w M4 Q else Q (.bl false) M3
 | _=>False
theorem yU {r r':D2} {σ:L2.St} {H:Hp} {Q:VK} (h:low X.K (sV r r' ta tb tc) σ H Q) :
  aAC (fun x y H Q=>∃ dx dy M Q',Rep X.K H dx x/\Rep X.K H dy y/\bJ X.K M H/\r dx dy M Q'/\∀ v H',LQ X.K H Q' v H'->Q v H') (fun x y H Q=>∃ dx dy M Q',Rep X.K H dx x/\Rep X.K H dy y/\bJ X.K M H/\r' dx dy M Q'/\∀ v H',LQ X.K H Q' v H'->Q v H') (low X.K ta) (low X.K tb) (low X.K tc) σ H Q:=by
 obtain ⟨ρ,M,Q',re,hm,q,k⟩:=h
 refine ⟨ρ,M,_,re,hm,q,fun x H1 ⟨dx,M1,rx,hm1,e1,q1⟩=>⟨ρ,M1,_,re.ext e1,hm1,q1,fun y H2 ⟨dy,M2,ry,hm2,e2,q2⟩=>⟨dx,dy,M2,_,rx.ext e2,ry,hm2,q2,fun z H3 ⟨dz,M3,rz,hm3,e3,q3⟩=>?_⟩⟩⟩
 cases dz with
 | bl k' =>
  refine ⟨k',bN rz,?_⟩
  cases k' with
  | false=>exact k _ H3 ⟨.bl false,M3,cL,hm3,(e1.trans e2).trans e3,q3⟩
  | true=>exact ⟨ρ,M3,_,((re.ext e1).ext e2).ext e3,hm3,q3,fun w H4 ⟨dw,M4,rw',hm4,e4,q4⟩=>⟨dy,dw,M4,Q',(ry.ext e3).ext e4,rw',hm4,q4,fun v H' zz=>k v H' (zz.back (((e1.trans e2).trans e3).trans e4))⟩⟩
 | _=>exact q3.elim
theorem aAG {op op':CmpOp} {r r':D2} (ho:OpD X (compareOp op) r) (ho':OpD X (compareOp op') r') (ha:PDE X a ta) (hb:PDE X b tb) (hc:PDE X c tc) (hm:lastMarks [op,op'] [b,c] = false:=by with_unfolding_all rfl):PDE X (.Compare a [op,op'] [b,c] pos) (sV r r' ta tb tc) :=
 cF (aAj ho ho' ha hb hc hm) fun σ H Q h=>yU h
noncomputable def wZ (g:Int->Int->Int):DSp:=fun ds M Q=>match ds with
 | [.int i,.int j]=>Q (.int (g i j)) M
 | _=>False
theorem xH {g:Int->Int->Int} {fv:Value} (h:gY X fv (fun xs H Q=>∃ i j,xs = [.int i,.int j]/\Q (.int (g i j)) H)):eQ X fv (wZ g):=eQ.of h fun vs H M ds Q rs hm q=>by
 rcases ds with _ | ⟨d,_ | ⟨d2,_ | ⟨d3,r⟩⟩⟩
 ·exact q.elim
 ·cases d<;>exact q.elim
 ·cases d with
  | int i =>
   cases d2 with
   | int j =>
    obtain ⟨v,v2,rfl,rv,rv2⟩:=aEt rs
    obtain rfl:=aP rv
    obtain rfl:=aP rv2
    exact ⟨i,j,rfl,_,M,bL,hm,.refl H,q⟩
   | _=>exact q.elim
  | _=>exact q.elim
 ·cases d<;>first | exact q.elim | (cases d2<;>exact q.elim)
noncomputable def aGi:DSp:=wZ fun i j=>if j < i then j else i
noncomputable def aG0:DSp:=wZ fun i j=>if j > i then j else i
theorem aEc (hc:X.calm = true):eQ X (.builtin "min") aGi:=xH (xZ hc)
theorem aFj (hc:X.calm = true):eQ X (.builtin "max") aG0:=xH (yW hc)
end
mutual
theorem aAf:∀ (n:Nat) (d:D),aZ n d = true->eqD d d = true
 | n,.non,_=>rfl
 | n,.bl b,_=>by simp [eqD]
 | n,.int i,_=>by simp [eqD]
 | n,.str x,_=>by simp [eqD]
 | n,.ref a,h=>by cases n<;>exact absurd h Bool.false_ne_true
 | n,.fz a,h=>by cases n<;>exact absurd h Bool.false_ne_true
 | 0,.tup xs,h=>absurd h Bool.false_ne_true
 | n + 1,.tup xs,h=>mZ n xs h
theorem mZ:∀ (n:Nat) (ds:List D),ds.all (aZ n) = true->iM ds ds = true
 | n,[],_=>rfl
 | n,d :: ds,h=>by
  rw [List.all_cons,Bool.and_eq_true] at h
  show (eqD d d && iM ds ds) = true
  rw [aAf n d h.1,mZ n ds h.2]
  rfl
end
theorem qP {g:Bool->Bool} {a b:Addr} {xs ys:List D} {M:DM} {Q:DQ} (h1:M a = some xs) (h2:M b = some ys) (n:a ≠ b) (e:xs = ys) (p:xs.all (aZ 59) = true) (q:Q (.bl (g true)) M):dEq g (.ref a) (.ref b) M Q:=by
 subst e
 exact ⟨xs,xs,h1,h2,n,p,p,by rw [mZ 59 xs p];exact q⟩
theorem aGs (n:Nat):HT.sIx (n + 1) 0 (some 1) = 1/\HT.sIx (n + 1) (n + 1) none = n + 1:=by
 constructor
 ·unfold HT.sIx
  simp
 ·rfl
theorem pQ {x:D} {xs:List D}:cutD (x :: xs) (some 1) none = xs:=by
 unfold cutD
 rw [List.length_cons,(aGs _).1,(aGs _).2]
 simp
theorem ifF {b:Bool} {A B:Prop} (h:b = false) (q:B):if b = true then A else B:=by subst h;exact q
theorem ifT {b:Bool} {A B:Prop} (h:b = true) (q:A):if b = true then A else B:=by subst h;exact q
end Dd
set_option maxHeartbeats 400000
namespace L2
open PySem PySem.Spec PyProof.Rows
end L2
namespace Dd
open PySem PySem.Spec PyProof.Rows L2
section
variable {X:Cx} {e k:Expr} {te tk:DE} {pos p2:Pos}
end
end Dd
namespace Zp
open PySem PySem.Spec PyProof.Rows
section
variable {prog:Program} {w:World} {A:Around} {E:Value->Shared->Prop} {s:Shared}
end
end Zp
namespace L2
open PySem PySem.Spec PyProof.Rows
end L2
namespace Dd
open PySem PySem.Spec PyProof.Rows L2
section
variable {X:Cx} {pos:Pos} {iter tg:Expr} {body:List Stmt} {tl:DE} {g:DG} {tb:DS} {ta:DA}
end
end Dd
set_option maxHeartbeats 1000000
namespace Dd
open PySem PySem.Spec PyProof.Rows L2
theorem dM.there {P:Program} {w:World} {H:Hp} {h:Heap} {a:Addr} {o:HO} (x:dM P w H h a o):∃ u,h.get? a = some u:=by
 cases o with
 | lst xs=>obtain ⟨_,_,_,_,e⟩:=x;exact ⟨_,e⟩
 | tup xs=>obtain ⟨_,_,_,ob,e,_⟩:=x;exact ⟨_,e⟩
 | dK kvs=>obtain ⟨_,_,_,_,o,_,_,e,_⟩:=x;exact ⟨_,e⟩
 | dT kvs=>obtain ⟨_,_,_,_,o,_,_,e,_⟩:=x;exact ⟨_,e⟩
 | set S n=>obtain ⟨o,_,_,_,e,_⟩:=x;exact ⟨_,e⟩
 | ins C dx fs=>obtain ⟨_,_,_,e,_⟩:=x;exact ⟨_,e⟩
 | own y=>obtain ⟨_,e⟩:=x;exact ⟨_,e⟩
 | xd fs=>obtain ⟨_,⟨_,_,_,e,_⟩,_⟩:=x;exact ⟨_,e⟩
 | rng lo hi=>obtain ⟨_,_,_,e⟩:=x;exact ⟨_,e⟩
 | frz ob u=>obtain ⟨e,_⟩:=x;exact ⟨_,e⟩
 | tbl ps=>exact ⟨_,(show h.get? a = some _ from x)⟩
 | met f y=>exact ⟨_,(show h.get? a = some _ from x)⟩
 | ext φ=>obtain ⟨_,⟨_,e⟩,_⟩:=x;exact ⟨_,e⟩
noncomputable def FpN (X:Cx) (pins:List (Addr × Obj)) (H:Hp) (b:Addr):Prop :=
 H b = none/\b ≠ X.env.locals/\X.s₀.heap.get? b = none/\(∀ x c,X.env.cells.lookup x = some c->c ≠ b)/\∀ p ∈ X.pn ++ pins,p.1 ≠ b
section
variable {X:Cx} {pins:List (Addr × Obj)} {σ:L2.St} {H H':Hp} {s:Shared} {h':Heap}
theorem _root_.L2.Inv.fpN (I:Inv X pins σ H s) (hex:X.ex = []) {b:Addr} (h:s.heap.get? b = none) (hn:H' b = none):FpN X pins H' b:=by
 refine ⟨hn,fun z=>?_,?_,fun x c e z=>?_,fun p hp z=>?_⟩
 ·obtain ⟨m,⟨o,_,_,ho,_⟩,_⟩:=I.loc
  rw [<- z,h] at ho;cases ho
 ·cases q:X.s₀.heap.get? b with
  | none=>rfl
  | some o =>
   obtain ⟨o',e⟩:=I.base.there b o q (by rw [hex];simp)
   rw [h] at e;cases e
 ·obtain ⟨v,o,ho,_⟩:=I.cell x c e
  rw [z,h] at ho;cases ho
 ·obtain ⟨e,_⟩:=I.pin p hp
  rw [z,h] at e;cases e
theorem _root_.L2.Inv.untr (I:Inv X pins σ H s) {b:Addr} (h:s.heap.get? b = none):H b = none:=by
 cases q:H b with
 | none=>rfl
 | some o=>obtain ⟨u,e⟩:=dM.there (I.hok b o q);rw [h] at e;cases e
theorem _root_.L2.Inv.mark {ch:List Addr} (I:Inv X pins σ H s) (hch:∀ b ∈ ch,FpN X pins H b) (keep:∀ b o,b ∉ frs X.stack->b ∉ ch->s.heap.get? b = some o->h'.get? b = some o)
  (slot:∀ b o,b ∉ ch->s.heap.get? b = some o->∃ sl,h'.get? b = some { o with slots:=sl }):Inv X pins σ H { s with heap:=h' }:=by
 have neL:∀ b o,X.s₀.heap.get? b = some o->b ≠ X.env.locals:=fun b o e=>Nat.ne_of_lt (Nat.lt_of_lt_of_le (Heap.lt_size e) I.ok.above)
 have neC:∀ b o,X.s₀.heap.get? b = some o->b ∉ ch:=fun b o e hb=>by rw [(hch b hb).2.2.1] at e;cases e
 have stk:∀ b,b ≠ X.env.locals->b ∉ X.fs->b ∉ frs X.stack:=fun b h1 h2 hb=>(List.mem_cons.mp (I.stkSub b hb)).elim h1 h2
 have cellK:∀ x c,X.env.cells.lookup x = some c->∀ v,s.heap.IsCell c v->h'.IsCell c v:=fun x c e v ⟨o,ho,hd⟩=>by
  obtain ⟨sl,q⟩:=slot c o (fun z=>(hch c z).2.2.2.1 x c e rfl) ho
  exact ⟨_,q,hd⟩
 refine ⟨I.ok,I.os,I.bare,⟨fun b o e n hb hx=>?_,fun b o e n hb hx=>?_,I.base.free,fun b o e hx=>?_,I.base.tups,I.base.frzs,I.base.tbls⟩,?_,fun x c e=>?_,I.free,I.freeC,fun p hp=>?_,fun a o e=>?_,I.len⟩
 ·exact keep b o (stk b (neL b o e) hb) (neC b o e) (I.base.keep b o e n hb hx)
 ·obtain ⟨sl,e1⟩:=I.base.slot b o e n hb hx
  obtain ⟨sl',e2⟩:=slot b _ (neC b o e) e1
  exact ⟨sl',e2⟩
 ·obtain ⟨o',e1⟩:=I.base.there b o e hx
  obtain ⟨sl,e2⟩:=slot b o' (neC b o e) e1
  exact ⟨_,e2⟩
 ·obtain ⟨m,⟨o,es,ep,ho,r⟩,hl⟩:=I.loc
  obtain ⟨sl,e2⟩:=slot _ o (fun z=>(hch _ z).2.1 rfl) ho
  refine ⟨m,⟨_,es,ep,e2,r⟩,fun i x v e1 e2 e3=>?_⟩
  obtain ⟨u,r,l⟩:=hl i x v e1 e2 e3
  refine ⟨u,r,?_⟩
  rcases l with l | ⟨k,c,e,z⟩
  ·exact .inl l
  ·exact .inr ⟨k,c,e,cellK x c e _ z⟩
 ·obtain ⟨v,z⟩:=I.cell x c e
  exact ⟨v,cellK x c e v z⟩
 ·obtain ⟨e,n,ne,nf,d⟩:=I.pin p hp
  exact ⟨keep p.1 p.2 (stk _ ne nf) (fun z=>(hch _ z).2.2.2.2 p hp rfl) e,n,ne,nf,d⟩
 ·refine (I.hok a o e).stay (fun b u hb q=>keep b u (fun z=>?_) (fun z=>?_) q) (fun _ q=>q) fun _ _ q=>q
  ·have:=I.stkFree b z
   rcases hb with hb | hb
   ·rw [hb,e] at this;cases this
   ·rw [hb] at this;cases this
  ·have:=(hch b z).1
   rcases hb with hb | hb
   ·rw [hb,e] at this;cases this
   ·rw [hb] at this;cases this
end
theorem qQ (f:Array Value->Array Value) (o:Obj):(o.mapFields f).dict = o.dict:=by unfold Obj.mapFields;split<;>rfl
section
variable {X:Cx} {pins:List (Addr × Obj)} {σ:L2.St} {H:Hp} {s:Shared} {M:Model} {A:Around} {E:Value->Shared->Prop} {e T:Addr} {cls:Value}
theorem wS {ts:Array Value} {oT:Obj} {f:Array Value->Array Value} (I:Inv X pins σ H s) (fT:FpN X pins H T) (hT:s.heap.get? T = some oT) :
  Inv X pins σ H { s with heap:=s.heap.update T (Obj.mapFields f) }:=by
 refine I.mark (ch:=[T]) (fun b hb=>by rw [List.mem_singleton.mp hb];exact fT) (fun b o _ hc q=>?_) fun b o hc q=>⟨o.slots,?_⟩ <;>
 ·rw [Heap.get?_update_other _ _ (Ne.symm (fun z=>hc (by simp [z])))];exact q
end
end Dd
namespace Dd
open PySem PySem.Spec PyProof.Rows L2
theorem aCE {K:PySem.W.Frag} {h:Heap} {C:Addr} {bmB:List Value} {newId:String} (X:K.In h) (q:PySem.W.excIn K C bmB newId = true) :
  ∃ bm N nm qn bs hdct sn sub ab col dd k0 k1 k2 k3 k5,∃ mN:Str->Option Value,h.get? C = some (excClassObj nm qn C N bs bm hdct sn sub ab col dd k0 k1 k2 k3 k5 newId)/\h.Ns N mN/\mN "__init__" = none/\OwnTail h bmB bm:=by
 unfold PySem.W.excIn at q
 split at q
 ·rename_i dd cd sl ho
  split at q
  ·rename_i C' bm k0 k1 k2 k3 n k5 hm hs
   simp only [Bool.and_eq_true,beq_iff_eq,Bool.not_eq_true'] at q
   obtain ⟨⟨⟨⟨⟨rfl,rfl⟩,hdel⟩,ht⟩,hok⟩,hni⟩:=q
   cases cd
   dsimp only at hm hdel hok hni
   subst hm hdel
   cases sl
   simp only at hs
   subst hs
   exact ⟨_,_,_,_,_,_,_,_,_,_,_,_,_,_,_,_,_,X _ _ ho,.of_isNs (PySem.W.isNs_of_in X hok),PySem.W.nsMap_none_of_in X hok hni,PySem.W.tail_of_in X ht⟩
  ·cases q
 ·cases q
section
variable {X:Cx} {x:Str} {V:DM->Prop} {e:Expr} {es:List Expr} {t:DA} {np cpos pos:Pos}
end
noncomputable def bmV:List Value:=[.type "ValueError",.type "Exception",.type "BaseException",.type "object"]
noncomputable def aC3 (K:PySem.W.Frag) (mg:Str->Option Value) (x:Str) (C:Addr):Prop:=mg x = some (.ref C)/\PySem.W.excIn K C bmV "ValueError.__new__" = true
section
variable {P:Program} {w:World} {K:PySem.W.Frag} {mg:Str->Option Value} {base:Heap}
end
end Dd
namespace Dd
open PySem PySem.Spec PyProof.Rows L2
noncomputable abbrev Exc (X:Cx) (a:Addr) (o:Obj):Cx:={ X with A:=X.A.mark (some (.ref a)),calm:=false,pn:=(a,o) :: X.pn }
section
variable {X:Cx} {pins:List (Addr × Obj)} {σ:L2.St} {H:Hp} {s:Shared} {a:Addr} {o:Obj}
theorem aEa (I:X.Ok):(Exc X a o).Ok :=
 ⟨I.mod,I.kind,I.glob,I.blt,I.above,I.inj,I.has,I.cab,(fun z=>nomatch z),I.frames,I.stk,I.exf,I.bs,I.bsz,I.noex,I.exfs,I.funs,I.frf⟩
theorem aBb (I:Inv X pins σ H s) (h:s.heap.get? a = some o) (n:H a = none) (nl:a ≠ X.env.locals) (nf:a ∉ X.fs) (nc:∀ v,o.data ≠ .cell v):Inv (Exc X a o) pins σ H s :=
 ⟨aEa I.ok,I.os,I.bare,I.base,I.loc,I.cell,I.free,I.freeC,fun p hp=>by
  rcases List.mem_cons.mp hp with z | z
  ·subst z;exact ⟨h,n,nl,nf,nc⟩
  ·exact I.pin p z,I.hok,I.len⟩
theorem oZ (ok:X.Ok) (I:Inv (Exc X a o) pins σ H s):Inv X pins σ H s :=
 ⟨ok,I.os,I.bare,I.base,I.loc,I.cell,I.free,I.freeC,fun p hp=>I.pin p (List.mem_cons_of_mem _ hp),I.hok,I.len⟩
theorem kY {M:Model} {A:Around} {E:Value->Shared->Prop} {n:Str} {j:Nat} {pos:Pos} {Q:Unit->Shared->Prop} (I:Inv X pins σ H s) (hN:X.N.Nodup) (hj:X.N[j]? = some n) (hl:X.env.scope.names.lookup n = some .local)
  (h:∀ s',Inv X pins (σ.set j none) H s'->Q () s'):wpAny M A (do bindName X.env n .none;unbindBehindTheSuite X.env n pos) Q E s:=by
 obtain ⟨m,hn,hlo⟩:=id I.loc
 have hcls:(X.env.scope.kind == .class || (X.env.scope.kind == .module && X.env.locals != X.env.globals)) = false:=by rw [I.ok.kind];rfl
 have cne:=I.cne
 refine wpAny_nameGoes_keeps hl hn hcls fun h' v hn' hs=>h _ ?_
 obtain ⟨oL,_,_,hoL,_⟩:=id hn
 refine ⟨I.ok,I.os,I.bare,⟨fun b o e n hb hx=>?_,fun b o e n hb hx=>?_,I.base.free,fun b o e hx=>?_,I.base.tups,I.base.frzs,I.base.tbls⟩,⟨_,hn',fun i y v' e1 e2 e3=>?_⟩,fun y c e=>?_,I.free,I.freeC,fun p hp=>?_,fun b ob e=>?_,by simpa using I.len⟩
 ·exact (hs.2 b (Nat.ne_of_lt (Nat.lt_of_lt_of_le (Heap.lt_size e) I.ok.above))).trans (I.base.keep b o e n hb hx)
 ·obtain ⟨sl,e1⟩:=I.base.slot b o e n hb hx
  exact ⟨sl,(hs.2 b (Nat.ne_of_lt (Nat.lt_of_lt_of_le (Heap.lt_size e) I.ok.above))).trans e1⟩
 ·obtain ⟨o',e1⟩:=I.base.there b o e hx
  exact ⟨o',(hs.2 b (Nat.ne_of_lt (Nat.lt_of_lt_of_le (Heap.lt_size e) I.ok.above))).trans e1⟩
 ·have hij:i ≠ j:=fun z=>by
   subst z
   rw [List.getElem?_set] at e2
   rw [if_pos rfl] at e2
   split at e2<;>cases e2
  rw [List.getElem?_set_ne (Ne.symm hij)] at e2
  obtain ⟨u,r,q⟩:=hlo i y v' e1 e2 e3
  refine ⟨u,r,?_⟩
  rcases q with ⟨k,e⟩ | ⟨k,c,e,z⟩
  ·refine .inl ⟨k,?_⟩
   have:y ≠ n:=fun e=>hij (pJ hN e1 (e ▸ hj))
   simp [this,e]
  ·exact .inr ⟨k,c,e,z.sameBut hs (cne y c e)⟩
 ·obtain ⟨w',z⟩:=I.cell y c e
  exact ⟨w',z.sameBut hs (cne y c e)⟩
 ·obtain ⟨e,n,ne,nf,d⟩:=I.pin p hp
  exact ⟨(hs.2 p.1 ne).trans e,n,ne,nf,d⟩
 ·refine (I.hok b ob e).stay (fun c w' hc q=>(hs.2 c ?_).trans q) (fun _ q=>q) fun _ _ q=>q
  rintro rfl
  rcases hc with rfl | hc
  ·rw [I.free] at e;cases e
  ·rw [I.free] at hc;cases hc
end
theorem eI.setN {K:PySem.W.Frag} {H:Hp} {ρ:bV} {σ:L2.St} (h:eI K H ρ σ) (i:Nat):eI K H (ρ.set i none) (σ.set i none):=by
 refine ⟨by rw [List.length_set,List.length_set,h.len],fun j d' q=>?_⟩
 rw [List.getElem?_set] at q
 by_cases hij:i = j
 ·subst hij
  rw [if_pos rfl] at q
  split at q<;>cases q
 ·rw [if_neg hij] at q
  obtain ⟨u,a,b⟩:=h.get j d' q
  exact ⟨u,by rw [List.getElem?_set,if_neg hij];exact a,b⟩
noncomputable def eY.un (D:eY) (j:Nat):eY:={ nx:=fun ρ M=>D.nx (ρ.set j none) M,rt:=D.rt,bk:=fun ρ M=>D.bk (ρ.set j none) M,ct:=fun ρ M=>D.ct (ρ.set j none) M }
noncomputable def aBD (D:mQ) (j:Nat):mQ:={ nx:=fun ρ M=>D.nx (ρ.set j none) M,rt:=D.rt,bk:=fun ρ M=>D.bk (ρ.set j none) M,ct:=fun ρ M=>D.ct (ρ.set j none) M }
theorem hV.un {K:PySem.W.Frag} {H:Hp} {D:eY} {E:mQ} (k:hV K H D E) (j:Nat):hV K H (D.un j) (aBD E j) :=
 ⟨fun σ' H' ⟨ρ',M',re,hm,ex,q⟩=>k.nx _ H' ⟨_,M',re.setN j,hm,ex,q⟩,k.rt,fun σ' H' ⟨ρ',M',re,hm,ex,q⟩=>k.bk _ H' ⟨_,M',re.setN j,hm,ex,q⟩,fun σ' H' ⟨ρ',M',re,hm,ex,q⟩=>k.ct _ H' ⟨_,M',re.setN j,hm,ex,q⟩⟩
section
variable {X:Cx} {a:Expr} {e:Expr} {es:List Expr} {t:DA} {x f n cm:Str} {ps:List Str} {sp:DSp} {cond:List D->DM->Prop} {C Cm:Addr} {k1 k2 k i j:Nat} {ts:Addr->DS} {b0:Stmt} {suite:List Stmt} {px pf pc pa pcm ph pos:Pos}
end
section
open PySem.W PySem.Calls
theorem aBz {K:PySem.W.Frag} {x t c:Value} {H:Heap->Prop} (ty:∀ (M:Model) (h:Heap),H h->Looks M h (typeOf x) t) (e:kitOne K t c = some true):Answers (fun s=>K.In s.heap/\H s.heap) x c true:=by
 intro dep tk prog w A R s hs
 obtain ⟨h0,g,d,tt,os⟩:=s
 obtain ⟨⟨X,p⟩,hq⟩:=hs
 have LT:=ty (model prog w) h0 p
 unfold kitOne at e
 unfold Builtin.«isinstance.nested»
 refine wpAny_bind (LT.at ?_)
 by_cases q:(t == c) = true
 ·rw [if_pos q]
  first
   | ((repeat lk);exact hq tt)
   | exact wpAny_bind (wpAny_rule (hq tt))
   | exact wpAny_bind (wpAny_rule (wpAny_pure (hq tt)))
 ·rw [if_neg q] at e
  rw [if_neg q]
  obtain ⟨hty,his,hsub⟩:=kit_cls (M:=model prog w) X e
  have LI:Looks (model prog w) h0 (isInstance x c) true:=LT.andThen hsub
  refine wpAny_bind (hty.at ?_)
  rw [if_pos (by decide)]
  k_delta "plainIsInstance"
  refine wpAny_bind (wpAny_bind (his.at ?_))
  simp only [Bool.not_true,Bool.false_eq_true,if_false]
  refine wpAny_bind (LI.at ?_)
  first
   | exact wpAny_pure (wpAny_pure (hq tt))
   | (simp only [if_true];first | exact wpAny_pure (wpAny_pure (hq tt)) | exact wpAny_pure (hq tt) | exact wpAny_bind (wpAny_pure (wpAny_pure (hq tt))))
theorem aBE {K:PySem.W.Frag} {x t c:Value} {H:Heap->Prop} {prog:Program} {w:World} {A:Around} {E:Value->Shared->Prop} {s:Shared} {Q:Value->Shared->Prop} (ty:∀ (M:Model) (h:Heap),H h->Looks M h (typeOf x) t) (X:K.In s.heap) (p:H s.heap)
  (e:kitOne K t c = some true) (hx:x ≠ .builtin "__main__.__loader__#opaque") (h:∀ tk,Q (.bool true) { s with toks:=tk }):wpAny (model prog w) A (call (.builtin "isinstance") [x,c]) Q E s :=
 call_isinstance (S:=fun _ R s=>(K.In s.heap/\H s.heap)/\∀ tk,R (.ok (.ret (.bool true))) { s with toks:=tk })
  (fun prog w A R s hs=>isinstance_outer (aBz ty e 0 _ prog w A R s hs) hx) ⟨⟨X,p⟩,h⟩
end
theorem aAv {K:PySem.W.Frag} {t:Value}:PySem.W.kitOne K t t = some true:=by unfold PySem.W.kitOne;rw [if_pos (beq_self_eq_true t)]
noncomputable def aEe (j:Nat) (a:Addr):DE:=fun ρ M Q=>ρ[j]? = some (some (.ref a))/\Q (.bl true) M
section
variable {X:Cx} {n c:Str} {C Cc a:Addr} {o:Obj} {p p1 p2 pos:Pos} {j:Nat}
end
section
open PySem.W PySem.Calls
variable {prog:Program} {w:World} {A:Around} {E:Value->Shared->Prop} {s:Shared} {K:Frag} {x C D:Addr} {ox:Obj}
structure nE (K:Frag) (D:Addr):Prop where
 ga:findIn K (.ref D) "__getattribute__" = some (some (.builtin "BaseException.__getattribute__"))
 gn:findIn K (.ref D) "__getattr__" = some none
 cl:findIn K (.ref D) "__class__" = some (some (.builtin "object.__class__"))
 nn:specialIn K (.builtin "object.__class__") "__get__" = some (some (.builtin "getset_descriptor.__get__"))
 tk:takesIn K (.builtin "object.__class__") = some true
 mo:mroIn K D (.type "object") = some true
 mb:mroIn K D (.type "BaseException") = some true
theorem nE.cd (e:nE K D):∃ cd,clsIn K D = some cd:=by
 obtain ⟨cd,a,_⟩:=Option.bind_eq_some_iff.mp e.mo
 exact ⟨cd,a⟩
end
section
variable {X:Cx} {a C:Addr} {o:Obj}
noncomputable def aDg (K:PySem.W.Frag) (C a:Addr):DSp:=fun ds M Q=>∃ (cs:List Addr) (b:Bool),ds = [.ref a,.tup (cs.map D.ref)]/\PySem.W.kitAny K (.ref C) (cs.map Value.ref) = some b/\Q (.bl b) M
theorem sI {K:PySem.W.Frag} {H:Hp}:∀ {cs:List Addr} {xs:List V} {its:List Value},bG K H (cs.map D.ref) xs->bM xs its->its = cs.map Value.ref
 | [],xs,its,r,v=>by rw [aX r] at v;cases v;rfl
 | c :: cs,xs,its,r,v=>by
  obtain ⟨v0,r0,rfl,hv,hr⟩:=aO r
  obtain rfl:=aW hv
  cases v with
  | cons r1 t1=>rw [sI hr t1];rw [show _ = Value.ref c from r1];rfl
end
end Dd
namespace Dd
open PySem PySem.Spec PyProof.Rows L2
section
open PySem.SeqAt
open PySem.AutoSeq1 (wpAny_loadPart')
open PySem.MeetsSeq PySem.MeetsSeq2 PySem.MeetsSeq3
end
section
variable {X:Cx} {j:Nat}
theorem aA9 {K:PySem.W.Frag} {H:Hp} {a b:Int} {xs:List V} {its:List Value} (r:bG K H [.int a,.int b] xs) (v:bM xs its):∃ t u,its = [.int a t,.int b u]:=by
 obtain ⟨v1,r1,rfl,h1,r1'⟩:=aO r
 obtain rfl:=aP h1
 obtain ⟨v2,r2,rfl,h2,r2'⟩:=aO r1'
 obtain rfl:=aP h2
 obtain rfl:=aX r2'
 cases v with
 | cons q1 w1 =>
  cases w1 with
  | cons q2 w2 =>
   cases w2
   obtain ⟨t,rfl⟩:=q1
   obtain ⟨u,rfl⟩:=q2
   exact ⟨t,u,rfl⟩
end
end Dd
namespace Dd
open PySem PySem.Spec PyProof.Rows L2
noncomputable def aDF (t u:DS):DS:=fun D ρ M=>∃ R:bV->DM->Prop,t { D with nx:=R } ρ M/\∀ ρ' M',R ρ' M'->u D ρ' M'
section
variable {X:Cx} {st:Stmt} {cU:List Stmt} {t u:DS}
theorem aC6 (h1:PDS X st t) (h2:iS X cU u):iS X (st :: cU) (aDF t u) :=
 tT (uC h1 h2) fun E σ H ⟨ρ,M,D,re,hm,⟨R,q,k2⟩,k⟩ =>
  ⟨ρ,M,{ D with nx:=R },re,hm,q,⟨fun σ' H' ⟨ρ',M',re',hm',ex,r⟩=>⟨ρ',M',D,re',hm',k2 ρ' M' r,k.at ex⟩,k.rt,k.bk,k.ct⟩⟩
end
end Dd
namespace Dd
open PySem PySem.Spec PyProof.Rows L2
section
variable {X:Cx} {e:Expr} {es:List Expr} {t:DA} {x f cm:Str} {ps:List Str} {sp:DSp} {cond:List D->DM->Prop} {C Cm:Addr} {k1 k2 k i:Nat} {ts:DS} {b0:Stmt} {suite:List Stmt} {px pf pc pa pcm ph pos:Pos}
end
end Dd
namespace Dd
open PySem PySem.Spec PyProof.Rows L2
@[irreducible] noncomputable def ZE (X:Cx) (e:Expr) (t:DE):Prop:=PDE X e t
theorem ZE.o {X:Cx} {e:Expr} {t:DE} (h:ZE X e t):PDE X e t:=by unfold ZE at h;exact h
theorem ZE.i {X:Cx} {e:Expr} {t:DE} (h:PDE X e t):ZE X e t:=by unfold ZE;exact h
@[irreducible] noncomputable def ZT (X:Cx) (e:Expr) (t:DT):Prop:=PDT X e t
theorem ZT.o {X:Cx} {e:Expr} {t:DT} (h:ZT X e t):PDT X e t:=by unfold ZT at h;exact h
theorem ZT.i {X:Cx} {e:Expr} {t:DT} (h:PDT X e t):ZT X e t:=by unfold ZT;exact h
@[irreducible] noncomputable def ZW (X:Cx) (e:Expr) (t:DT):Prop:=PDW X e t
theorem ZW.o {X:Cx} {e:Expr} {t:DT} (h:ZW X e t):PDW X e t:=by unfold ZW at h;exact h
theorem ZW.i {X:Cx} {e:Expr} {t:DT} (h:PDW X e t):ZW X e t:=by unfold ZW;exact h
@[irreducible] noncomputable def ZA (X:Cx) (e:List Expr) (t:DA):Prop:=PDA X e t
theorem ZA.o {X:Cx} {e:List Expr} {t:DA} (h:ZA X e t):PDA X e t:=by unfold ZA at h;exact h
theorem ZA.i {X:Cx} {e:List Expr} {t:DA} (h:PDA X e t):ZA X e t:=by unfold ZA;exact h
@[irreducible] noncomputable def ZS (X:Cx) (e:Stmt) (t:DS):Prop:=PDS X e t
theorem ZS.o {X:Cx} {e:Stmt} {t:DS} (h:ZS X e t):PDS X e t:=by unfold ZS at h;exact h
theorem ZS.i {X:Cx} {e:Stmt} {t:DS} (h:PDS X e t):ZS X e t:=by unfold ZS;exact h
@[irreducible] noncomputable def ZSs (X:Cx) (e:List Stmt) (t:DS):Prop:=iS X e t
theorem ZSs.o {X:Cx} {e:List Stmt} {t:DS} (h:ZSs X e t):iS X e t:=by unfold ZSs at h;exact h
theorem ZSs.i {X:Cx} {e:List Stmt} {t:DS} (h:iS X e t):ZSs X e t:=by unfold ZSs;exact h
@[irreducible] noncomputable def ZG (X:Cx) (e:Expr) (t:DG):Prop:=PDG X e t
theorem ZG.o {X:Cx} {e:Expr} {t:DG} (h:ZG X e t):PDG X e t:=by unfold ZG at h;exact h
theorem ZG.i {X:Cx} {e:Expr} {t:DG} (h:PDG X e t):ZG X e t:=by unfold ZG;exact h
@[irreducible] noncomputable def ZGs (X:Cx) (e:List Expr) (t:DGs):Prop:=uW X e t
theorem ZGs.o {X:Cx} {e:List Expr} {t:DGs} (h:ZGs X e t):uW X e t:=by unfold ZGs at h;exact h
theorem ZGs.i {X:Cx} {e:List Expr} {t:DGs} (h:uW X e t):ZGs X e t:=by unfold ZGs;exact h
@[irreducible] noncomputable def ZO (X:Cx) (e:Option Expr) (t:DO):Prop:=PO X e (sW X.K t)
theorem ZO.o {X:Cx} {e:Option Expr} {t:DO} (h:ZO X e t):PO X e (sW X.K t):=by unfold ZO at h;exact h
theorem ZO.i {X:Cx} {e:Option Expr} {t:DO} (h:PO X e (sW X.K t)):ZO X e t:=by unfold ZO;exact h
section
variable {K:PySem.W.Frag} {H H':Hp}
end
section
variable {K:PySem.W.Frag} {H H':Hp} {M M':DM}
end
section
variable {K:PySem.W.Frag} {H H':Hp} {ρ:bV} {σ:L2.St}
end
section
variable {K:PySem.W.Frag} {H H1:Hp}
end
section
variable {X:Cx} {e:Expr} {st:Stmt} {sts:List Stmt}
end
section
variable {X:Cx} {a b c e:Expr} {es:List Expr} {ta tb tc te:DE} {tA tB:DT} {t:DA} {pos:Pos}
theorem aB (i:Nat) {x:Str} {pos:Pos} (hN:X.N[i]? = some x:=by rfl) (hv:Vis X.env.scope x:=by first | exact Or.inl rfl | exact Or.inr (Or.inl rfl) | exact Or.inr (Or.inr rfl)) (hd:(x == ("__debug__":Str)) = false:=by decide) (hcd:(x == ("__classdict__":Str)) = false:=by decide):ZE X (.Name x pos) (aCX i):=.i (aFK i hN hv hd hcd)
theorem aC {i j pos}:ZE X (.Constant (.int i) j pos) (dC (.int i)):=.i (aFa (i:=i) (j:=j) (pos:=pos))
theorem eD {i j pos}:ZE X (.Constant (.bool i) j pos) (dC (.bl i)):=.i (aGl (i:=i) (j:=j) (pos:=pos))
theorem wX {j pos}:ZE X (.Constant .none j pos) (dC .non):=.i (aEn (j:=j) (pos:=pos))
theorem aM {x j pos}:ZE X (.Constant (.str x) j pos) (dC (.str x)):=.i (aDr)
theorem aI {op:Operator} {r:D2} (ho:OpD X (binaryOp op) r) (ha:ZE X a ta) (hb:ZE X b tb):ZE X (.BinOp a op b pos) (dOp r ta tb):=.i (aGn (op:=op) ho ha.o hb.o)
theorem cK {op:CmpOp} {r:D2} (ho:OpD X (compareOp op) r) (ha:ZE X a ta) (hb:ZE X b tb) (hm:behindInMarks op b = false:=by exact tH _):ZE X (.Compare a [op] [b] pos) (dOp r ta tb):=.i (aEI (op:=op) ho ha.o hb.o hm)
theorem aS {op:CmpOp} {r:D2} (ho:OpD X (compareOp op) r) (ha:ZE X a ta) (hb:ZE X b tb) (hm:behindInMarks op b = false:=by exact tH _):ZT X (.Compare a [op] [b] pos) (rT (dOp r ta tb)):=.i (aD1 (op:=op) ho ha.o hb.o hm)
theorem cD (h:ZE X e te) (he:∀ whole,isTrue e X.env whole = (do let v <- whole;standAt e.pos;holding [v] (truthy v)):=by intro _;rfl):ZT X e (rT te):=.i (aEd h.o he)
variable {cU:List Expr}
theorem gI (ha:ZT X a tA):ZW X (.BoolOp .And [a] pos) tA:=.i (aBX ha.o)
theorem fK (ha:ZT X a tA):ZW X (.BoolOp .Or [a] pos) tA:=.i (aFt ha.o)
theorem iW (ha:ZT X a tA) (hb:ZW X (.BoolOp .And (b :: cU) pos) tB):ZW X (.BoolOp .And (a :: b :: cU) pos) (aDW tA tB):=.i (aEf ha.o hb.o)
theorem eZ (ha:ZT X a tA) (hb:ZW X (.BoolOp .Or (b :: cU) pos) tB):ZW X (.BoolOp .Or (a :: b :: cU) pos) (dOr tA tB):=.i (aGj ha.o hb.o)
theorem fM (h:ZW X e tA):ZT X e tA:=.i (aHr h.o)
theorem dR (ha:ZT X a tA):ZT X (.UnaryOp .Not a pos) (aFz tA):=.i (aEY ha.o)
theorem eA {op} (h:ZE X a ta):ZE X (.BoolOp op [a] pos) ta:=.i (aDA (op:=op) h.o)
theorem dS (ha:ZE X a ta) (hb:ZE X (.BoolOp .And (b :: cU) pos) tb):ZE X (.BoolOp .And (a :: b :: cU) pos) (aA8 ta tb):=.i (aDE ha.o hb.o)
theorem zM (ha:ZE X a ta) (hb:ZE X (.BoolOp .Or (b :: cU) pos) tb):ZE X (.BoolOp .Or (a :: b :: cU) pos) (aDC ta tb):=.i (aF7 ha.o hb.o)
theorem aCd (ha:ZE X a ta):ZE X (.UnaryOp .Not a pos) (aBw ta):=.i (aEC ha.o)
theorem rN (hc:ZT X c tA) (ha:ZE X a ta) (hb:ZE X b tb):ZE X (.IfExp c a b pos) (aFh tA ta tb):=.i (aA4 hc.o ha.o hb.o)
theorem aD :ZA X [] oP:=.i (pL)
theorem aA (ha:ZE X e te) (hr:ZA X es t) (hs:starEach (e :: es) X.env = (false,eval e X.env) :: starEach es X.env:=by rfl):ZA X (e :: es) (hG te t):=.i (kU ha.o hr.o hs)
theorem aK {x1} (h:ZA X es t):ZE X (.Tuple es x1 pos) (aEM t):=.i (aEh h.o)
theorem cB (h:ZA X es t):ZE X (.List es pos) (aDH t):=.i (aEy h.o)
end
section
variable {X:Cx} {st:Stmt} {cU:List Stmt} {t u:DS} {e:Expr} {te:DE} {pos:Pos}
theorem aR :ZSs X [] aBk:=.i (aB9)
theorem aF (h1:ZS X st t) (h2:ZSs X cU u):ZSs X (st :: cU) (aFs t u):=.i (aAn h1.o h2.o)
theorem aE (h1:ZS X st t):ZSs X [st] t:=.i (aCq h1.o)
theorem kH (he:ZE X e te) (hs:swapsWith e none pos.line X.env = pure false:=by rfl):ZS X (.Expr e pos) (aAA te):=.i (aCe he.o hs)
theorem aN (he:ZE X e te):ZS X (.Return (some e) pos) (aFm te):=.i (aDv he.o)
theorem bA {c:Expr} {a b:List Stmt} {tc:DT} (hc:ZT X c tc) (ha:ZSs X a t) (hb:ZSs X b u):ZS X (.If c a b pos) (aEX tc t u):=.i (aGN hc.o ha.o hb.o)
theorem nG :ZS X st vM:=.i (aBJ)
end
section
variable {X:Cx} {pos:Pos} {e tg:Expr} {es:List Expr} {te:DE}
theorem bR {i:Nat} {x:Str} (hN:X.N.Nodup) (hi:X.N[i]? = some x:=by rfl) (hx:Loc X.env.scope x:=by first | exact Or.inl rfl | exact Or.inr rfl) (hf:X.fn x = true ∨ X.env.scope.names.lookup x = some .local:=by first | exact .inl rfl | exact .inr rfl | assumption):ZG X (.Name x pos) (gN i):=.i (aBP (i:=i) hN hi hx hf)
theorem iN :ZGs X [] gNl:=.i (aBT)
theorem cI {t:DG} {u:DGs} (h1:ZG X e t) (h2:ZGs X es u) (hs:(assignEach (e :: es) X.env).map (·.2) = assign e X.env :: (assignEach es X.env).map (·.2):=by rfl):ZGs X (e :: es) (gCn t u):=.i (aBn h1.o h2.o hs)
theorem kR {g:DG} (he:ZE X e te) (hg:ZG X tg g) (hs:swapsWithSole [tg] e pos.line X.env = pure false:=by rfl) (hw:swappedStores [tg] e X.env = pure none:=by rfl) (h1:(assignEach [tg] X.env).map (·.2) = [assign tg X.env]:=by rfl):ZS X (.Assign [tg] e pos) (zD te g):=.i (aFp he.o hg.o hs hw h1)
theorem aY {i:Nat} {x:Str} {pos':Pos} (hN:X.N.Nodup) (he:ZE X e te) (hi:X.N[i]? = some x:=by rfl) (hx:Loc X.env.scope x:=by first | exact Or.inl rfl | exact Or.inr rfl) (hs:swapsWith e (some (.Name x pos')) pos.line X.env = pure false:=by rfl) (hf:X.fn x = true ∨ X.env.scope.names.lookup x = some .local:=by first | exact .inl rfl | exact .inr rfl | assumption):ZS X (.Assign [.Name x pos'] e pos) (zD te (gN i)):=.i (aEU (i:=i) hN he.o hi hx hs hf)
theorem pG {i j:Nat} {x y:Str} {a b:Expr} {ta:DA} {px py pt:Pos} {kt k2 pt2} (hc:X.calm = true) (hN:X.N.Nodup) (ha:ZA X [a,b] ta) (hi:X.N[i]? = some x:=by rfl) (hj:X.N[j]? = some y:=by rfl) (hij:i ≠ j:=by decide) (hx:X.env.scope.names.lookup x = some .local:=by rfl) (hy:X.env.scope.names.lookup y = some .local:=by rfl) (hw:swappedStores [.Tuple [.Name x px,.Name y py] kt pt] (.Tuple [a,b] k2 pt2) X.env = pure (some [x,y]):=by rfl) (hs:swapsWithSole [.Tuple [.Name x px,.Name y py] kt pt] (.Tuple [a,b] k2 pt2) pos.line X.env = pure false:=by rfl):ZS X (.Assign [.Tuple [.Name x px,.Name y py] kt pt] (.Tuple [a,b] k2 pt2) pos) (aEW i j ta):=.i (aEQ (i:=i) (j:=j) hc hN ha.o hi hj hij hx hy hw hs)
end
section
variable {X:Cx} {pos:Pos}
theorem rS {c:Expr} {body:List Stmt} {tc:DT} {tb:DS} (hp:PassesOwn (model X.prog X.w) X.A X.env X.xe) (hc:ZT X c tc) (hb:ZSs X body tb):ZS X (.While c body [] pos) (wN tc tb):=.i (aAu hp hc.o hb.o)
variable {iter tg:Expr} {body:List Stmt} {tl:DE} {g:DG} {tb:DS}
end
section
variable {X:Cx} {pos:Pos} {iter tg:Expr} {body:List Stmt} {tl:DE} {g:DG} {tb:DS} {ta:DA}
theorem mM (hp:PassesOwn (model X.prog X.w) X.A X.env X.xe) (hc:X.calm = true) (hi:ZE X iter tl) (hg:ZG X tg g) (hb:ZSs X body tb) (hs:∀ x,foldedSetIterable iter X.env x = pure x:=by intro _;rfl):ZS X (.For tg iter body [] pos) (aAS tl g tb):=.i (aBN hp hc hi.o hg.o hb.o hs)
theorem aAw (hp:PassesOwn (model X.prog X.w) X.A X.env X.xe) (hc:X.calm = true) (hi:ZE X iter tl) (hg:ZG X tg g) (hb:ZSs X body tb) (hs:∀ x,foldedSetIterable iter X.env x = pure x:=by intro _;rfl):ZS X (.For tg iter body [] pos) (aAs tl g tb):=.i (aCZ hp hc hi.o hg.o hb.o hs)
theorem aAx {a:Expr} {p pos':Pos} (hp:PassesOwn (model X.prog X.w) X.A X.env X.xe) (hc:X.calm = true) (hmg:X.mg "range" = none) (ha:ZA X [a] ta) (hg:ZG X tg g) (hb:ZSs X body tb) (hgl:Gl X "range":=by rfl) (hse:starEach [a] X.env = [(false,eval a X.env)]:=by rfl) (hs:∀ x,foldedSetIterable (.Call (.Name "range" p) [a] [] pos') X.env x = pure x:=by intro _;rfl):ZS X (.For tg (.Call (.Name "range" p) [a] [] pos') body [] pos) (aBs ta g tb):=.i (aC4 hp hc hmg ha.o hg.o hb.o hgl hse hs)
end
section
variable {X:Cx} {pins:List (Addr × Obj)} {σ:L2.St} {H:Hp} {s:Shared}
end
section
variable {X:Cx} {a b e o:Expr} {es:List Expr} {ta tb te to:DE} {t:DA} {pos:Pos}
theorem kS (ha:ZE X a ta):ZE X (.UnaryOp .USub a pos) (aFL ta):=.i (aER ha.o)
theorem aH (ha:ZE X a ta) (hb:ZE X b tb) (hs:tG b:=by exact fun _ _=>rfl):ZE X (.Subscript a b pos) (dOp jQ ta tb):=.i (aFU ha.o hb.o hs)
theorem dI :ZO X none aED:=.i (aDb)
theorem bX (h:ZE X e te):ZO X (some e) (dPt te):=.i (aB2 h.o)
variable {lo hi:Option Expr} {tl th:DO} {p2:Pos}
theorem kQ (he:ZE X e te) (hl:ZO X lo tl) (hu:ZO X hi th):ZE X (.Subscript e (.Slice lo hi none p2) pos) (dSl te tl th):=.i (aAL he.o hl.o hu.o)
variable {CX:CXT} {k:Nat} {f:Addr} {fd:FuncData} {ps:List Str} {sp:DSp} {E:XK} {x:Str} {p:Pos}
theorem bO {id:String} {r:DSp} (hc:eQ X (.builtin id) r) (hm:X.mg x = none) (ha:ZA X (e :: es) t) (hv:bootBuiltins x = some (.builtin id):=by rfl) (hg:Gl X x:=by rfl) (hn:x ≠ "__name__":=by decide) (hdb:(x == ("__debug__":Str)) = false:=by decide) (he:starEach (e :: es) X.env = (false,eval e X.env) :: starEach es X.env:=by rfl) (hpl:(backTo pos (starEach es X.env)).any (·.1) = false:=by rfl):ZE X (.Call (.Name x p) (e :: es) [] pos) (mP r t):=.i (aAl (id:=id) hc hm ha.o hv hg hn hdb he hpl)
theorem lR {T:String} {r:DSp} (hc:eQ X (.type T) r) (hm:X.mg x = none) (ha:ZA X (e :: es) t) (hv:bootBuiltins x = some (.type T):=by rfl) (hg:Gl X x:=by rfl) (hn:x ≠ "__name__":=by decide) (hdb:(x == ("__debug__":Str)) = false:=by decide) (he:starEach (e :: es) X.env = (false,eval e X.env) :: starEach es X.env:=by rfl) (hpl:(backTo pos (starEach es X.env)).any (·.1) = false:=by rfl):ZE X (.Call (.Name x p) (e :: es) [] pos) (mP r t):=.i (zK (T:=T) hc hm ha.o hv hg hn hdb he hpl)
end
section
variable {X:Cx} {a b e o:Expr} {es:List Expr} {ta tb te to:DE} {t:DA} {pos:Pos}
theorem pZ {apos cpos:Pos} (ho:ZE X o to) (he:ZE X e te) (hse:starEach [e] X.env = (false,eval e X.env) :: starEach [] X.env:=by rfl) (hbase:attributeBase o "append" X.env (eval o X.env) = eval o X.env:=by rfl) (hfew:((backTo cpos (starEach [e] X.env)).all (fun x=>!x.1) && (backToKw cpos (keywordEach [] X.env)).all (fun x=>x.1.isSome)
   && decide ([e].length + ([]:List Keyword).length + (if ([]:List Keyword).isEmpty then 0 else 1) < 30)) = true:=by rfl) (hline:(apos.endLine == cpos.line) = true:=by rfl) (hplain:(backTo cpos (starEach [] X.env)).any (·.1) = false:=by rfl):ZE X (.Call (.Attribute o "append" apos) [e] [] cpos) (tL to te):=.i (yT ho.o he.o hse hbase hfew hline hplain)
theorem dU {T:String} {x:Str} {p p2:Pos} (he:ZE X e te) (hm:X.mg "isinstance" = none) (hmx:X.mg x = none) (hv:bootBuiltins x = some (.type T):=by rfl) (hg:Gl X "isinstance":=by rfl) (hgx:Gl X x:=by rfl) (hn:x ≠ "__name__":=by decide) (hdb:(x == ("__debug__":Str)) = false:=by decide) (hse:starEach [e,.Name x p2] X.env = (false,eval e X.env) :: starEach [.Name x p2] X.env:=by rfl) (hse2:starEach [.Name x p2] X.env = (false,eval (.Name x p2) X.env) :: starEach [] X.env:=by rfl) (hpl:(backTo pos (starEach [.Name x p2] X.env)).any (·.1) = false:=by rfl):ZE X (.Call (.Name "isinstance" p) [e,.Name x p2] [] pos) (dIs X.K (.type T) te):=.i (xQ (T:=T) he.o hm hmx hv hg hgx hn hdb hse hse2 hpl)
end
section
variable {P:Program} {w:World} {K:PySem.W.Frag} {mg:Str->Option Value} {base:Heap}
end
section
variable {P:Program} {w:World} {K:PySem.W.Frag} {mg:Str->Option Value} {base:Heap}
end
section
variable {X:Cx} {a b c e:Expr} {es:List Expr} {ta tb te:DE} {t:DA} {pos p:Pos} {x:Str} {ps:List Str} {sp:DSp} {k j:Nat}
theorem aG (h:Has X.prog X.w X.K X.mg X.base k x ps sp) (hr:dN j X.A) (hkj:k<=j) (ha:ZA X (e :: es) t) (hg:Gl X x:=by rfl) (hdb:(x == ("__debug__":Str)) = false:=by decide) (he:starEach (e :: es) X.env = (false,eval e X.env) :: starEach es X.env:=by rfl) (hpl:(backTo pos (starEach es X.env)).any (·.1) = false:=by rfl):ZE X (.Call (.Name x p) (e :: es) [] pos) (mP sp t):=.i (aBm h hr hkj ha.o hg hdb he hpl)
theorem dA {d:D} (h:iB X.K X.mg x d) (hg:Gl X x:=by rfl) (hd:(x == ("__debug__":Str)) = false:=by decide):ZE X (.Name x pos) (dC d):=.i (aBa h hg hd)
theorem qW {i:Nat} {op:Operator} {g:Int->Int->Int} {pos':Pos} (ho:PIp X op (ipI g)) (hN:X.N.Nodup) (he:ZE X e te) (hi:X.N[i]? = some x:=by rfl) (hx:Loc X.env.scope x:=by first | exact Or.inl rfl | exact Or.inr rfl) (hf:X.fn x = true ∨ X.env.scope.names.lookup x = some .local:=by first | exact .inl rfl | exact .inr rfl | assumption):ZS X (.AugAssign (.Name x pos') op e pos) (aB7 i te g):=.i (aCQ (i:=i) (op:=op) ho hN he.o hi hx hf)
end
section
variable {prog:Program} {w:World} {A:Around} {E:Value->Shared->Prop} {s:Shared}
end
section
variable {X:Cx} {pos:Pos} {e a b:Expr} {es:List Expr} {te ta tb:DE}
theorem kT {k:Nat} {t:DGs} {n:Nat} (hc:X.calm = true) (h:ZGs X es t) (hn:(assignEach es X.env).length = n:=by rfl) (hst:(assignEach es X.env).findIdx? (·.1) = none:=by rfl):ZG X (.Tuple es k pos) (gU n t):=.i (aDZ (n:=n) hc h.o hn hst)
end
section
variable {M:DM} {Q:DQ} {g:Bool->Bool} {ds:List D} {i:Int} {a:Addr} {α:Type} {x0 x1 x2 x3 x4 x5:α} {l:List α}
end
section
variable {K:PySem.W.Frag} {H:Hp} {ρ:bV} {σ:L2.St}
end
section
variable {X:Cx} {g:DG} {te:DE}
variable {elt iter tg:Expr} {scope:Scope} {pos:Pos} {N':List Str} {fr:List (Option Nat)} {tl:DE} {ta:DA} {oN:List Str} {osc:Scope}
theorem xE (B:yM oN osc N' fr scope) (hc:X.calm = true) (hi:ZE X iter tl) (hg:∀ C s H fp pins,ZG (X.blk N' scope C s H fp pins) tg g) (he:∀ C s H fp pins,ZE (X.blk N' scope C s H fp pins) elt te) (hN:X.N = oN:=by rfl) (ho:X.env.scope = osc:=by rfl) (hs:∀ x,foldedSetIterable iter X.env x = pure x:=by intro _;rfl):ZE X (.ListComp elt [⟨tg,iter,[],0⟩] scope pos) (aD3 tl fr g te):=.i (aFr B hc hi.o (fun C s H fp pins=>(hg C s H fp pins).o) (fun C s H fp pins=>(he C s H fp pins).o) hN ho hs)
end
variable {X:Cx}
section
variable {g:DG} {te:DE} {tb:DS} {Q:DQ} {ρ0:bV}
end
section
variable {e:Expr} {te:DE} {pos:Pos}
end
section
variable {X:Cx} {e:Expr} {te:DE} {pos p2:Pos} {lo hi:Option Expr} {tl th:DO}
end
section
variable {X:Cx} {a n:Expr} {ta:DE} {tn:DA} {pos p pos':Pos}
end
section
variable {X:Cx} {a b c e o:Expr} {es:List Expr} {ta tb tc te to:DE} {pos:Pos}
theorem sC {op op':CmpOp} {r r':D2} (ho:OpD X (compareOp op) r) (ho':OpD X (compareOp op') r') (ha:ZE X a ta) (hb:ZE X b tb) (hc:ZE X c tc) (hm:lastMarks [op,op'] [b,c] = false:=by with_unfolding_all rfl):ZE X (.Compare a [op,op'] [b,c] pos) (sV r r' ta tb tc):=.i (aAG (op:=op) (op':=op') ho ho' ha.o hb.o hc.o hm)
end
section
variable {X:Cx} {e k:Expr} {te tk:DE} {pos p2:Pos}
end
section
variable {X:Cx} {pos:Pos} {iter tg:Expr} {body:List Stmt} {tl:DE} {g:DG} {tb:DS} {ta:DA}
end
section
variable {X:Cx} {x:Str} {V:DM->Prop} {e:Expr} {es:List Expr} {t:DA} {np cpos pos:Pos}
end
section
variable {P:Program} {w:World} {K:PySem.W.Frag} {mg:Str->Option Value} {base:Heap}
end
section
variable {X:Cx} {pins:List (Addr × Obj)} {σ:L2.St} {H:Hp} {s:Shared} {a:Addr} {o:Obj}
end
section
variable {X:Cx} {a:Expr} {e:Expr} {es:List Expr} {t:DA} {x f n cm:Str} {ps:List Str} {sp:DSp} {cond:List D->DM->Prop} {C Cm:Addr} {k1 k2 k i j:Nat} {ts:Addr->DS} {b0:Stmt} {suite:List Stmt} {px pf pc pa pcm ph pos:Pos}
end
section
end
section
variable {X:Cx} {n c:Str} {C Cc a:Addr} {o:Obj} {p p1 p2 pos:Pos} {j:Nat}
end
section
variable {prog:Program} {w:World} {A:Around} {E:Value->Shared->Prop} {s:Shared} {K:Frag} {x C D:Addr} {ox:Obj}
end
section
variable {X:Cx} {a C:Addr} {o:Obj}
end
section
end
section
variable {X:Cx} {j:Nat}
end
section
variable {X:Cx} {st:Stmt} {cU:List Stmt} {t u:DS}
theorem eX (h1:ZS X st t) (h2:ZSs X cU u):ZSs X (st :: cU) (aDF t u):=.i (aC6 h1.o h2.o)
end
section
variable {X:Cx} {e:Expr} {es:List Expr} {t:DA} {x f cm:Str} {ps:List Str} {sp:DSp} {cond:List D->DM->Prop} {C Cm:Addr} {k1 k2 k i:Nat} {ts:DS} {b0:Stmt} {suite:List Stmt} {px pf pc pa pcm ph pos:Pos}
end
section
variable {P:Program} {w:World} {K:PySem.W.Frag} {mg:Str->Option Value} {base:Heap}
theorem Fun.okZ {x qual:Str} {st:Stmt} {f:Addr} {fd:FuncData} {N ps:List Str} {k:Nat} {sp:DSp} (F:L2.Fun K x qual st f fd) (S:aT N ps (aJ st)) (len:∀ ds M Q,sp ds M Q->ds.length = ps.length)
  (hbody:∀ (cdv:Value) (A:Around) (outer:List Env) (s:Shared) (H:Hp) (ds:List D) (M:DM) (Q:DQ) (E:XK),dN k (A.deeper (envOfC qual (aJ st) s.heap.objs.size f cdv))->sp ds M Q ->
   ∃ t,ZSs (jR CX0 P w K mg base N qual (aJ st) f cdv A outer s H E).nox (dO st) t/\t { nx:=fun _ M'=>Dn Q .non M',rt:=Dn Q } (gH N ds) M):jD P w K mg base CX0 (k + 1) f fd ps (oF K sp) :=
 Fun.okD F S len fun cdv A outer s H ds M Q E hr h=>let ⟨t,h1,h2⟩:=hbody cdv A outer s H ds M Q E hr h;⟨t,h1.o,h2⟩
theorem Has.mkZ {x:Str} {st:Stmt} {N ps:List Str} {k:Nat} {sp:DSp} (h:cZ K mg x st ps) (S:aT N ps (aJ st)) (len:∀ ds M Q,sp ds M Q->ds.length = ps.length)
  (hbody:∀ (f:Addr) (cdv:Value) (A:Around) (outer:List Env) (s:Shared) (H:Hp) (ds:List D) (M:DM) (Q:DQ) (E:XK),dN k (A.deeper (envOfC x (aJ st) s.heap.objs.size f cdv))->sp ds M Q ->
   ∃ t,ZSs (jR CX0 P w K mg base N x (aJ st) f cdv A outer s H E).nox (dO st) t/\t { nx:=fun _ M'=>Dn Q .non M',rt:=Dn Q } (gH N ds) M):Has P w K mg base (k + 1) x ps sp :=
 Has.mk h S len fun f cdv A outer s H ds M Q E hr h=>let ⟨t,h1,h2⟩:=hbody f cdv A outer s H ds M Q E hr h;⟨t,h1.o,h2⟩
end
section
variable {P:Program} {w:World} {K:PySem.W.Frag} {mg:Str->Option Value} {base:Heap}
end
end Dd
namespace Mz
open PySem
noncomputable def Bd (n:Nat) (x:Int):Prop:=x.natAbs < 2 ^ n
theorem Bd.mono {m n:Nat} {x:Int} (h:Bd m x) (l:m<=n):Bd n x:=Nat.lt_of_lt_of_le h (Nat.pow_le_pow_right (by decide) l)
theorem Bd.neg {n:Nat} {x:Int} (h:Bd n x):Bd n (-x):=by unfold Bd at *;rw [Int.natAbs_neg];exact h
theorem Bd.add {m:Nat} {x y:Int} (h:Bd m x) (h2:Bd m y):Bd (m + 1) (x + y):=by
 unfold Bd at *
 have:=Int.natAbs_add_le x y
 rw [Nat.pow_succ]
 omega
theorem Bd.sub {m:Nat} {x y:Int} (h:Bd m x) (h2:Bd m y):Bd (m + 1) (x - y):=by
 rw [Int.sub_eq_add_neg];exact h.add h2.neg
theorem Bd.mul {m n:Nat} {x y:Int} (h:Bd m x) (h2:Bd n y):Bd (m + n) (x * y):=by
 unfold Bd at *
 rw [Int.natAbs_mul,Nat.pow_add]
 exact Nat.mul_lt_mul'' h h2
theorem Bd.of {n:Nat} {x:Int} (h1:-(2 ^ n:Nat) < x) (h2:x < (2 ^ n:Nat)):Bd n x:=by unfold Bd;omega
theorem Bd.log {n:Nat} {x:Int} (h:Bd n x) (h0:0 < n):x.natAbs.log2 < n:=by
 rcases Nat.eq_zero_or_pos x.natAbs with e | e
 ·rw [e];simpa using h0
 ·exact (Nat.log2_lt (Nat.ne_of_gt e)).mpr h
theorem Bd.bits {n:Nat} {x:Int} (h:Bd n x):Builtin.Int.intBits x<=n + 1:=by
 unfold Builtin.Int.intBits
 split
 ·exact Nat.zero_le _
 ·rcases Nat.eq_zero_or_pos n with e | e
  ·subst e
   have:x.natAbs < 1:=h
   have:x.natAbs = 0:=by omega
   rw [this];decide
  ·have:=h.log e
   omega
theorem dJ {m n:Nat} {x y:Int} (h:Bd m x) (h2:Bd n y) (l:m + n<=100000000:=by decide):IntMulOk x y:=IntMulOk.of_le h.bits h2.bits (by omega)
theorem aA1 {x y:Int} (h:Bd 63 x):IntMulOk x y:=IntMulOk.of_left (by have:=h.bits;omega)
theorem tF {x y:Int} (h:Bd 63 y):IntMulOk x y:=IntMulOk.of_right (by have:=h.bits;omega)
theorem xU {a b:Int} (h:b ≠ 0):(a.fmod b).natAbs < b.natAbs:=by
 rcases Int.lt_or_lt_of_ne h with hb | hb
 ·have e:=Int.fmod_eq_emod (a:=a) (b:=b)
  have h1:=Int.emod_nonneg a h
  have h2:=Int.emod_lt_of_neg a hb
  by_cases hd:b ∣ a
  ·rw [if_pos (.inr hd)] at e
   have:=Int.emod_eq_zero_of_dvd hd
   omega
  ·rw [if_neg (by omega)] at e
   have h3:a % b ≠ 0:=fun z=>hd (Int.dvd_of_emod_eq_zero z)
   omega
 ·have h1:=Int.fmod_nonneg_of_pos a hb
  have h2:=Int.fmod_lt_of_pos a hb
  omega
theorem vE (a b:Int):Int.gcd b (a.fmod b) = Int.gcd a b:=by
 rw [Int.fmod_def,Int.mul_comm b,Int.gcd_sub_mul_right_right,Int.gcd_comm]
noncomputable def sg (t b:Int):Int:=if b < 0 then -(Int.gcd t b:Int) else (Int.gcd t b:Int)
noncomputable def fT (t b:Int):Int:=t.fdiv (sg t b)
noncomputable def fB (t b:Int):Int:=b.fdiv (sg t b)
theorem sM {t b:Int} (h:b ≠ 0):0 < Int.gcd t b:=Nat.pos_of_ne_zero fun z=>h (Int.gcd_eq_zero_iff.mp z).2
theorem aGh {t b:Int} (h:b ≠ 0):sg t b ≠ 0:=by
 have:=sM (t:=t) h
 unfold sg;split<;>omega
theorem jX (t b:Int):sg t b ∣ t:=by
 have h:=Int.gcd_dvd_left t b
 unfold sg
 split
 ·exact Int.neg_dvd.mpr h
 ·exact h
theorem jY (t b:Int):sg t b ∣ b:=by
 have h:=Int.gcd_dvd_right t b
 unfold sg
 split
 ·exact Int.neg_dvd.mpr h
 ·exact h
theorem aDL {t b:Int} (h:b ≠ 0):fT t b * sg t b = t:=by
 unfold fT;rw [Int.fdiv_eq_ediv_of_dvd (jX t b)];exact Int.ediv_mul_cancel (jX t b)
theorem aAH {t b:Int} (h:b ≠ 0):fB t b * sg t b = b:=by
 unfold fB;rw [Int.fdiv_eq_ediv_of_dvd (jY t b)];exact Int.ediv_mul_cancel (jY t b)
theorem aEu {t b:Int} (h:b ≠ 0):0 < fB t b:=by
 have e:=aAH (t:=t) h
 have hg:=sM (t:=t) h
 rcases Int.lt_trichotomy (fB t b) 0 with z | z | z
 ·exfalso
  unfold sg at e
  split at e
  ·rename_i hb
   have:=Int.mul_pos_of_neg_of_neg z (show -(Int.gcd t b:Int) < 0 by omega)
   omega
  ·rename_i hb
   have:=Int.mul_neg_of_neg_of_pos z (show 0 < (Int.gcd t b:Int) by omega)
   omega
 ·rw [z] at e;omega
 ·exact z
theorem aFq {t b:Int} (h:b ≠ 0):fT t b * b = fB t b * t:=by
 have e1:=aDL (t:=t) h
 have e2:=aAH (t:=t) h
 have:fT t b * (fB t b * sg t b) = fB t b * (fT t b * sg t b):=by grind
 rw [e1,e2] at this
 exact this
theorem rJ (t b:Int):(sg t b).natAbs = Int.gcd t b:=by unfold sg;split<;>simp
theorem aHq {t b:Int} (h:b ≠ 0):Int.gcd (fT t b) (fB t b) = 1:=by
 unfold fT fB
 rw [Int.fdiv_eq_ediv_of_dvd (jX t b),Int.fdiv_eq_ediv_of_dvd (jY t b),Int.gcd_ediv (jX t b) (jY t b),rJ]
 exact Nat.div_self (sM h)
theorem Bd.fT {n:Nat} {t b:Int} (h:Bd n t):Bd n (fT t b):=by
 unfold Bd at *;unfold Mz.fT;rw [Int.fdiv_eq_ediv_of_dvd (jX t b)]
 exact Nat.lt_of_le_of_lt (Int.natAbs_ediv_le_natAbs _ _) h
theorem Bd.fB {n:Nat} {t b:Int} (h:Bd n b):Bd n (fB t b):=by
 unfold Bd at *;unfold Mz.fB;rw [Int.fdiv_eq_ediv_of_dvd (jY t b)]
 exact Nat.lt_of_le_of_lt (Int.natAbs_ediv_le_natAbs _ _) h
theorem Bd.sg {n:Nat} {t b:Int} (h:Bd n b) (h0:b ≠ 0):Bd n (sg t b):=by
 unfold Bd at *
 rw [rJ]
 have:=Nat.le_of_dvd (by omega) (Int.natAbs_dvd_natAbs.mpr (Int.gcd_dvd_right t b))
 simp at this
 omega
theorem qN {a b c:Int} (h:b ∣ a * c) (g:Int.gcd b a = 1):b ∣ c:=by
 have h':b.natAbs ∣ a.natAbs * c.natAbs:=by rw [<- Int.natAbs_mul];exact Int.natAbs_dvd_natAbs.mpr h
 exact Int.natAbs_dvd_natAbs.mp (Nat.Coprime.dvd_of_dvd_mul_left g h')
theorem rF {t b t' b':Int} (h:0 < b) (h':0 < b') (g:Int.gcd t b = 1) (g':Int.gcd t' b' = 1) (e:t * b' = t' * b):t = t'/\b = b':=by
 have d1:b ∣ b':=by
  have:b ∣ t * b':=⟨t',by rw [e];exact Int.mul_comm _ _⟩
  exact qN this (by rw [Int.gcd_comm];exact g)
 have d2:b' ∣ b:=by
  have:b' ∣ t' * b:=⟨t,by rw [<- e];exact Int.mul_comm _ _⟩
  exact qN this (by rw [Int.gcd_comm];exact g')
 have e1:b = b':=Int.le_antisymm (Int.le_of_dvd h' d1) (Int.le_of_dvd h d2)
 subst e1
 exact ⟨Int.eq_of_mul_eq_mul_right (by omega) e,rfl⟩
end Mz
namespace Mz
open PySem
theorem den_pos (q:Rat):(0:Int) < (q.den:Int):=by have:=q.den_pos;omega
theorem lX (q:Rat):(q.den:Int) ≠ 0:=by have:=q.den_pos;omega
theorem wL (q:Rat):((q.den:Int):Rat) ≠ 0:=by
 intro h
 have:(q.den:Int) = 0:=by exact_mod_cast h
 exact lX q this
theorem xS (q:Rat):(q.num:Rat) / ((q.den:Int):Rat) = q:=by
 have h:=Rat.num_divInt_den q
 rw [Rat.divInt_eq_div] at h
 exact h
theorem gQ (q:Rat):(q.num:Rat) = q * ((q.den:Int):Rat):=by
 have h:=xS q
 have h2:=wL q
 grind
theorem xF {t b:Int} (h:b ≠ 0):fT t b = ((t:Rat) / (b:Rat)).num/\fB t b = ((((t:Rat) / (b:Rat)).den:Nat):Int):=by
 have hb:(b:Rat) ≠ 0:=by exact_mod_cast h
 refine rF (aEu h) (den_pos _) (aHq h) ?_ ?_
 ·have:=((t:Rat) / (b:Rat)).reduced
  unfold Nat.Coprime at this
  rw [<- this]
  rfl
 ·have e1:=aFq (t:=t) h
  have e2:=gQ ((t:Rat) / (b:Rat))
  have e3:((fT t b:Int):Rat) * b = (fB t b:Int) * (t:Rat):=by rw [<- Rat.intCast_mul,<- Rat.intCast_mul,e1]
  have e4:((fT t b:Int):Rat) * ((((t:Rat) / (b:Rat)).den:Int):Rat) = ((((t:Rat) / (b:Rat)).num:Int):Rat) * (fB t b:Int):=by
   rw [e2]
   grind
  rw [<- Rat.intCast_mul,<- Rat.intCast_mul] at e4
  exact Rat.intCast_inj.mp e4
noncomputable def BQ (n:Nat) (q:Rat):Prop:=Bd n q.num/\Bd n (q.den:Int)
theorem BQ.mono {m n:Nat} {q:Rat} (h:BQ m q) (l:m<=n):BQ n q:=⟨h.1.mono l,h.2.mono l⟩
theorem BQ.make {n:Nat} {t b:Int} (h:b ≠ 0) (h1:Bd n t) (h2:Bd n b):BQ n ((t:Rat) / (b:Rat)):=by
 obtain ⟨e1,e2⟩:=xF (t:=t) h
 exact ⟨e1 ▸ h1.fT,e2 ▸ h2.fB⟩
theorem aGe (p q:Rat):(((p.num * q.den + q.num * p.den:Int)):Rat) / ((p.den * q.den:Int):Rat) = p + q:=by
 have h1:=wL p
 have h2:=wL q
 have e1:=gQ p
 have e2:=gQ q
 rw [Rat.intCast_add,Rat.intCast_mul,Rat.intCast_mul,Rat.intCast_mul,e1,e2]
 grind
theorem aHx (p q:Rat):(((p.num * q.den - q.num * p.den:Int)):Rat) / ((p.den * q.den:Int):Rat) = p - q:=by
 have h1:=wL p
 have h2:=wL q
 have e1:=gQ p
 have e2:=gQ q
 rw [Rat.intCast_sub,Rat.intCast_mul,Rat.intCast_mul,Rat.intCast_mul,e1,e2]
 grind
theorem aGp (p q:Rat):(((p.num * q.num:Int)):Rat) / ((p.den * q.den:Int):Rat) = p * q:=by
 have h1:=wL p
 have h2:=wL q
 have e1:=gQ p
 have e2:=gQ q
 rw [Rat.intCast_mul,Rat.intCast_mul,e1,e2]
 grind
theorem BQ.add {m n:Nat} {p q:Rat} (h:BQ m p) (h2:BQ n q):BQ (m + n + 1) (p + q):=by
 rw [<- aGe]
 exact .make (Int.mul_ne_zero (lX p) (lX q)) ((h.1.mul h2.2).add ((h2.1.mul h.2).mono (by omega))) ((h.2.mul h2.2).mono (by omega))
theorem BQ.sub {m n:Nat} {p q:Rat} (h:BQ m p) (h2:BQ n q):BQ (m + n + 1) (p - q):=by
 rw [<- aHx]
 exact .make (Int.mul_ne_zero (lX p) (lX q)) ((h.1.mul h2.2).sub ((h2.1.mul h.2).mono (by omega))) ((h.2.mul h2.2).mono (by omega))
theorem BQ.mul {m n:Nat} {p q:Rat} (h:BQ m p) (h2:BQ n q):BQ (m + n) (p * q):=by
 rw [<- aGp]
 exact .make (Int.mul_ne_zero (lX p) (lX q)) (h.1.mul h2.1) (h.2.mul h2.2)
theorem BQ.int {m:Nat} {z:Int} (h:Bd m z) (h0:0 < m):BQ m (z:Rat):=⟨by rw [Rat.num_intCast];exact h,by rw [Rat.den_intCast];unfold Bd;exact Nat.one_lt_two_pow (by omega)⟩
end Mz
namespace Mz
open PySem
end Mz
namespace Mz
open PySem
noncomputable def sgn (q:Rat):Int:=if 0 < q then 1 else if q < 0 then -1 else 0
noncomputable def uu (t:Rat):Rat:=(1 - t * t) / (1 + t * t)
noncomputable def vv (t:Rat):Rat:=(t + t) / (1 + t * t)
end Mz
namespace Mz
open PySem
noncomputable def rq (x y:Rat):Nat->Rat × Rat
 | 0=>(x,y)
 | n + 1=>(-(rq x y n).2,(rq x y n).1)
noncomputable def tb (t h u:Int):Int:=(t + h * u).fmod 4
end Mz
namespace Dd
open PySem PySem.Spec PyProof.Rows L2 Mz
noncomputable def FQ (q:Rat):D:=.tup [.int q.num,.int (q.den:Int)]
theorem aBL {t b:Int} (h:b ≠ 0):(D.tup [.int (fT t b),.int (fB t b)]) = FQ ((t:Rat) / (b:Rat)):=by
 obtain ⟨e1,e2⟩:=xF (t:=t) h
 rw [e1,e2]
 rfl
noncomputable def fY:DSp:=fun ds M Q=>∃ a b,ds = [.int a,.int b]/\Q (.int (Int.gcd a b:Int)) M
noncomputable def vQ (g:Rat->Rat->D) (C:Rat->Prop:=fun _=>True):DSp:=fun ds M Q=>∃ p q m n,ds = [FQ p,FQ q]/\C q/\BQ m p/\BQ n q/\m + n<=8998/\Q (g p q) M
noncomputable def aCa:DSp:=vQ fun p q=>FQ (p + q)
noncomputable def zU:DSp:=vQ fun p q=>FQ (p * q)
theorem xP {g:Rat->Rat->D} {C:Rat->Prop} (ds:List D) (M:DM) (Q:DQ) (h:vQ g C ds M Q):ds.length = 2:=by obtain ⟨a,b,m,n,rfl,_⟩:=h;rfl
noncomputable def PQ (x y:Rat):D:=.tup [FQ x,FQ y]
theorem sY (p q:Rat):eqD (FQ p) (FQ q) = decide (p = q):=by
 show (p.num == q.num && ((p.den:Int) == (q.den:Int) && true)) = decide (p = q)
 by_cases h:p = q
 ·subst h;simp
 ·rw [decide_eq_false h]
  by_cases h1:p.num = q.num
  ·have h2:¬ ((p.den:Int) = (q.den:Int)):=fun z=>h (Rat.ext h1 (by exact_mod_cast z))
   simp [h1,h2]
  ·simp [h1]
theorem wI (x y u v:Rat):eqD (PQ x y) (PQ u v) = (decide (x = u) && decide (y = v)):=by
 show (eqD (FQ x) (FQ u) && (eqD (FQ y) (FQ v) && true)) = _
 rw [sY,sY,Bool.and_true]
noncomputable def fC:DSp:=fun ds M Q=>∃ x y,ds = [PQ x y]/\BQ 900 x/\BQ 900 y/\∀ X Y d:Int,0 < d->(X:Rat) = x * (d:Rat)->(Y:Rat) = y * (d:Rat)->Bd 1800 X->Bd 1800 Y->Bd 1800 d->Q (.tup [.int X,.int Y,.int d]) M
noncomputable def tV:DSp:=fun ds M Q=>∃ z:Int,ds = [.int z]/\Q (.int (sgn (z:Rat))) M
theorem aAV {d:Int} (h:0 < d):(0:Rat) < (d:Rat):=by exact_mod_cast h
structure Adv (M M':DM) (a:Addr):Prop where
 l:∀ b:Addr,b ≠ a->M' (.l b) = M (.l b)
 d:∀ b:Addr,M' (.d b) = M (.d b)
instance {M M':DM} {a:Addr}:CoeFun (Adv M M' a) (fun _=>∀ b:Addr,b ≠ a->M' (.l b) = M (.l b)):=⟨Adv.l⟩
theorem Adv.trans {M M1 M2:DM} {a:Addr} (h:Adv M M1 a) (h2:Adv M1 M2 a):Adv M M2 a:=⟨fun b n=>(h2.l b n).trans (h.l b n),fun b=>(h2.d b).trans (h.d b)⟩
theorem aCf {xs:List D} {lo hi:Option Int} {d:D} (h:d ∈ cutD xs lo hi):d ∈ xs:=List.mem_of_mem_drop (List.mem_of_mem_take h)
noncomputable def aHz:D:=.tup [.int 1,.int 1]
theorem aEA {x y:Rat} {g:DG} {te:DE} {Q:DQ} {ρ0:bV} {M:DM}:itT (PQ x y) ρ0 g te M Q = zH none [FQ x,FQ y] ρ0 g te M Q:=rfl
theorem aEj {q:Rat} {g:DG} {te:DE} {Q:DQ} {ρ0:bV} {M:DM}:itT (FQ q) ρ0 g te M Q = zH none [.int q.num,.int (q.den:Int)] ρ0 g te M Q:=rfl
theorem aFB {x y:Rat} {g:DG} {tb:DS} {E:eY} {ρ:bV} {M:DM}:foT (PQ x y) g tb E ρ M = dIt none [FQ x,FQ y] g tb E ρ M:=rfl
theorem aGH {q:Rat} {M:DM} {Q:DQ}:jQ (FQ q) (.int 0) M Q = Q (.int q.num) M:=rfl
theorem aGq {q:Rat} {M:DM} {Q:DQ}:jQ (FQ q) (.int 1) M Q = Q (.int (q.den:Int)) M:=rfl
theorem aF0 {x y:Rat} {M:DM} {Q:DQ}:jQ (PQ x y) (.int 0) M Q = Q (FQ x) M:=rfl
theorem aG6 {x y:Rat} {M:DM} {Q:DQ}:jQ (PQ x y) (.int 1) M Q = Q (FQ y) M:=rfl
theorem aG7 {x y:Rat} {n:Nat} {t:DGs} {ρ:bV} {M:DM} {R:bV->DM->Prop}:gU n t (PQ x y) ρ M R = (([FQ x,FQ y]:List D).length = n/\t [FQ x,FQ y] ρ M R):=rfl
theorem aGI {q:Rat} {n:Nat} {t:DGs} {ρ:bV} {M:DM} {R:bV->DM->Prop}:gU n t (FQ q) ρ M R = (([.int q.num,.int (q.den:Int)]:List D).length = n/\t [.int q.num,.int (q.den:Int)] ρ M R):=rfl
theorem wH {g:Bool->Bool} {p q:Rat} {M:DM} {Q:DQ}:dEq g (FQ p) (FQ q) M Q = Q (.bl (g (decide (p = q)))) M:=by
 show (aZ 60 (FQ p) = true/\aZ 60 (FQ q) = true/\Q (.bl (g (eqD (FQ p) (FQ q)))) M) = _
 rw [sY]
 exact propext ⟨fun h=>h.2.2,fun h=>⟨rfl,rfl,h⟩⟩
theorem vT {g:Bool->Bool} {x y u v:Rat} {M:DM} {Q:DQ}:dEq g (PQ x y) (PQ u v) M Q = Q (.bl (g (decide (x = u/\y = v)))) M:=by
 show (aZ 60 (PQ x y) = true/\aZ 60 (PQ u v) = true/\Q (.bl (g (eqD (PQ x y) (PQ u v)))) M) = _
 have e:(decide (x = u) && decide (y = v)) = decide (x = u/\y = v):=by by_cases h1:x = u<;>by_cases h2:y = v<;>simp [h1,h2]
 rw [wI,e]
 exact propext ⟨fun h=>h.2.2,fun h=>⟨rfl,rfl,h⟩⟩
theorem jU {M:DM} {p b:Addr} {ds:List D} (h:cW M p ds b = none):b ≠ p/\M b = none:=by
 by_cases e:b = p
 ·subst e;rw [aL] at h;cases h
 ·rw [mF e] at h;exact ⟨e,h⟩
noncomputable def aEk:D:=.tup [.tup [.int 0,.int 1],.tup [.int 0,.int 1]]
noncomputable def FR (px py:Rat) (t h:Int) (s:Rat):D:=.tup [PQ px py,.int t,.int h,FQ s]
theorem aFZ {px py s:Rat} {i h:Int} {n:Nat} {t:DGs} {ρ:bV} {M:DM} {R:bV->DM->Prop}:gU n t (FR px py i h s) ρ M R = (([PQ px py,.int i,.int h,FQ s]:List D).length = n/\t [PQ px py,.int i,.int h,FQ s] ρ M R):=rfl
theorem aGx {px py s:Rat} {t h:Int} {M:DM} {Q:DQ}:jQ (FR px py t h s) (.int 0) M Q = Q (PQ px py) M:=rfl
theorem aG8 {px py s:Rat} {t h:Int} {M:DM} {Q:DQ}:jQ (FR px py t h s) (.int 1) M Q = Q (.int t) M:=rfl
theorem aGV {px py s:Rat} {t h:Int} {M:DM} {Q:DQ}:jQ (FR px py t h s) (.int 2) M Q = Q (.int h) M:=rfl
theorem aGW {px py s:Rat} {t h:Int} {M:DM} {Q:DQ}:jQ (FR px py t h s) (.int 3) M Q = Q (FQ s) M:=rfl
theorem aEZ (px py s px' py' s':Rat) (t h t' h':Int):eqD (FR px py t h s) (FR px' py' t' h' s') = decide (px = px'/\py = py'/\t = t'/\h = h'/\s = s'):=by
 show (eqD (PQ px py) (PQ px' py') && (t == t' && (h == h' && (eqD (FQ s) (FQ s') && true)))) = _
 rw [wI,sY]
 by_cases h1:px = px'<;>by_cases h2:py = py'<;>by_cases h3:t = t'<;>by_cases h4:h = h'<;>by_cases h5:s = s'<;>simp [h1,h2,h3,h4,h5]
theorem aDw {g:Bool->Bool} {px py s px' py' s':Rat} {t h t' h':Int} {M:DM} {Q:DQ}:dEq g (FR px py t h s) (FR px' py' t' h' s') M Q = Q (.bl (g (decide (px = px'/\py = py'/\t = t'/\h = h'/\s = s')))) M:=by
 show (aZ 60 (FR px py t h s) = true/\aZ 60 (FR px' py' t' h' s') = true/\Q (.bl (g (eqD (FR px py t h s) (FR px' py' t' h' s')))) M) = _
 rw [aEZ]
 exact propext ⟨fun z=>z.2.2,fun z=>⟨rfl,rfl,z⟩⟩
noncomputable def gX (n:Nat) (L:List D):Prop:=L.length = n/\∀ d ∈ L,∃ z:Int,d = .int z/\0<=z/\z < 1000000
theorem gX.at {n:Nat} {L:List D} (h:gX n L) {i:Nat} (hi:i < n):∃ z:Int,atI L (i:Int) = some (.int z)/\0<=z/\z < 1000000:=by
 have hl:i < L.length:=by rw [h.1];exact hi
 obtain ⟨z,e,z0,z1⟩:=h.2 L[i] (List.getElem_mem hl)
 exact ⟨z,aCG (by rw [List.getElem?_eq_getElem hl,e]),z0,z1⟩
theorem aCo {x y:Rat} {M:DM} {Q:DQ}:mT [PQ x y] M Q = Q (.int 2) M:=rfl
theorem aCz {q:Rat} {M:DM} {Q:DQ}:mT [FQ q] M Q = Q (.int 2) M:=rfl
theorem aC5 {px py s:Rat} {t h:Int} {M:DM} {Q:DQ}:mT [FR px py t h s] M Q = Q (.int 4) M:=rfl
theorem aBo {a:Addr} {M:DM} {Q:DQ}:mT [.ref a] M Q = ∃ xs,M a = some xs/\Q (.int (xs.length:Int)) M:=rfl
end Dd
namespace Dd
open PySem PySem.Spec PyProof.Rows L2 Mz
section
variable {M:DM} {Q:DQ} {a b c d e f:D}
theorem aEF {i:Int}:aGL [.int i] M Q = Q (.int (if i < 0 then -i else i)) M:=rfl
theorem aCk {xs:List D}:mT [.fz xs] M Q = Q (.int xs.length) M:=rfl
theorem aC9:mT [.tup []] M Q = Q (.int 0) M:=rfl
theorem aBO:mT [.tup [a]] M Q = Q (.int 1) M:=rfl
theorem aCy:mT [.tup [a,b]] M Q = Q (.int 2) M:=rfl
theorem aBZ:mT [.tup [a,b,c]] M Q = Q (.int 3) M:=rfl
theorem aCj:mT [.tup [a,b,c,d]] M Q = Q (.int 4) M:=rfl
theorem aB0:mT [.tup [a,b,c,d,e]] M Q = Q (.int 5) M:=rfl
end
structure Fm where
 (px py:Rat) (t h:Int) (s:Rat)
noncomputable def FmD (f:Fm):D:=FR f.px f.py f.t f.h f.s
noncomputable def Fm.one:Fm:=⟨0,0,0,1,1⟩
noncomputable def Fm.Ok (f:Fm):Prop:=0<=f.t/\f.t < 4/\(f.h = 1 ∨ f.h = -1)
theorem Fm.ok_one:Fm.one.Ok:=⟨by decide,by decide,.inl rfl⟩
theorem aFO {f:Fm} {M:DM} {Q:DQ}:jQ (FmD f) (.int 0) M Q = Q (PQ f.px f.py) M:=rfl
theorem aGg {f:Fm} {M:DM} {Q:DQ}:jQ (FmD f) (.int 1) M Q = Q (.int f.t) M:=rfl
theorem aFW {f:Fm} {M:DM} {Q:DQ}:jQ (FmD f) (.int 2) M Q = Q (.int f.h) M:=rfl
theorem aGr {f:Fm} {M:DM} {Q:DQ}:jQ (FmD f) (.int 3) M Q = Q (FQ f.s) M:=rfl
theorem aEH {f:Fm} {n:Nat} {t:DGs} {ρ:bV} {M:DM} {R:bV->DM->Prop}:gU n t (FmD f) ρ M R = (([PQ f.px f.py,.int f.t,.int f.h,FQ f.s]:List D).length = n/\t [PQ f.px f.py,.int f.t,.int f.h,FQ f.s] ρ M R):=rfl
theorem aAc {f:Fm} {M:DM} {Q:DQ}:mT [FmD f] M Q = Q (.int 4) M:=rfl
end Dd
namespace Dd
open PySem PySem.Spec PyProof.Rows L2 Mz
section
variable {X:Cx} {pins:List (Addr × Obj)} {σ:L2.St} {H:Hp} {s:Shared} {M:DM}
end
section
variable {X:Cx}
end
end Dd
namespace L2
open PySem PySem.Spec PyProof.Rows
section
variable {prog:Program} {w:World} {A:Around} {R:Result->Shared->Prop} {s:Shared}
end
end L2
namespace Dd
open PySem PySem.Spec PyProof.Rows L2
section
variable {X:Cx} {g:DG} {tc:DT} {te:DE}
variable {elt iter tg cnd:Expr} {scope:Scope} {pos:Pos} {N':List Str} {fr:List (Option Nat)} {tl:DE} {ta:DA} {oN:List Str} {osc:Scope}
end
end Dd
namespace Dd
open PySem PySem.Spec PyProof.Rows L2 Mz
section
variable {X:Cx} {o e f:Expr} {to te tf:DE}
end
section
variable {X:Cx} {pins:List (Addr × Obj)} {σ:L2.St} {H:Hp} {s:Shared}
theorem aDa (I:Inv X pins σ H s) {x y u v:Rat} {w:V} (h:Rep X.K H (PQ x y) w) (h':Rep X.K H (PQ u v) w):x = u/\y = v:=by
 have:=xV I 60 (d:=PQ x y) (d':=PQ u v) rfl rfl h h'
 rw [wI,Bool.and_eq_true] at this
 exact ⟨of_decide_eq_true this.1,of_decide_eq_true this.2⟩
noncomputable def ptE (K:PySem.W.Frag) (H:Hp) (u v:Rat) (y:Value):Bool:=@decide (∃ w p q,bF w y/\Rep K H (PQ p q) w/\p = u/\q = v) (Classical.propDecidable _)
theorem pW {K:PySem.W.Frag} {H:Hp} {x y:Rat} {w:V} (h:Rep K H (PQ x y) w):∃ b,w = .ref b:=by
 obtain ⟨a,xs,rfl,_⟩:=bS h
 exact ⟨a,rfl⟩
theorem aEG (I:Inv X pins σ H s) {u v p q:Rat} {w:V} {y:Value} (r:bF w y) (h:Rep X.K H (PQ p q) w):ptE X.K H u v y = decide (p = u/\q = v):=by
 unfold ptE
 obtain ⟨b,rfl⟩:=pW h
 cases r
 by_cases c:p = u/\q = v
 ·rw [decide_eq_true c]
  exact @decide_eq_true _ (Classical.propDecidable _) ⟨.ref b,p,q,rfl,h,c.1,c.2⟩
 ·rw [decide_eq_false c]
  refine @decide_eq_false _ (Classical.propDecidable _) ?_
  rintro ⟨w',p',q',r',h',e1,e2⟩
  obtain ⟨b',rfl⟩:=pW h'
  cases r'
  obtain ⟨z1,z2⟩:=aDa I h h'
  exact c ⟨z1.trans e1,z2.trans e2⟩
theorem vY (I:Inv X pins σ H s) {u v:Rat}:∀ {pts:List (Rat × Rat)} {us:List V} {its:List Value},bG X.K H (pts.map fun p=>PQ p.1 p.2) us->bM us its->its.any (ptE X.K H u v) = pts.any fun p=>decide (p.1 = u/\p.2 = v)
 | [],us,its,r,rv=>by rw [aX r] at rv;cases rv;rfl
 | p :: pts,us,its,r,rv=>by
  obtain ⟨w,rr,rfl,hw,hr⟩:=aO r
  cases rv with
  | cons q ws=>rw [List.any_cons,List.any_cons,aEG I q hw,vY I hr ws]
end
section
variable {X:Cx} {o:Expr} {to:DE}
end
end Dd
namespace Dd
open PySem PySem.Spec PyProof.Rows L2
section
variable {X:Cx} {g:DG} {tc:DT} {te:DE}
variable {elt iter tg cnd:Expr} {scope:Scope} {pos:Pos} {N':List Str} {fr:List (Option Nat)} {tl:DE} {ta:DA} {oN:List Str} {osc:Scope}
end
section
variable {X:Cx} {o e f:Expr} {to te tf:DE}
end
section
variable {X:Cx} {pins:List (Addr × Obj)} {σ:L2.St} {H:Hp} {s:Shared}
end
section
variable {X:Cx} {o:Expr} {to:DE}
end
end Dd
namespace Dd
open PySem PySem.Spec PyProof.Rows L2
section
variable {P:Program} {w:World} {K:PySem.W.Frag} {mg:Str->Option Value} {base:Heap}
end
section
variable {X:Cx} {n x:Str} {C a:Addr} {o:Obj} {p p1 pos:Pos} {j k k':Nat} {sp:Addr->DM->DQ->Prop}
end
end Dd
namespace Dd
open PySem PySem.Spec PyProof.Rows L2
section
open PySem.SeqAt
open PySem.AutoSeq1 (wpAny_loadPart')
open PySem.MeetsSeq PySem.MeetsSeq2 PySem.MeetsSeq3
end
section
variable {prog:Program} {w:World} {A:Around} {E:Value->Shared->Prop} {s:Shared}
end
section
variable {X:Cx} {j:Nat}
end
end Dd
namespace Dd
open PySem
theorem us0 {us:List Value} (h:us.length = 0):us = []:=List.length_eq_zero_iff.mp h
theorem us1 {us:List Value} (h:us.length = 1):∃ a,us = [a]:=List.length_eq_one_iff.mp h
theorem us2 {us:List Value} (h:us.length = 2):∃ a b,us = [a,b]:=by
 cases us with
 | nil=>cases h
 | cons a r=>obtain ⟨b,rfl⟩:=us1 (us:=r) (Nat.succ.inj h);exact ⟨a,b,rfl⟩
theorem us3 {us:List Value} (h:us.length = 3):∃ a b c,us = [a,b,c]:=by
 cases us with
 | nil=>cases h
 | cons a r=>obtain ⟨b,c,rfl⟩:=us2 (us:=r) (Nat.succ.inj h);exact ⟨a,b,c,rfl⟩
end Dd
namespace Dd
open PySem PySem.Spec PyProof.Rows L2
noncomputable instance aHD:DecidableEq D:=fun a b=>Classical.propDecidable (a = b)
noncomputable def aGZ:Nat->D->Bool
 | _,.int _=>true
 | _,.str _=>true
 | n + 1,.tup ds=>ds.all (aGZ n)
 | _,_=>false
section
variable {prog:Program} {w:World}
end
end Dd
namespace Dd
open PySem PySem.Spec PyProof.Rows L2
section
variable {prog:Program} {w:World} {A:Around} {E:Value->Shared->Prop} {s:Shared} {it d:Addr} {i ep:Nat} {es:Array DictEntry}
end
end Dd
namespace Dd
open PySem PySem.Spec PyProof.Rows L2
structure TK (kvs:List (D × D)):Prop where
 key:∀ p ∈ kvs,(∃ ds,p.1 = .tup ds)/\aGZ 6 p.1 = true
 nd:(kvs.map (·.1)).Nodup
theorem TK.nil:TK []:=⟨(fun _ h=>(nomatch h)),List.nodup_nil⟩
noncomputable def KX (K:PySem.W.Frag) (H:Hp) (p:D × D) (x:D × Addr × Value):Prop:=p.1 = x.1/\Rep K H p.1 (.ref x.2.1)/\∃ vv,bF vv x.2.2/\Rep K H p.2 vv
section
variable {X:Cx} {pins:List (Addr × Obj)} {σ:L2.St} {H:Hp} {s:Shared}
theorem Paired.len {α β:Type} {F:α->β->Prop}:∀ {l:List α} {l':List β},Paired F l l'->l.length = l'.length
 | _,_,.nil=>rfl
 | _,_,.cons _ t=>by rw [List.length_cons,List.length_cons,Paired.len t]
theorem aAZ {o:Obj} {es:Array DictEntry} {ep:Nat} (h:o.ExactDict) (d:o.data = .dict es ep):o = { cls:=.type "dict",data:=.dict es ep }:=by
 obtain ⟨c,di,dt,sl⟩:=o
 obtain ⟨h1,h2,h3⟩:=h
 cases h1;cases h2;cases h3;cases d
 rfl
theorem uR {P:Program} {w:World} {H:Hp} {h:Heap} {a:Addr} {es:List DictEntry} (x:kE a es h):dM P w H h a (.ext (kE a es)) :=
 ⟨x,let ⟨_,_,_,e⟩:=x;⟨_,e⟩,fun h1 h2 ⟨y1,y2,ep,e⟩ k=>⟨y1,y2,ep,k _ e⟩⟩
end
section
variable {X:Cx} {pos:Pos}
noncomputable def nI:List (DE × DE)->bV->DM->(List (D × D)->DM->Prop)->Prop
 | [],_,M,Q=>Q [] M
 | (tk,tv) :: r,ρ,M,Q=>tk ρ M fun x M1=>tv ρ M1 fun y M2=>nI r ρ M2 fun ps M3=>Q ((x,y) :: ps) M3
noncomputable def PrR (K:PySem.W.Frag) (H:Hp) (p:D × D) (q:Value × Value):Prop:=∃ a b,bF a q.1/\Rep K H p.1 a/\bF b q.2/\Rep K H p.2 b
theorem PrR.ext {K:PySem.W.Frag} {H H':Hp} {p:D × D} {q:Value × Value} (h:PrR K H p q) (e:Ext H H'):PrR K H' p q:=let ⟨a,b,c,d,f,g⟩:=h;⟨a,b,c,d.ext e,f,g.ext e⟩
noncomputable def aCP (X:Cx) (pos:Pos) (keys:List (Option Expr)) (values:List Expr) (trs:List (DE × DE)):Prop :=
 ∀ (pins:List (Addr × Obj)) (s:Shared) (σ:L2.St) (ρ:bV) (H:Hp) (M:DM) (Q:List (D × D)->DM->Prop),Inv X pins σ H s->eI X.K H ρ σ->bJ X.K M H->nI trs ρ M Q ->
  wpAny (model X.prog X.w) X.A (evalPairs (pairTrees keys values X.env pos)) (fun vs s'=>∃ ps H' M',Inv X pins σ H' s'/\Paired (PrR X.K H') ps vs/\bJ X.K M' H'/\Ext H H'/\Q ps M') X.xe s
theorem aCt:aCP X pos [] [] []:=fun pins s σ ρ H M Q I re hm h=>pairTrees_nil_walk ⟨[],H,M,I,.nil,hm,.refl H,h⟩
theorem gL {k v:Expr} {ks:List (Option Expr)} {vs:List Expr} {tk tv:DE} {trs:List (DE × DE)} (hk:PDE X k tk) (hv:PDE X v tv) (hr:aCP X pos ks vs trs):aCP X pos (some k :: ks) (v :: vs) ((tk,tv) :: trs) :=
 fun pins s σ ρ H M Q I re hm h =>
  pairTrees_cons_walk (thn (hk pins s σ H (LQ X.K H fun x M1=>tv ρ M1 fun y M2=>nI trs ρ M2 fun ps M3=>Q ((x,y) :: ps) M3) I ⟨ρ,M,_,re,hm,h,fun _ _ z=>z⟩) fun u s1 ⟨x,H1,I1,rx,d1,M1,r1,hm1,e1,q1⟩ =>
   thn (hv pins s1 σ H1 (LQ X.K H1 fun y M2=>nI trs ρ M2 fun ps M3=>Q ((d1,y) :: ps) M3) I1 ⟨ρ,M1,_,re.ext e1,hm1,q1,fun _ _ z=>z⟩) fun u2 s2 ⟨y,H2,I2,ry,d2,M2,r2,hm2,e2,q2⟩ =>
    thn (hr pins s2 σ ρ H2 M2 _ I2 ((re.ext e1).ext e2) hm2 q2) fun ws s3 ⟨ps,H3,M3,I3,rel,hm3,e3,q3⟩ =>
     ⟨(d1,d2) :: ps,H3,M3,I3,.cons ⟨x,y,rx,(r1.ext e2).ext e3,ry,r2.ext e3⟩ rel,hm3,(e1.trans e2).trans e3,q3⟩)
end
end Dd
namespace Dd
open PySem PySem.W PyProof.Rows
section
variable {n:Nat} {lt:Nat->Nat->Bool} {p:Array Nat}
end
section
variable {n:Nat} {p:Array Nat}
end
end Dd
namespace Dd
open PySem PySem.Spec PyProof.Rows L2
section
variable {prog:Program} {w:World} {A:Around} {E:Value->Shared->Prop} {s:Shared}
end
section
variable {X:Cx} {pins:List (Addr × Obj)} {σ:L2.St} {H:Hp} {s:Shared}
end
end Dd
namespace L2
open PySem PySem.Spec PyProof.Rows
end L2
namespace Dd
open PySem PySem.Spec PyProof.Rows L2
section
variable {X:Cx} {pos:Pos} {iter tg:Expr} {body:List Stmt} {tl:DE} {g:DG} {tb:DS} {ta:DA}
theorem aHv {CX:CXT} {P:Program} {w:World} {K:PySem.W.Frag} {mg:Str->Option Value} {base:Heap} {N:List Str} {qual:Str} {scope:Scope} {f:Addr} {cd:Value} {A:Around} {outer:List Env} {s:Shared} {H:Hp} {E:XK}:(jR CX P w K mg base N qual scope f cd A outer s H E).w = w:=rfl
end
end Dd
namespace L2
open PySem PySem.Spec PyProof.Rows
section
variable {prog:Program} {w:World} {A:Around} {E:Value->Shared->Prop} {s:Shared}
end
end L2
namespace L2
open PySem PySem.Spec PyProof.Rows
end L2
namespace Dd
open PySem PySem.Spec PyProof.Rows L2
section
variable {X:Cx} {pos:Pos} {iter tg:Expr} {body:List Stmt} {tl:DE} {g:DG} {tb:DS} {ta:DA}
end
end Dd
namespace L2
open PySem PySem.Spec PyProof.Rows
end L2
namespace Dd
open PySem PySem.Spec PyProof.Rows L2
section
variable {X:Cx} {pos:Pos} {iter tg elt:Expr} {body:List Stmt} {tl te:DE} {g:DG} {tb:DS} {ta:DA}
variable {scope:Scope} {N':List Str} {fr:List (Option Nat)} {oN:List Str} {osc:Scope}
end
end Dd
namespace Dd
open PySem PySem.Spec PyProof.Rows L2
section
variable {prog:Program} {w:World} {A:Around} {E:Value->Shared->Prop} {s:Shared}
end
section
variable {X:Cx} {pos:Pos}
end
section
variable {P:Program} {w:World} {K:PySem.W.Frag} {mg:Str->Option Value} {base:Heap}
end
end Dd
namespace HT
open PySem PyProof.Rows
section
variable {prog:Program} {w:World} {A:Around} {E:Value->Shared->Prop} {s:Shared}
theorem getItem_tuple_whole {t sl:Addr} {items:Array Value} {vl vu:Value} {lo hi:Option Int} {Q:Value->Shared->Prop} (ht:IsTup s.heap t items) (hs:s.heap.IsSliceOf sl vl vu .none) (pl:IsPart vl lo) (pu:IsPart vu hi)
  (hw:sIx items.size 0 lo = 0/\sIx items.size items.size hi = items.size)
  (h:Q (.ref t) s):wpAny (model prog w) A (getItem (.ref t) (.ref sl)) Q E s:=by
 obtain ⟨os,hos,hcs,hds⟩:=id hs
 have hTs:s.TypeIs (.ref sl) "slice":=⟨os,hos,hcs⟩
 unfold getItem
 try with_reducible refine wpAny_holding ?_
 first | refine wpAny_bind (wpAny_pure ?_) | skip
 refine wpAny_bind (wpAny_sequenceKey ht.typeIs (by decide) ?_)
 refine wpAny_bind (wpAny_callSpecial?_slot (name:=Str.ofString "__getitem__") ht.typeIs PyProof.Rows.slot_tuple_getitem
  (wpAny_call_entry PyProof.Rows.slot_tuple_getitem ht.typeIs entry_tuple_getitem ?_ (args_tuple_getitem _ _)))
 show wpAny _ _ (Builtin.Tuple.tupleItemsOf (.ref t) >>= _) _ _ s
 refine wpAny_bind (tupleItemsOf_ ht ?_)
 refine wpAny_bind (wpAny_typeOf hTs ?_)
 rw [if_pos (by decide)]
 refine wpAny_bind (iH hs pl pu ?_)
 have hyes:(((sIx items.size 0 lo:Nat):Int) == 0 && (1:Int) == 1 && (sIx items.size items.size hi - sIx items.size 0 lo) == items.size) = true:=by
  rw [hw.1,hw.2];simp
 show wpAny _ _ (if (((sIx items.size 0 lo:Nat):Int) == 0 && (1:Int) == 1 && (sIx items.size items.size hi - sIx items.size 0 lo) == items.size) = true then _ else _) _ _ s
 rw [if_pos hyes]
 obtain ⟨ot,hot,hct,n,hdt⟩:=id ht
 wp_walk
 first
  | exact ⟨_,rfl,wpAny_pure h⟩
  | exact ⟨_,rfl,h⟩
  | exact h
end
end HT
namespace L2
open PySem PySem.Spec PyProof.Rows
variable {X:Cx}
noncomputable def aHs (K:PySem.W.Frag):V->Option Int->Option Int->Hp->VK->Prop:=fun x lo hi H Q=>∃ a xs,x = .ref a/\SqT K H a xs /\
 (HT.sIx xs.length 0 lo = 0/\HT.sIx xs.length xs.length hi = xs.length)/\Q (.ref a) H
theorem aAi:SlR X (aHs X.K):=by
 intro pins s σ H x v vl vu lo hi sl Q I rx hs pl pu h
 obtain ⟨a,xs,rfl,hx,hw,q⟩:=h
 cases rx
 obtain ⟨its,r,ht,hz⟩:=I.tuple hx
 have hlen:its.toArray.size = xs.length:=by rw [List.size_toArray];exact r.length.symm
 refine ⟨"tuple",_,PyProof.Rows.slot_tuple_getitem.lookup,ht.typeIs,?_⟩
 exact HT.getItem_tuple_whole ht hs pl pu (by rw [hlen];exact hw) ⟨.ref a,H,I,rfl,q⟩
end L2
namespace Dd
open PySem PySem.Spec PyProof.Rows L2
section
variable {X:Cx} {e:Expr} {te:DE} {pos p2:Pos} {lo hi:Option Expr} {tl th:DO}
noncomputable def aDd (x:D) (lo hi:Option Int) (M:DM) (Q:DQ):Prop:=match x with
 | .tup ds=>Q (.tup (cutD ds lo hi)) M
 | _=>False
noncomputable def aDP (te:DE) (tl th:DO):DE:=fun ρ M Q=>te ρ M fun x M1=>tl ρ M1 fun l M2=>th ρ M2 fun h M3=>aDd x l h M3 Q
theorem yQ {ds:List D} {lo hi:Option Int} (h:HT.sIx ds.length 0 lo = 0/\HT.sIx ds.length ds.length hi = ds.length):cutD ds lo hi = ds:=by
 unfold cutD
 rw [h.1,h.2];simp
theorem zI (he:PDE X e te) (hl:PO X lo (sW X.K tl)) (hu:PO X hi (sW X.K th)):PDE X (.Subscript e (.Slice lo hi none p2) pos) (aDP te tl th) :=
 cF (uS (SlR.or aFE aAi) he hl hu) fun σ H Q ⟨ρ,M,Q',re,hm,q,k⟩=>⟨ρ,M,_,re,hm,q,fun v H1 ⟨d,M1,rd,hm1,e1,q1⟩=>⟨ρ,M1,_,re.ext e1,hm1,q1,fun l H2 ⟨M2,hm2,e2,q2⟩=>⟨ρ,M2,_,(re.ext e1).ext e2,hm2,q2,fun h H3 ⟨M3,hm3,e3,q3⟩=>by
  have rd3:=(rd.ext e2).ext e3
  have ex:=(e1.trans e2).trans e3
  cases d with
  | tup ds =>
   obtain ⟨a,us,rfl,sq,ru⟩:=bS rd3
   have l1:=ru.length
   have q3:Q' (.tup (cutD ds l h)) M3:=q3
   by_cases hw:HT.sIx ds.length 0 l = 0/\HT.sIx ds.length ds.length h = ds.length
   ·rw [yQ hw] at q3
    exact .inr ⟨a,us,rfl,sq,by rw [<- l1];exact hw,k _ _ ⟨.tup ds,M3,cN sq ru,hm3,ex,q3⟩⟩
   ·exact .inl ⟨a,us,rfl,sq,by rw [<- l1];exact hw,fun p hp=>k _ _ ⟨.tup _,M3,cN (.of cR) ((pR ru l h).ext (Ext.new hp _)),hm3.new hp _,ex.trans (Ext.new hp _),q3⟩⟩
  | _=>exact q3.elim⟩⟩⟩
end
end Dd
namespace Dd
open PySem PySem.Spec PyProof.Rows L2
section
variable {X:Cx} {pins:List (Addr × Obj)} {σ:L2.St} {H:Hp} {s:Shared} {M:Model} {A:Around} {E:Value->Shared->Prop} {e T:Addr} {cls:Value}
end
section
variable {X:Cx} {e:Expr} {es:List Expr} {t:DA} {f:Str} {ps:List Str} {cond:List D->DM->Prop} {C:Addr} {k1 k:Nat} {V:DM->Prop} {pf pc:Pos}
end
section
variable {P:Program} {w:World} {K:PySem.W.Frag} {mg:Str->Option Value} {base:Heap}
theorem Has.never {x:Str} {st:Stmt} {N ps:List Str} (h:cZ K mg x st ps) (S:aT N ps (aJ st)) (k:Nat):Has P w K mg base (k + 1) x ps (fun _ _ _=>False) :=
 Has.mk h S (fun _ _ _ z=>z.elim) fun _ _ _ _ _ _ _ _ _ _ _ z=>z.elim
end
section
variable {X:Cx} {a:Expr} {e tg:Expr} {es:List Expr} {t:DA} {g:DG} {f n cm:Str} {ps:List Str} {sp:DSp} {cond:List D->DM->Prop} {C Cm:Addr} {k1 k2 k j:Nat} {ts:Addr->DS} {b0:Stmt} {suite:List Stmt} {pf pc pa pcm ph pos:Pos}
end
end Dd
namespace Dd
open PySem PySem.Spec PyProof.Rows L2
open PySem.AutoSeq1 (wpAny_loadPart')
theorem vG (l b:Addr) (items items2:Array Value) (n n2:Nat) (dd dd2:Option Addr) (sl sl2:Array (Option Value)) (hc0:items.isEmpty = true) :
  Meets (Builtin.«tuple.__add__» ⟨[.ref l,.ref b],[]⟩) (fun _ R s=>s.heap.get? l = some { cls:=.type "tuple",dict:=dd,data:=.seq items n,slots:=sl }/\s.heap.get? b = some { cls:=.type "tuple",dict:=dd2,data:=.seq items2 n2,slots:=sl2 }/\R (.ok (.ret (Value.ref b))) { s with heap:=s.heap,toks:=s.toks }) :=
 .of_wp fun prog w A R s h=>by obtain ⟨hp,g,d,tk,os⟩:=s;obtain ⟨hl,hb,h⟩:=h;have f1:=AutoSeq1.idx_int;have f2:=AutoSeq1.sub_tuple_tuple;have f3:=AutoSeq1.sub_list_list;have f4:=AutoSeq1.sub_tuple_list;have f5:=AutoSeq1.sub_list_tuple;wp_walk using wpAny_loadPart' hl,wpAny_loadPart' hb;exact ⟨_,rfl,h⟩
section
variable {X:Cx}
noncomputable def aAg:D2:=fun x y M Q=>match x,y with
 | .tup xs,.tup ys=>xs.length + ys.length<=1000/\Q (.tup (xs ++ ys)) M
 | _,_=>False
theorem eR:OpD X (binaryOp .Add) aAg:=by
 intro pins s σ H x y v u Q I rx ry ⟨dx,dy,M,Q',r1,r2,hm,q,k⟩
 match dx,dy,q with
 | .tup xs,.tup ys,q =>
  obtain ⟨hl,q⟩:=q
  obtain ⟨a,us,rfl,sq,ru⟩:=bS r1
  obtain ⟨b,ws,rfl,sq2,rw'⟩:=bS r2
  have l3:=ru.length
  have l4:=rw'.length
  by_cases n1:us = []
  ·have nx:xs = []:=List.length_eq_zero_iff.mp (by rw [l3,n1];rfl)
   rw [nx] at q
   cases rx
   cases ry
   obtain ⟨its,r5,p1,_⟩:=I.tuple sq
   obtain ⟨its2,r6,p2,_⟩:=I.tuple sq2
   obtain ⟨⟨cls,dd,data,sl⟩,ho,hc,n,hd⟩:=id p1
   obtain ⟨⟨cls2,dd2,data2,sl2⟩,ho2,hc2,n2,hd2⟩:=id p2
   simp only at hc hd hc2 hd2
   subst hc hd hc2 hd2
   have e0:its = []:=List.length_eq_zero_iff.mp (by rw [<- r5.length,n1];rfl)
   exact concat_meets ⟨_,ho,rfl⟩ ⟨_,ho2,rfl⟩ noFill_tuple_add seq_tuple_add PySem.F.slot_tuple_add PySem.F.entry_tuple_add (PySem.F.args_tuple_add_2 _ _)
    (vG a b its.toArray its2.toArray n n2 dd dd2 sl sl2 (by rw [e0];rfl)) ⟨ho,ho2,.ref b,H,I,rfl,k _ H ⟨.tup ys,M,cN sq2 rw',hm,.refl H,q⟩⟩
  ·refine xX pins s σ H _ _ v u Q I rx ry ?_
   refine ⟨a,b,us,ws,rfl,rfl,sq,sq2,n1,by rw [<- l3,<- l4];exact Nat.le_of_lt (dZ hl),fun z=>?_,fun _ p hp=>k _ _ ⟨.tup _,M,cN (.of cR) ((ru.append rw').ext (Ext.new hp _)),hm.new hp _,Ext.new hp _,q⟩⟩
   have ny:ys = []:=List.length_eq_zero_iff.mp (by rw [l4,z];rfl)
   rw [ny,List.append_nil] at q
   exact k _ H ⟨.tup xs,M,cN sq ru,hm,.refl H,q⟩
end
end Dd
namespace Dd
open PySem PySem.Spec PyProof.Rows L2
section
variable {X:Cx} {pins:List (Addr × Obj)} {σ:L2.St} {H:Hp} {s:Shared}
end
section
variable {X:Cx} {pos:Pos}
end
section
variable {X:Cx} {pos:Pos} {iter tg:Expr} {body:List Stmt} {tl:DE} {g:DG} {tb:DS} {ta:DA}
end
section
variable {X:Cx} {pos:Pos} {iter tg:Expr} {body:List Stmt} {tl:DE} {g:DG} {tb:DS} {ta:DA}
end
section
variable {X:Cx} {pos:Pos} {iter tg elt:Expr} {body:List Stmt} {tl te:DE} {g:DG} {tb:DS} {ta:DA}
variable {scope:Scope} {N':List Str} {fr:List (Option Nat)} {oN:List Str} {osc:Scope}
end
section
variable {prog:Program} {w:World} {A:Around} {E:Value->Shared->Prop} {s:Shared}
end
section
variable {X:Cx} {pos:Pos}
end
section
variable {P:Program} {w:World} {K:PySem.W.Frag} {mg:Str->Option Value} {base:Heap}
end
section
variable {X:Cx} {e:Expr} {te:DE} {pos p2:Pos} {lo hi:Option Expr} {tl th:DO}
theorem cJ (he:ZE X e te) (hl:ZO X lo tl) (hu:ZO X hi th):ZE X (.Subscript e (.Slice lo hi none p2) pos) (aDP te tl th):=.i (zI he.o hl.o hu.o)
end
section
variable {X:Cx} {pins:List (Addr × Obj)} {σ:L2.St} {H:Hp} {s:Shared} {M:Model} {A:Around} {E:Value->Shared->Prop} {e T:Addr} {cls:Value}
end
section
variable {X:Cx} {e:Expr} {es:List Expr} {t:DA} {f:Str} {ps:List Str} {cond:List D->DM->Prop} {C:Addr} {k1 k:Nat} {V:DM->Prop} {pf pc:Pos}
end
section
variable {P:Program} {w:World} {K:PySem.W.Frag} {mg:Str->Option Value} {base:Heap}
end
section
variable {X:Cx} {a:Expr} {e tg:Expr} {es:List Expr} {t:DA} {g:DG} {f n cm:Str} {ps:List Str} {sp:DSp} {cond:List D->DM->Prop} {C Cm:Addr} {k1 k2 k j:Nat} {ts:Addr->DS} {b0:Stmt} {suite:List Stmt} {pf pc pa pcm ph pos:Pos}
end
section
variable {X:Cx}
end
end Dd
namespace Dd
open PySem PySem.Spec PyProof.Rows L2
section
variable {X:Cx} {pins:List (Addr × Obj)} {σ:L2.St} {H:Hp} {s:Shared}
end
end Dd
namespace Dd
open PySem PySem.Spec PyProof.Rows L2
noncomputable def Cm (M:DM):Nat->D->D->Bool->Prop
 | 0,d,d',b=>aZ 0 d = true/\aZ 0 d' = true/\b = eqD d d'
 | n + 1,d,d',b=>match d,d' with
  | .tup xs,.tup ys=>∃ e:Nat->Bool,(∀ j x y,xs[j]? = some x->ys[j]? = some y->Cm M n x y (e j))/\b = ((List.range (min xs.length ys.length)).all e && xs.length == ys.length)
  | .ref a,.ref a'=>∃ xs ys,M a = some xs/\M a' = some ys/\a ≠ a'/\(xs.length = ys.length->∃ e:Nat->Bool,(∀ j x y,xs[j]? = some x->ys[j]? = some y->Cm M n x y (e j))/\b = (List.range xs.length).all e)/\(xs.length ≠ ys.length->b = false)
  | d,d'=>aZ 0 d = true/\aZ 0 d' = true/\b = eqD d d'
section
variable {X:Cx} {pins:List (Addr × Obj)} {σ:L2.St} {H:Hp} {s:Shared} {M:DM}
end
section
variable {X:Cx}
end
end Dd
namespace Dd
open PySem PySem.Spec PyProof.Rows L2
noncomputable def lM (w:World) (kvs:List (Str × D)):List D:=kvs.map fun p=>.tup [.int (hashStr w p.1),.str p.1,p.2]
noncomputable def SX (K:PySem.W.Frag) (H:Hp) (p:Str × D) (x:Str × Value):Prop:=p.1 = x.1/\∃ vv,bF vv x.2/\Rep K H p.2 vv
noncomputable def wD (kvs:List (Str × D)) (k:Str) (v:D):List (Str × D):=if kvs.any (fun kv=>kv.1 = k) then kvs.map (fun kv=>if kv.1 = k then (kv.1,v) else kv) else kvs ++ [(k,v)]
theorem aBd {kvs:List (Str × D)} {k:Str} {v:D}:(wD kvs k v).length<=kvs.length + 1:=by
 unfold wD
 split
 ·rw [List.length_map];omega
 ·rw [List.length_append];exact Nat.le_refl _
theorem aBA {K:PySem.W.Frag} {H:Hp} (prog:Program) (w:World):∀ {kvs:List (Str × D)} {es:List DictEntry},nZ K H (lM w kvs) es ->
  ∃ xs:List (Str × Value),Pairs (strKind prog w) es xs/\(∀ e ∈ es,∃ k,(strKind prog w).is k e.key = true/\e.hash = (strKind prog w).hash k)/\Paired (SX K H) kvs xs
 | [],es,r=>by
  cases r
  exact ⟨[],.nil,(fun _ h=>nomatch h),.nil⟩
 | p :: kvs,es,r=>by
  cases r with
  | @cons _ e _ es' re rr =>
   obtain ⟨xs,h1,h2,h3⟩:=aBA prog w rr
   obtain ⟨k,v,kv,vv,e1,q1,r1,q2,r2⟩:=re
   have e0:D.tup [.int (hashStr w p.1),.str p.1,p.2] = .tup [.int e.hash,k,v]:=e1
   clear e1
   injection e0 with e0
   injection e0 with e1 e2
   injection e2 with e2 e3
   injection e3 with e3 _
   injection e1 with e1
   subst e2
   subst e3
   rw [bI r1] at q1
   obtain ⟨t,q1⟩:=q1
   have is:(strKind prog w).is p.1 e.key = true:=by rw [q1];exact strKind_is prog w p.1 t
   refine ⟨(p.1,e.val) :: xs,.cons is rfl h1,fun d hd=>?_,.cons ⟨rfl,vv,q2,r2⟩ h3⟩
   rcases List.mem_cons.mp hd with z | z
   ·subst z;exact ⟨p.1,is,e1.symm⟩
   ·exact h2 d z
theorem rP {K:PySem.W.Frag} {H:Hp} (prog:Program) (w:World):∀ {kvs:List (Str × D)} {es:List DictEntry} {xs:List (Str × Value)},Pairs (strKind prog w) es xs->(∀ e ∈ es,∃ k,(strKind prog w).is k e.key = true/\e.hash = (strKind prog w).hash k)->Paired (SX K H) kvs xs->nZ K H (lM w kvs) es
 | [],es,_,p,hk,.nil=>by cases p;exact .nil
 | p :: kvs,es,x :: xs,pr,hk,.cons r rr=>by
  cases pr with
  | @cons e _ es' _ is ev pr =>
   obtain ⟨e0,vv,q,r2⟩:=r
   obtain ⟨k,ik,hk0⟩:=hk e List.mem_cons_self
   have ek:k = x.1:=(strKind prog w).inj e.key k x.1 ik is
   obtain ⟨t,et⟩:=Value.isStrOf_shape (x:=x.1) (v:=e.key) is
   refine .cons ⟨.str p.1,p.2,.str p.1,vv,?_,⟨t,by rw [et,e0]⟩,xR,by rw [ev];exact q,r2⟩ (rP prog w pr (fun e' he'=>hk e' (List.mem_cons_of_mem _ he')) rr)
   show D.tup [.int (hashStr w p.1),.str p.1,p.2] = .tup [.int e.hash,.str p.1,p.2]
   rw [hk0,ek,e0];rfl
theorem wO {K:PySem.W.Frag} {H:Hp} {k:Str}:∀ {kvs:List (Str × D)} {xs:List (Str × Value)},Paired (SX K H) kvs xs->(xs.any fun kv=>decide (kv.1 = k)) = kvs.any fun kv=>decide (kv.1 = k)
 | [],_,.nil=>rfl
 | p :: kvs,x :: xs,.cons r rr=>by rw [List.any_cons,List.any_cons,wO rr,r.1]
theorem wY {K:PySem.W.Frag} {H:Hp}:∀ {kvs:List (Str × D)} {xs:List (Str × Value)},Paired (SX K H) kvs xs->kvs.map (·.1) = xs.map (·.1)
 | [],_,.nil=>rfl
 | p :: kvs,x :: xs,.cons r rr=>by rw [List.map_cons,List.map_cons,r.1,wY rr]
theorem aBf {K:PySem.W.Frag} {H:Hp} {k:Str} {v:D} {u:Value} {vv:V} (q:bF vv u) (rv:Rep K H v vv):∀ {kvs:List (Str × D)} {xs:List (Str × Value)},Paired (SX K H) kvs xs->Paired (SX K H) (kvs.map fun kv=>if kv.1 = k then (kv.1,v) else kv) (xs.map fun kv=>if kv.1 = k then (kv.1,u) else kv)
 | [],_,.nil=>.nil
 | p :: kvs,x :: xs,.cons r rr=>by
  rw [List.map_cons,List.map_cons]
  refine .cons ?_ (aBf q rv rr)
  by_cases c:p.1 = k
  ·rw [if_pos c,if_pos (r.1 ▸ c)];exact ⟨r.1,vv,q,rv⟩
  ·rw [if_neg c,if_neg (r.1 ▸ c)];exact r
theorem aFv {K:PySem.W.Frag} {H:Hp} {k:Str} {v:D} {u:Value} {vv:V} (q:bF vv u) (rv:Rep K H v vv) {kvs:List (Str × D)} {xs:List (Str × Value)} (h:Paired (SX K H) kvs xs):Paired (SX K H) (wD kvs k v) (stored xs k u):=by
 unfold wD stored
 rw [wO h]
 split
 ·exact aBf q rv h
 ·exact Paired.snoc h ⟨rfl,vv,q,rv⟩
theorem aDk {K:PySem.W.Frag} {H:Hp} {k:Str}:∀ {kvs:List (Str × D)} {xs:List (Str × Value)} {d:D},Paired (SX K H) kvs xs->(kvs.find? fun p=>decide (p.1 = k)).map (·.2) = some d->∃ u vv,valueAt xs k = some u/\bF vv u/\Rep K H d vv
 | [],_,_,.nil,h=>by simp at h
 | p :: kvs,x :: xs,d,.cons r rr,h=>by
  unfold valueAt
  by_cases c:p.1 = k
  ·rw [List.find?_cons_of_pos (by simpa using c)] at h
   rw [List.find?_cons_of_pos (by simpa using r.1 ▸ c)]
   cases h
   obtain ⟨_,vv,q,rv⟩:=r
   exact ⟨_,vv,rfl,q,rv⟩
  ·rw [List.find?_cons_of_neg (by simpa using c)] at h
   rw [List.find?_cons_of_neg (by simpa using r.1 ▸ c)]
   exact aDk rr h
theorem vJ (k:Str):∀ xs:List (Str × Value),(xs.find? fun kv=>decide (kv.1 = k)).isSome = xs.any fun kv=>decide (kv.1 = k)
 | []=>rfl
 | x :: xs=>by
  by_cases c:x.1 = k
  ·rw [List.find?_cons_of_pos (by simpa using c),List.any_cons,decide_eq_true c];rfl
  ·rw [List.find?_cons_of_neg (by simpa using c),List.any_cons,decide_eq_false c,Bool.false_or];exact vJ k xs
theorem xA {K:PySem.W.Frag} {H:Hp} {k:Str} {kvs:List (Str × D)} {xs:List (Str × Value)} (h:Paired (SX K H) kvs xs):(valueAt xs k).isSome = kvs.any fun kv=>decide (kv.1 = k):=by
 rw [<- wO (k:=k) h]
 unfold valueAt
 rw [Option.isSome_map]
 exact vJ k xs
section
variable {X:Cx} {pins:List (Addr × Obj)} {σ:L2.St} {H:Hp} {s:Shared}
theorem mI (I:Inv X pins σ H s) {a:Addr} {M:DM} {kvs:List (Str × D)} (hm:bJ X.K M H) (ha:M (.d a) = some (lM X.w kvs)) (nd:(kvs.map (·.1)).Nodup) :
  ∃ es xs,H a = some (.ext (kE a es))/\Paired (SX X.K H) kvs xs/\s.heap.DictOf (strKind X.prog X.w) a xs/\(a == sysModules) = false/\xs.length = kvs.length:=by
 obtain ⟨es,hH,hr⟩:=hm.d a _ ha
 obtain ⟨xs,h1,h2,h3⟩:=aBA X.prog X.w hr
 obtain ⟨⟨hs,hz,ep,e⟩,_⟩:=I.hok a _ hH
 refine ⟨es,xs,hH,h3,⟨_,_,ep,e,⟨rfl,rfl,rfl⟩,rfl,fun d hd=>h2 d (by simpa using hd),by simpa using h1,by rw [<- wY h3];exact nd⟩,hs,(Paired.len h3).symm⟩
theorem vL (I:Inv X pins σ H s) {a:Addr} {kvs:List (Str × D)} {k:Str} {v:D} {u:Value} {vv:V} {es:List DictEntry} {xs:List (Str × Value)} {h':Heap} {tk:Nat}
  (hH:H a = some (.ext (kE a es))) (hp:Paired (SX X.K H) kvs xs) (hs:(a == sysModules) = false) (hz:kvs.length < sizeLine) (q:bF vv u) (rv:Rep X.K H v vv)
  (hd':h'.DictOf (strKind X.prog X.w) a (stored xs k u)) (hsb:Heap.SameBut a s.heap h') :
  ∃ es',Inv X pins σ (upd H a (.ext (kE a es'))) { s with heap:=h',toks:=tk }/\nZ X.K H (lM X.w (wD kvs k v)) es':=by
 obtain ⟨o,es',ep,ho,hx,hda,hk,hpr,_⟩:=hd'
 have eo:=aAZ hx hda
 subst eo
 have hp':=aFv (k:=k) q rv hp
 have lz:es'.toList.length<=sizeLine:=by
  have e1:=Paired.len hp'
  have e2:=hpr.length
  have e3:=aBd (kvs:=kvs) (k:=k) (v:=v)
  omega
 refine ⟨es'.toList,I.write (e:=a) (by rw [hH];exact True.intro) (.inl rfl) (fun c o hc e=>hsb.extBut c o hc e) ⟨_,ho⟩ (uR ⟨hs,lz,ep,by rw [ho,Array.toArray_toList]⟩),rP X.prog X.w hpr (fun e he=>hk e (by simpa using he)) hp'⟩
end
section
variable {X:Cx} {pos:Pos}
noncomputable def aGa (w:World) (g:Bool->Bool):D2:=fun x y M Q=>match x,y with
 | .str k,.ref a=>∃ kvs,M (.d a) = some (lM w kvs)/\(kvs.map (·.1)).Nodup/\Q (.bl (g (kvs.any fun kv=>decide (kv.1 = k)))) M
 | _,_=>False
theorem qA {pins:List (Addr × Obj)} {σ:L2.St} {a:Addr}:∀ {ps:List (Str × D)} {vs:List (Value × Value)} {kvs:List (Str × D)} {H:Hp} {M:DM} {s:Shared} {Q:PUnit->Shared->Prop},
  Inv X pins σ H s->bJ X.K M H->M (.d a) = some (lM X.w kvs)->((kvs ++ ps).map (·.1)).Nodup->kvs.length + ps.length<=1000->Paired (PrR X.K H) (ps.map fun p=>(.str p.1,p.2)) vs ->
  (∀ H' s',Inv X pins σ H' s'->bJ X.K (jM M a (lM X.w (kvs ++ ps))) H'->Ext H H'->Q PUnit.unit s')->wpAny (model X.prog X.w) X.A (storeAll a vs) Q X.xe s
 | [],vs,kvs,H,M,s,Q,I,hm,ha,nd,hl,r,q=>by
  cases r
  have e:jM M a (lM X.w (kvs ++ [])) = M:=by
   funext b
   unfold jM
   split
   ·rename_i z;rw [z,ha,List.append_nil]
   ·rfl
  exact wpAny_pure (q H s I (by rw [e];exact hm) (.refl H))
 | p :: ps,vs,kvs,H,M,s,Q,I,hm,ha,nd,hl,r,q=>by
  cases r with
  | @cons _ y _ ys r1 rr =>
   obtain ⟨y1,y2⟩:=y
   obtain ⟨x,v,rx,rp,rv,rq⟩:=r1
   rw [bI rp] at rx
   obtain ⟨t,ey⟩:=rx
   have ey:y1 = .str p.1 t:=ey
   subst ey
   have nd0:(kvs.map (·.1)).Nodup:=by
    rw [List.map_append] at nd
    exact (List.nodup_append.mp nd).1
   have nin:(kvs.any fun kv=>decide (kv.1 = p.1)) = false:=by
    rw [List.any_eq_false]
    intro x hx z
    rw [List.map_append] at nd
    exact (List.nodup_append.mp nd).2.2 x.1 (List.mem_map.mpr ⟨x,hx,rfl⟩) p.1 (by simp) (by simpa using z)
   obtain ⟨es,xs,hH,hx,hd,hs,lx⟩:=mI I hm ha nd0
   rw [List.length_cons] at hl
   have hz':kvs.length < sizeLine:=dZ (by omega)
   have eput:wD kvs p.1 p.2 = kvs ++ [p]:=by unfold wD;rw [nin];rfl
   unfold storeAll
   rw [List.forIn_cons]
   refine wpAny_bind (wpAny_bind ?_)
   refine wpAny_dictSet_pairs (hsz:=by omega) (strKind_is X.prog X.w p.1 t) hd fun h' hd' hsb=>?_
   obtain ⟨es',I',en⟩:=vL (tk:=s.toks + 1) I hH hx hs hz' rv rq hd' hsb
   rw [eput] at en
   refine wpAny_pure ?_
   have e1:=Ext.putX hH (.ext (kE a es'))
   refine qA I' (hm.kput hH en) iI (by rw [List.append_assoc];exact nd) (by rw [List.length_append];show kvs.length + 1 + ps.length<=1000;omega) (Paired.mapP rr fun _ _ r=>r.ext e1) fun H' s' I2 hm2 e2=>?_
   rw [sG,List.append_assoc] at hm2
   exact q H' s' I2 hm2 (e1.trans e2)
noncomputable def tR (w:World) (trs:List (DE × DE)):DE:=fun ρ M Q=>∀ p:Addr,M (.d p) = none->nI trs ρ (jM M p []) fun ps M2=>M2 (.d p) = some []/\∃ kvs:List (Str × D),ps = (kvs.map fun q=>(.str q.1,q.2))/\(kvs.map (·.1)).Nodup/\kvs.length<=1000/\Q (.ref p) (jM M2 p (lM w kvs))
theorem aBB {keys:List (Option Expr)} {values:List Expr} {trs:List (DE × DE)} (h:aCP X pos keys values trs) (hall:keys.all (·.isSome) = true) (hl:keys.length = values.length) (h0:keys ≠ [])
  (h15:keys.length<=15):PDE X (.Dict keys values pos) (tR X.w trs):=by
 intro pins s σ H Q I ⟨ρ,M,Q',re,hm,q,k⟩
 have hn:=I.hok.fresh (Nat.le_refl s.heap.objs.size)
 have big:sysModules < s.heap.objs.size:=Nat.lt_trans (by decide) (I.mod.glob.keeps I.bk).lt
 have I1:=I.laid (a:=s.heap.objs.size) (o:=.ext (kE s.heap.objs.size [])) (h':=s.heap.push { cls:=.type "dict",data:=.dict #[] }) (t':=s.toks) (fun _ _ q=>Heap.get?_push_of_some _ q) (Nat.le_refl _)
  (uR ⟨beq_eq_false_iff_ne.mpr (Ne.symm (Nat.ne_of_lt big)),Nat.zero_le _,0,Heap.get?_push_size _ rfl⟩)
 have e0:=Ext.new hn (.ext (kE s.heap.objs.size []))
 refine wpAny_Dict_any hall hl h0 h15 (thn (h pins _ σ ρ _ _ _ I1 (re.ext e0) (hm.knew hn .nil) (q _ (hm.freshD hn))) fun vs s2 ⟨ps,H2,M2,I2,rel,hm2,e2,h2,kvs,eps,nd,hz,q2⟩=>?_)
 subst eps
 refine qA (kvs:=[]) I2 hm2 h2 nd (by rw [List.length_nil];omega) rel fun H3 s3 I3 hm3 e3=>?_
 exact ⟨.ref _,H3,I3,rfl,k _ _ ⟨.ref _,_,eB,hm3,(e0.trans e2).trans e3,q2⟩⟩
end
end Dd
namespace Dd
open PySem PySem.Spec PyProof.Rows L2
section
variable {X:Cx} {pins:List (Addr × Obj)} {σ:L2.St} {H:Hp} {s:Shared}
end
section
variable {X:Cx} {pos:Pos}
end
end Dd
namespace Dd
open PySem PySem.Spec PyProof.Rows L2
noncomputable def FK (K:PySem.W.Frag) (x:Str) (f:Addr) (st:Stmt):Prop:=PySem.W.nsIn K mainGlobals x = some (some (.ref f))/\∃ fd,L2.Fun K x x st f fd
theorem FK.has {K:PySem.W.Frag} {mg:Str->Option Value} {h:Heap} {x:Str} {f:Addr} {st:Stmt} {ps:List Str} (b:FK K x f st) (X:K.In h) (G:h.Ns mainGlobals mg)
  (r:∀ (kV doc pm:Value) (an:Option Addr) (cdv ct:Value) (us:List Value),us.length = ps.length->bindArgs (PySem.W.fnOf x x (jG st) (dO st) (aJ st) .none kV doc pm an cdv ct) ⟨us,[]⟩ = pure (ps.zip us)):cZ K mg x st ps :=
 let ⟨a,_,F⟩:=b;⟨_,_,F,PySem.W.mg_of X G a,F.binds r⟩
end Dd
namespace Dd
open PySem PySem.Spec PyProof.Rows L2
section
variable {X:Cx} {pos:Pos} {st:Stmt} {t1 t2:DS} {iter tg:Expr} {body:List Stmt} {tl:DE} {g:DG} {tb:DS}
theorem PDS.or (h1:PDS X st t1) (h2:PDS X st t2):PDS X st (fun E ρ M=>t1 E ρ M ∨ t2 E ρ M) :=
 fun a b c d e f ⟨ρ,M,Dn,re,hm,q,k⟩=>q.elim (fun q=>h1 a b c d e f ⟨ρ,M,Dn,re,hm,q,k⟩) fun q=>h2 a b c d e f ⟨ρ,M,Dn,re,hm,q,k⟩
end
end Dd
namespace Dd
open PySem PySem.Spec PyProof.Rows L2
section
variable {X:Cx} {pos:Pos} {st:Stmt} {t1 t2:DS} {iter tg:Expr} {body:List Stmt} {tl:DE} {g:DG} {tb:DS}
end
end Dd
namespace Dd
open PySem PySem.Spec PyProof.Rows L2 Mz
section
variable {prog:Program} {w:World} {A:Around} {I S:Addr} {fp wr:List Addr} {n:Nat} {P:Nat->Value->Prop} {St:Nat->Heap->Prop} {R:Result->Shared->Prop} {dv:Value}
end
section
variable {prog:Program} {w:World} {A:Around} {E:Value->Shared->Prop} {s:Shared} {l:Addr} {xs:Array (Int × Tok)} {dv:Value}
end
section
variable {X:Cx} {pos p kp:Pos} {e d:Expr} {te td:DE}
end
section
variable {X:Cx} {pos:Pos} {iter tg:Expr} {body:List Stmt} {te:DE}
end
end Dd
namespace Dd
open PySem PySem.Spec PyProof.Rows L2
section
variable {prog:Program} {w:World} {A:Around} {I S:Addr} {fp wr:List Addr} {n:Nat} {P:Nat->Value->Prop} {St:Nat->Heap->Prop} {R:Result->Shared->Prop} {dv:Value}
end
section
variable {prog:Program} {w:World} {A:Around} {E:Value->Shared->Prop} {s:Shared} {l:Addr} {xs:Array (Int × Tok)} {dv:Value}
end
section
variable {X:Cx} {pos p kp:Pos} {e d:Expr} {te td:DE}
end
section
variable {X:Cx} {pos:Pos} {iter tg:Expr} {body:List Stmt} {te:DE}
end
end Dd
namespace Dd
open PySem PySem.Spec PyProof.Rows L2 Mz
section
variable {X:Cx} {pos:Pos} {elt iter tg cnd:Expr} {scope:Scope} {N':List Str} {fr:List (Option Nat)} {tl:DE} {oN:List Str} {osc:Scope} {g:DG} {tc:DT} {te:DE} {e:Expr} {t1 t2:DE}
end
end Dd
namespace Dd
open PySem PySem.Spec PyProof.Rows L2
section
variable {X:Cx} {pos:Pos} {elt iter tg cnd:Expr} {scope:Scope} {N':List Str} {fr:List (Option Nat)} {tl:DE} {oN:List Str} {osc:Scope} {g:DG} {tc:DT} {te:DE} {e:Expr} {t1 t2:DE}
end
end Dd
namespace Dd
open PySem PySem.Spec PyProof.Rows L2 Mz
section
variable {X:Cx} {a:Expr} {e:Expr} {es:List Expr} {t:DA} {f n cm:Str} {ps:List Str} {sp:DSp} {cond:List D->DM->Prop} {C Cm:Addr} {k1 k2 k j:Nat} {ts:Addr->DS} {b0:Stmt} {suite:List Stmt} {pf pc pa pcm ph pos:Pos}
end
noncomputable def aAh (b:Bool) (j:Nat) (a:Addr):DE:=fun ρ M Q=>ρ[j]? = some (some (.ref a))/\Q (.bl b) M
section
variable {X:Cx} {n c:Str} {C Cc a:Addr} {o:Obj} {p p1 p2 pos:Pos} {j:Nat}
end
noncomputable def aEJ (t1 t2:DS):DS:=fun E ρ M=>t1 E ρ M ∨ t2 E ρ M
section
variable {X:Cx} {st:Stmt} {t1 t2:DS}
theorem aGF (h1:PDS X st t1) (h2:PDS X st t2):PDS X st (aEJ t1 t2):=PDS.or h1 h2
end
section
variable {prog:Program} {w:World} {A:Around} {E:Value->Shared->Prop} {s:Shared}
end
section
variable {X:Cx}
end
noncomputable def aF6 (i:Nat) (te:DE):DS:=fun E ρ M=>match ρ[i]? with
 | some (some d)=>te ρ M fun y M1=>aAg d y M1 fun r M2=>E.nx (ρ.set i (some r)) M2
 | _=>False
section
variable {X:Cx} {e:Expr} {te:DE} {x:Str} {pos:Pos}
end
end Dd
namespace Dd
open PySem PySem.Spec PyProof.Rows L2
section
variable {X:Cx} {a:Expr} {e:Expr} {es:List Expr} {t:DA} {f n cm:Str} {ps:List Str} {sp:DSp} {cond:List D->DM->Prop} {C Cm:Addr} {k1 k2 k j:Nat} {ts:Addr->DS} {b0:Stmt} {suite:List Stmt} {pf pc pa pcm ph pos:Pos}
end
section
variable {X:Cx} {n c:Str} {C Cc a:Addr} {o:Obj} {p p1 p2 pos:Pos} {j:Nat}
end
section
variable {X:Cx} {st:Stmt} {t1 t2:DS}
theorem aAJ (h1:ZS X st t1) (h2:ZS X st t2):ZS X st (aEJ t1 t2):=.i (aGF h1.o h2.o)
end
section
variable {prog:Program} {w:World} {A:Around} {E:Value->Shared->Prop} {s:Shared}
end
section
variable {X:Cx}
end
section
variable {X:Cx} {e:Expr} {te:DE} {x:Str} {pos:Pos}
end
end Dd
namespace Dd
open PySem PySem.Spec PyProof.Rows L2 Mz
section
variable {prog:Program} {w:World} {A:Around} {E:Value->Shared->Prop} {s:Shared}
end
noncomputable def aF3:DSp:=fun ds M Q=>match ds with
 | [.tup [.int a,.int b]]=>Q (.int (if b > a then b else a)) M
 | _=>False
section
variable {X:Cx}
end
end Dd
namespace Dd
open PySem PySem.Spec PyProof.Rows L2 Mz
section
variable {X:Cx} {o e:Expr} {to te:DE} {pos:Pos}
noncomputable def zL (to te:DE):DE:=fun ρ M Q=>to ρ M fun x M1=>match x with
 | .ref p=>(∃ ds,M1 p = some ds)/\hG te oP ρ M1 fun ys M2=>∃ ds y,ys = [y]/\M2 p = some ds/\ds.length < 10000000/\Q .non (cW M2 p (ds ++ [y]))
 | _=>False
noncomputable def aA6 (to te:DE):DE:=fun ρ M Q=>to ρ M fun x M1=>match x with
 | .ref p=>(∃ ds,M1 p = some ds)/\hG te oP ρ M1 fun ys M2=>∃ ds q es,ys = [.ref q]/\M2 p = some ds/\M2 q = some es/\ds.length + es.length<=10000000/\Q .non (cW M2 p (ds ++ es))
 | _=>False
end
section
variable {X:Cx} {pos:Pos}
noncomputable def aEl:D2:=fun x y M Q=>match x,y with
 | .tup ds,.int k=>-(2 ^ 62)<=k/\k < 2 ^ 62/\ds.length * k.toNat<=10000000/\Q (.tup (List.replicate k.toNat ds).flatten) M
 | _,_=>False
noncomputable def aBh:D2:=fun x y M Q=>match x,y with
 | .tup xs,.tup ys=>xs.length + ys.length<=10000000/\Q (.tup (xs ++ ys)) M
 | _,_=>False
end
section
variable {X:Cx}
end
noncomputable def aET (i:Nat) (te:DE):DS:=fun E ρ M=>match ρ[i]? with
 | some (some d)=>te ρ M fun y M1=>aBh d y M1 fun r M2=>E.nx (ρ.set i (some r)) M2
 | _=>False
section
variable {X:Cx} {e:Expr} {te:DE} {x:Str} {pos:Pos}
end
end Dd
namespace Dd
open PySem PySem.Spec PyProof.Rows L2
section
variable {X:Cx} {o e:Expr} {to te:DE} {pos:Pos}
end
section
variable {X:Cx} {pos:Pos}
end
section
variable {X:Cx}
end
section
variable {X:Cx} {e:Expr} {te:DE} {x:Str} {pos:Pos}
end
end Dd
namespace Dd
open PySem PySem.Spec PyProof.Rows L2 Mz
open PySem.W (InstAt findIn clsIn takerIn mroIn looks_findIn looks_clsIn looks_mroIn)
open PySem.Builtin PySem.Builtin.ObjectAttr
noncomputable def aCO:List Value->Bool
 | .ref _ :: r=>aCO r
 | l=>l == bmV
theorem oA (self:Value):∀ {l:List Value},aCO l = true->refuseLoop self "__setattr__" l = pure ()
 | .ref c :: r,e=>by rw [refuseLoop_ref];exact oA self (l:=r) e
 | [],e=>by cases (show (([]:List Value) == bmV) = true from e)
 | .none :: r,e=>by cases (show ((Value.none :: r) == bmV) = true from e)
 | .ellipsis :: r,e=>by cases (show ((Value.ellipsis :: r) == bmV) = true from e)
 | .notImplemented :: r,e=>by cases (show ((Value.notImplemented :: r) == bmV) = true from e)
 | .bool b :: r,e=>by cases (show ((Value.bool b :: r) == bmV) = true from e)
 | .int i t :: r,e=>by cases (show ((Value.int i t :: r) == bmV) = true from e)
 | .float i t :: r,e=>by cases (show ((Value.float i t :: r) == bmV) = true from e)
 | .str i t :: r,e=>by cases (show ((Value.str i t :: r) == bmV) = true from e)
 | .bytes i t :: r,e=>by cases (show ((Value.bytes i t :: r) == bmV) = true from e)
 | .builtin n :: r,e=>by cases (show ((Value.builtin n :: r) == bmV) = true from e)
 | .type n :: r,e=>by
  have z:(Value.type n :: r) = bmV:=beq_iff_eq.mp e
  rw [z]
  exact PySem.F.store_ValueError.passes self
structure oR (K:PySem.W.Frag) (C:Addr) (f:Str):Prop where
 sa:findIn K (.ref C) "__setattr__" = some (some (.builtin "object.__setattr__"))
 cd:∃ cd,clsIn K C = some cd/\aCO cd.mro = true/\cd.hasDict = true
 mo:mroIn K C (.type "object") = some true
 no:findIn K (.ref C) f = some none
section
variable {K:PySem.W.Frag} {prog:Program} {w:World} {A:Around} {E:Value->Shared->Prop} {s:Shared} {x C:Addr} {ox:Obj} {name:Str} {v:Value}
theorem aBQ {tk:Tok} {R:Result->Shared->Prop} (X:K.In s.heap) (I:InstAt s.heap x ox C none) (hk:oR K C name)
  (h:∀ b,wpAny (model prog w) A.in1 (storeInOwnDict (.ref x) (.ref C) (.str name tk) name v b)
   (fun fin s'=>match fin with | .done f=>R (.ok f) s' | .again c'=>c'.quiet = true/\codeAny (model prog w) A c' R s') (fun e s'=>R (.error e) s') s) :
  codeAny (model prog w) A (.call (.builtin "object.__setattr__") ⟨[.ref x,.str name tk,v],[]⟩) R s:=by
 have SF:=PySem.F.store_object
 obtain ⟨cd,hc,ho,_⟩:=hk.cd
 have sub:PySem.W.Looks (model prog w) s.heap (isInstance (.ref x) (.type "object")) true:=I.type.andThen (looks_mroIn X hk.mo)
 refine codeAny_call_builtin SF.slot.plain SF.entry (@PySem.W.check_slot (model prog w) _ _ s "object.__setattr__" "object" "__setattr__" (.ref x) [.str name tk,v] [] _ SF.kind SF.split sub (SF.args (.ref x) (.str name tk) v) ?_)
 have hm:PySem.W.Looks (model prog w) s.heap (mroOf (.ref C)) cd.mro:=(looks_clsIn X hc).andThen .now
 rw [PySem.W.osa_eq,refuse_eq]
 refine wpAny_bind (wpAny_bind (I.type.here (wpAny_bind (hm.here ?_))))
 rw [oA _ ho]
 exact wpAny_pure (wpAny_bind (I.type.here (wpAny_bind ((looks_findIn X hk.no).here (wpAny_bind (wpAny_pure (h _)))))))
theorem aFu {Q:Unit->Shared->Prop} (X:K.In s.heap) (I:InstAt s.heap x ox C none) (hk:oR K C name) (hd:ox.dict = none)
  (h:∀ h' tk oD,h'.get? s.heap.objs.size = some oD->h'.Ns1 s.heap.objs.size (fun y=>if y = name then some v else none)->h'.get? x = some { ox with dict:=some s.heap.objs.size }->(∀ b o,b ≠ x->s.heap.get? b = some o->h'.get? b = some o)->Q () { s with heap:=h',toks:=tk }) :
  wpAny (model prog w) A (setAttr (.ref x) name v) Q E s:=by
 refine PySem.W.set_plain X I hk.sa (aBQ (s:={ s with toks:=s.toks + 1 }) X I hk fun b=>?_)
 obtain ⟨cd,hc,_,hcd⟩:=hk.cd
 obtain ⟨hx,hcl,hn,-⟩:=I
 obtain ⟨hh,g,d,t,os⟩:=s
 obtain ⟨oc,odi,oda,osl⟩:=ox
 dsimp only at hcl hd hx h
 subst hcl hd
 have hxs:x ≠ hh.objs.size:=Nat.ne_of_lt (Heap.lt_size hx)
 refine wpAny_bind (wpAny_pure (wpAny_bind (wpAny_bind (wpAny_loadPart hx (wpAny_bind (PySem.W.Looks.here (s:=⟨hh,g,d,t + 1,os⟩) (looks_clsIn X hc) ?_))))))
 rw [hcd]
 have nc:∀ c,oda ≠ .cls c:=fun c z=>by
  unfold PySem.W.notCls at hn
  rw [z] at hn;cases hn
 rw [if_neg (by decide)]
 dsimp only
 rw [if_neg (by simp [typeHasDict])]
 split
 ·exact absurd rfl (nc _)
 have hx1:(hh.push { cls:=.type "dict",data:=.dict #[] }).get? x = some ⟨.ref C,none,oda,osl⟩:=Heap.get?_push_of_some _ hx
 refine wpAny_bind (wpAny_alloc' (wpAny_bind (wpAny_update' hx1 (wpAny_pure ?_))))
 have hgd:((hh.push { cls:=.type "dict",data:=.dict #[] }).update x fun o=>{ cls:=o.cls,dict:=some hh.objs.size,data:=o.data,slots:=o.slots }).get? hh.objs.size = some { cls:=.type "dict",data:=.dict #[] } :=
  (Heap.get?_update_ne _ _ _ _ (Ne.symm hxs)).trans (Heap.get?_push_at rfl rfl)
 have hgx:((hh.push { cls:=.type "dict",data:=.dict #[] }).update x fun o=>{ cls:=o.cls,dict:=some hh.objs.size,data:=o.data,slots:=o.slots }).get? x = some ⟨.ref C,some hh.objs.size,oda,osl⟩:=by
  refine Heap.get?_update_self _ hx1 ?_
  have hfr:=(Heap.get?_some_iff.mp hx).2
  cases oda<;>first | rfl | exact hfr
 have hgb:∀ b o,b ≠ x->hh.get? b = some o->((hh.push { cls:=.type "dict",data:=.dict #[] }).update x fun o=>{ cls:=o.cls,dict:=some hh.objs.size,data:=o.data,slots:=o.slots }).get? b = some o:=fun b o n e =>
  (Heap.get?_update_ne _ _ _ _ n).trans (Heap.get?_push_of_some _ e)
 generalize (hh.push { cls:=.type "dict",data:=.dict #[] }).update x _ = h1 at hgd hgx hgb ⊢
 have hnd:h1.Ns hh.objs.size (fun _=>none):=⟨_,#[],_,hgd,rfl,fun e he=>absurd he (by simp),fun _=>rfl⟩
 show wpAny _ _ (storeInDict hh.objs.size (.str name t) name v) _ _ _
 unfold storeInDict newKeyGuard
 refine wpAny_bind (wpAny_pure (wpAny_bind (wpAny_nsSet1 (Heap.Ns1.of_empty hnd) fun h' hn' hs=>?_)))
 obtain ⟨oD,esD,epD,hoD,hdD,hcD⟩:=hn'.count (PySem.Within.cons name v PySem.Within.nil)
 refine wpAny_bind (wpAny_lookBehind hoD (by rw [hdD];exact pastItsLine_dict (Nat.le_trans hcD (by rw [List.length_cons,List.length_nil,sizeLine_eq];omega))) ?_)
 wp_walk
 exact h h' _ oD hoD hn' ((hs.2 x hxs).trans hgx) fun b o n e=>(hs.2 b (Nat.ne_of_lt (Heap.lt_size e))).trans (hgb b o n e)
theorem aGy {expr:Bool} {oD:Obj} {Q:Value->Shared->Prop} (X:K.In s.heap) (I:InstAt s.heap x ox C (some oD)) (ek:nE K C) (hk:oR K C name) (hl:PySem.W.lookIn name oD = some (some v)) (hv:handedOut v = pure v)
  (h:∀ tk,Q v { s with toks:=tk }):wpAny (model prog w) A (getAttr (.ref x) name expr) Q E s:=by
 obtain ⟨hh,g,d,t,os⟩:=s
 obtain ⟨cd,hc,_,hcd⟩:=hk.cd
 have L0:=I.type (M:=model prog w)
 have L1:=looks_findIn (M:=model prog w) X ek.ga
 unfold getAttr getAttrBy
 refine wpAny_bind (wpAny_mkText ?_)
 refine wpAny_holding (wpAny_bind (L0.at (wpAny_bind (L1.at ?_))))
 have hx2:(onTheHeap (Value.ref C) && Value.builtin "BaseException.__getattribute__" == Value.builtin "object.__getattribute__") = false:=by
  rw [show (Value.builtin "BaseException.__getattribute__" == Value.builtin "object.__getattribute__") = false by decide +kernel,Bool.and_false]
 dsimp only
 rw [if_neg (by rw [hx2];exact Bool.false_ne_true)]
 have f3:=PySem.F.attr_ValueError.ga.bind (.ref x)
 have L2:=looks_findIn (M:=model prog w) X ek.gn
 have L3:=looks_mroIn (M:=model prog w) X ek.mb
 have hf:PySem.W.findObj K C (some oD) name = some (.value v):=by
  unfold PySem.W.findObj PySem.W.ownOf
  rw [hc,Option.bind_some,hk.no,Option.bind_some]
  simp [hcd,hl]
 have L4:=PySem.W.looks_find (M:=model prog w) X I hf
 unfold getAttrByItsOwn hookBefore callGetattribute
 refine wpAny_bind ?_
 rw [if_pos (show onTheHeap (Value.ref C) = true from rfl)]
 refine L2.at ?_
 refine wpAny_bind (wpAny_attempt (wpAny_holding ?_))
 rw [if_neg (by simp [onTheHeap])]
 unfold boundAndCalled
 rw [f3]
 refine wpAny_bind (wpAny_pure ?_)
 dsimp only [List.cons_append,List.nil_append]
 have hk1:builtinKind "BaseException.__getattribute__" = some .slot:=by decide +kernel
 have hsplit:splitId "BaseException.__getattribute__" = some ("BaseException","__getattribute__"):=by decide +kernel
 have ha:=PySem.F.args_bexc_ga (.ref x) (.str name t)
 refine wpAny_call (codeAny_call_builtin PySem.F.attr_ValueError.ga.plain PySem.F.entry_bexc_ga ?_)
 simp only [checkBuiltinCall,hk1,hsplit]
 refine wpAny_bind ?_
 unfold isInstance
 refine wpAny_bind (L0.at ?_)
 refine L3.at ?_
 simp only [Bool.not_true,Bool.false_eq_true,if_false]
 repeat (any_goals (first | assumption | (with_reducible refine L0.at ?_) | (with_reducible refine L4.at ?_) | wp_step))
 exact h _
end
noncomputable def hW (C t:Addr) (od:Option Addr):Obj:={ cls:=.ref C,dict:=od,data:=.fields #[.ref t,.none,.none,.none,.bool false,.none] }
noncomputable def XO (e C:Addr) (od:Option Addr):Heap->Prop:=fun h=>∃ t,h.get? e = some (hW C t od)
theorem aDe {P:Program} {w:World} {H:Hp} {h:Heap} {e C:Addr} {od:Option Addr} (x:XO e C od h):dM P w H h e (.ext (XO e C od)) :=
 ⟨x,let ⟨t,q⟩:=x;⟨_,q⟩,fun h1 h2 ⟨t,q⟩ k=>⟨t,k _ q⟩⟩
section
variable {X:Cx} {pins:List (Addr × Obj)} {σ:L2.St} {H:Hp} {s:Shared} {e C:Addr} {f:Str} {y:V} {u:Value}
noncomputable def delH (H:Hp) (e:Addr):Hp:=fun b=>if b = e then none else H b
theorem kX:delH H e e = none:=if_pos rfl
theorem fH {b:Addr} (h:b ≠ e):delH H e b = H b:=if_neg h
theorem _root_.L2.Inv.drop {φ:Heap->Prop} (I:Inv X pins σ H s) (h:H e = some (.ext φ)):Inv X pins σ (delH H e) s:=by
 have out:∀ b o,delH H e b = some o->b ≠ e/\H b = some o:=fun b o q=>by
  by_cases z:b = e
  ·rw [z,kX] at q;cases q
  ·rw [fH z] at q;exact ⟨z,q⟩
 have sub:∀ b,H b = none->delH H e b = none:=fun b q=>by
  unfold delH;split
  ·rfl
  ·exact q
 have nt:∀ b o,H b = some o->(∀ φ,o ≠ .ext φ)->delH H e b = some o:=fun b o q n=>by
  rw [fH (fun z=>by rw [z,h] at q;exact n φ (Option.some.inj q).symm)];exact q
 refine ⟨I.ok,I.os,I.bare,⟨I.base.keep,I.base.slot,fun b o q n hx=>sub b (I.base.free b o q n hx),I.base.there,fun b xs q=>nt b _ (I.base.tups b xs q) (fun φ z=>by cases z),fun b o v q=>nt b _ (I.base.frzs b o v q) (fun φ z=>by cases z),fun b ps q=>?_⟩,I.loc,I.cell,sub _ I.free,fun x c q=>sub c (I.freeC x c q),fun p hp=>?_,fun b o q=>?_,I.len⟩
 ·obtain ⟨m,z⟩:=I.base.tbls b ps q
  exact ⟨m,nt b _ z fun φ z=>by cases z⟩
 ·obtain ⟨a1,a2,a3,a4,a5⟩:=I.pin p hp
  exact ⟨a1,sub _ a2,a3,a4,a5⟩
 ·obtain ⟨ne,q⟩:=out b o q
  refine (I.hok b o q).stay (fun _ _ _ z=>z) (fun c z=>nt c _ z fun φ y=>by cases y) fun c xs z=>nt c _ z fun φ y=>by cases y
theorem aCr {A:Around} {E:Value->Shared->Prop} {Q:Unit->Shared->Prop} (I:Inv X pins σ H s) (h0:H e = some (.ext (XO e C none))) (hk:oR X.K C f) (ry:bF y u)
  (h:∀ s' dx,H dx = none->dx ≠ e->Inv X pins σ (upd (upd H dx (.xd [(f,y)])) e (.ext (XO e C (some dx)))) s'->Q () s'):wpAny (model X.prog X.w) A (setAttr (.ref e) f u) Q E s:=by
 obtain ⟨⟨t,he⟩,_,_⟩:=I.hok e _ h0
 have ia:InstAt s.heap e (hW C t none) C none:=⟨he,rfl,rfl,trivial⟩
 refine aFu I.kIn ia hk rfl fun h' tk oD hoD hns hx hb=>?_
 have hlt:e < s.heap.objs.size:=Heap.lt_size he
 have hne:s.heap.objs.size ≠ e:=Nat.ne_of_gt hlt
 have hn:H s.heap.objs.size = none:=I.hok.fresh (Nat.le_refl _)
 have nf:oD.isFreed = false:=(Heap.get?_some_iff.mp hoD).2
 have pg:(s.heap.push oD).get? s.heap.objs.size = some oD:=Heap.get?_push_size _ nf
 have n1:(s.heap.push oD).Ns1 s.heap.objs.size (fun z=>if z = f then some u else none):=by
  obtain ⟨o',es,ep,q1,q2⟩:=hns
  rw [hoD] at q1
  cases q1
  exact ⟨oD,es,ep,pg,q2⟩
 have rel:∀ g,aCl (([(f,y)]:List (Str × V)).lookup g) (if g = f then some u else none):=fun g=>by
  by_cases z:g = f
  ·subst z
   rw [if_pos rfl,List.lookup_cons,beq_self_eq_true]
   exact ry
  ·rw [if_neg z,List.lookup_cons,beq_eq_false_iff_ne.mpr z]
   exact trivial
 have I1:Inv X pins σ (upd H s.heap.objs.size (.xd [(f,y)])) { s with heap:=s.heap.push oD,toks:=tk } :=
  I.laid (fun b v q=>Heap.get?_push_of_some _ q) (Nat.le_refl _) ⟨_,n1,rel⟩
 have e1:upd H s.heap.objs.size (.xd [(f,y)]) e = some (.ext (XO e C none)):=by rw [bB (Ne.symm hne)];exact h0
 have I2:=I1.write (h':=h') (t':=tk) (x:=e) (e:=e) (o:=.ext (XO e C (some s.heap.objs.size))) (by rw [e1];trivial) (.inl rfl) (fun b v nb q=>?_) ⟨_,hx⟩ (aDe ⟨t,hx⟩)
 ·exact h _ _ hn hne I2
 ·by_cases z:b = s.heap.objs.size
  ·rw [z,pg] at q
   cases q
   rw [z];exact hoD
  ·rw [Heap.get?_push_ne _ _ _ z] at q
   exact hb b v nb q
end
end Dd
namespace Dd
open PySem PySem.Spec PyProof.Rows L2 Mz
open PySem.W (InstAt findIn clsIn takerIn mroIn looks_findIn looks_clsIn looks_mroIn)
noncomputable def aGP (K:PySem.W.Frag) (ta tv:TE) (f:Str):TS:=fun D σ H=>tv σ H fun y H1=>ta σ H1 fun x H2=>∃ e C,x = .ref e/\H2 e = some (.ext (XO e C none))/\oR K C f/\∀ dx,H2 dx = none->dx ≠ e->D.nx σ (upd (upd H2 dx (.xd [(f,y)])) e (.ext (XO e C (some dx))))
section
variable {X:Cx} {o value:Expr} {f:Str} {pos pos':Pos} {ta tv:TE}
theorem aCR (ha:PE X o ta) (hv:PE X value tv) (hs:swapsWith value (some (.Attribute o f pos')) pos.line X.env = pure false):PS X (.Assign [.Attribute o f pos'] value pos) (aGP X.K ta tv f):=by
 intro pins s σ H D I h
 refine plainObj_wpAny_Assign_Attribute (thn (hv pins s σ H _ I h) fun u s1 ⟨y,H1,I1,ry,q⟩=>thn (ha pins s1 σ H1 _ I1 q) fun ov s2 ⟨x,H2,I2,rx,e,C,ex,ea,fk,q2⟩=>?_) hs
 subst ex
 obtain rfl:ov = Value.ref e:=rx
 exact aCr I2 ea fk ry fun s3 dx n1 n2 I3=>⟨σ,_,I3,q2 dx n1 n2⟩
end
noncomputable def spI (C:Addr) (f:Str):Sp:=fun vs H Q _=>∃ e y,vs = [.ref e,y]/\H e = some (.ext (XO e C none))/\∀ dx,H dx = none->dx ≠ e->Q .non (upd (upd H dx (.xd [(f,y)])) e (.ext (XO e C (some dx))))
section
variable {P:Program} {w:World} {K:PySem.W.Frag} {mg:Str->Option Value} {base:Heap}
theorem aBR {x qual a b f:Str} {st:Stmt} {fI C:Addr} {fd:FuncData} {p1 p2 p3 p4:Pos} (F:L2.Fun K x qual st fI fd) (S:aT [a,b] [a,b] (aJ st)) (fk:oR K C f)
  (hb:dO st = [.Assign [.Attribute (.Name a p1) f p2] (.Name b p3) p4]) (va:Vis (aJ st) a) (vb:Vis (aJ st) b) (da:(a == ("__debug__":Str)) = false) (da':(a == ("__classdict__":Str)) = false) (db:(b == ("__debug__":Str)) = false) (db':(b == ("__classdict__":Str)) = false)
  (hs:∀ env:Env,swapsWith (.Name b p3) (some (.Attribute (.Name a p1) f p2)) p4.line env = pure false) (k:Nat):jD P w K mg base CX0 (k + 1) fI fd [a,b] (spI C f):=by
 refine F.ok S (fun vs H Q E ⟨e,y,z,_⟩=>by rw [z];rfl) fun cdv A outer s H vs Q E hr ⟨e,y,z,he,q⟩=>?_
 subst z
 rw [hb]
 exact ⟨_,xK (aCR (nF (i:=0) rfl va da da') (nF (i:=1) rfl vb db db') (hs _)),_,rfl,_,rfl,e,C,rfl,he,fk,q⟩
end
section
variable {prog:Program} {w:World} {A:Around} {E:Value->Shared->Prop} {s:Shared} {K:PySem.W.Frag}
variable {nm qn:Str} {C N fI:Addr} {bs bm:List Value} {hdct:Bool} {sn:List Str} {sub:List Value} {ab:Bool} {col:Option Bool} {dd:Option Addr} {k0 k1 k2 k3 k5:Option Value}
theorem aC2 {us:List Value} {Q:Value->Shared->Prop} (X:K.In s.heap) (T:OwnTail s.heap bmV bm) (cC:s.heap.get? C = some (excClassObj nm qn C N bs bm hdct sn sub ab col dd k0 k1 k2 k3 k5 "ValueError.__new__"))
  (hi:findIn K (.ref C) "__init__" = some (some (.ref fI))) (hf:PySem.W.typeIn K (.ref fI) = some (.type "function")) (hl:us.length<=sizeLine)
  (hq:wpAny (model prog w) (A.under (.builtin "type.__call__" ⟨.ref C :: us,[]⟩)) (call (.ref fI) (.ref (s.heap.objs.size + 1) :: us)) (fun r s'=>r = .none/\Q (.ref (s.heap.objs.size + 1)) s') E { s with heap:=(s.heap.push { cls:=.type "tuple",data:=.seq us.toArray }).push (hW C s.heap.objs.size none) }) :
  wpAny (model prog w) A (call (.ref C) us) Q E s:=by
 obtain ⟨hh,g,d,t,os⟩:=s
 have FB:=PySem.F.excBase_ValueError
 have g1:=tc_lookup
 have g2:=tc_bind (.ref C)
 have hT:(⟨hh,g,d,t,os⟩:Shared).TypeIs (.ref C) "type":=⟨_,cC,rfl⟩
 refine wpAny_call (codeAny_of_tree ?_)
 show wpAny _ _ (callAny (.ref C) _) _ _ _
 repeat (any_goals (first | assumption | (with_reducible refine wpAny_loadPart_at cC ?_) | wp_step))
 refine ⟨rfl,codeAny_call_builtin_at (Code.quiet_builtin _ (by decide +kernel)) entry_typeCall (wpAny_check_type_call_sub cC ?_)⟩
 repeat (first | (with_reducible refine wpAny_loadPart_at cC ?_) | (with_reducible refine wpAny_madeBy_exc cC ?_) | wp_step)
 refine codeAny_call_builtin_code (Code.quiet_builtin _ FB.quiet) (wpAny_check_new_subT FB T cC (codeAny_exc_new_subT FB T cC ?_ hl))
 show wpAny _ _ _ _ _ _
 have kp:∀ b o,hh.get? b = some o->((hh.push { cls:=.type "tuple",data:=.seq us.toArray }).push (hW C hh.objs.size none)).get? b = some o:=fun b o e=>Heap.get?_push_of_some _ (Heap.get?_push_of_some _ e)
 have X2:K.In ((hh.push { cls:=.type "tuple",data:=.seq us.toArray }).push (hW C hh.objs.size none)):=PySem.W.Frag.In.keeps (h:=hh) X kp
 have hg:((hh.push { cls:=.type "tuple",data:=.seq us.toArray }).push (hW C hh.objs.size none)).get? (hh.objs.size + 1) = some (hW C hh.objs.size none):=by
  have:=Heap.get?_push_size (hh.push { cls:=.type "tuple",data:=.seq us.toArray }) (o:=hW C hh.objs.size none) rfl
  rwa [Heap.size_push] at this
 have ia:InstAt ((hh.push { cls:=.type "tuple",data:=.seq us.toArray }).push (hW C hh.objs.size none)) (hh.objs.size + 1) (hW C hh.objs.size none) C none:=⟨hg,rfl,rfl,trivial⟩
 have cC2:=kp _ _ cC
 have L0:PySem.W.Looks (model prog w) ((hh.push { cls:=.type "tuple",data:=.seq us.toArray }).push (hW C hh.objs.size none)) (isInstance (.ref (hh.objs.size + 1)) (.ref C)) true:=by
  refine ia.type.andThen ?_
  intro A' Q' E' s' k' q'
  have:=wpAny_isSubtype_exc (M:=model prog w) (A:=A') (E:=E') (g:=s'.gens) (d:=s'.drawn) (t:=s'.toks) (os:=s'.os) (base:=.ref C) (Q:=Q') (k' _ _ cC2) (by rw [show (Value.ref C :: bm).contains (.ref C) = true by simp];exact q')
  exact this
 refine wpAny_bind (PySem.W.Looks.here (s:=⟨(hh.push { cls:=.type "tuple",data:=.seq us.toArray }).push (hW C hh.objs.size none),g,d,t,os⟩) L0 ?_)
 rw [if_neg (by decide)]
 refine wpAny_bind (wpAny_holding (PySem.W.special_fn (s:=⟨(hh.push { cls:=.type "tuple",data:=.seq us.toArray }).push (hW C hh.objs.size none),g,d,t,os⟩) X2 ia hi hf (wpAny_mono hq (fun r s' ⟨e1,q1⟩=>?_) fun e s' z=>z)))
 subst e1
 exact wpAny_pure q1
end
end Dd
namespace Dd
open PySem PySem.Spec PyProof.Rows L2 Mz
open PySem.W (InstAt findIn clsIn takerIn mroIn looks_findIn looks_clsIn looks_mroIn)
noncomputable def NwY (od:Option Addr) (h:Heap) (e:Addr) (cls:Value):Prop:=∃ oe vs,h.get? e = some oe/\(oe.cls = cls/\oe.dict = od)/\oe.data = .fields vs/\vs[1]? = some Value.none
noncomputable def TrY (od:Option Addr) (h:Heap) (e:Addr) (cls:Value) (T:Addr) (fl:Value):Prop :=
 ∃ oe vs oT ts,h.get? e = some oe/\(oe.cls = cls/\oe.dict = od)/\oe.data = .fields vs/\vs[1]? = some (.ref T)/\T ≠ e/\h.get? T = some oT/\oT.data = .fields ts/\ts[3]? = some fl
section
variable {X:Cx} {pins:List (Addr × Obj)} {σ:L2.St} {H:Hp} {s:Shared} {M:Model} {A:Around} {E:Value->Shared->Prop} {e T:Addr} {cls:Value} {od:Option Addr}
theorem qO {oe:Obj} {vs:Array Value} {head:Value} {hadNext:Bool} {Q:Unit->Shared->Prop} (I:Inv X pins σ H s) (hs:X.stack = X.env :: X.outer) (hf:X.env.frame = some X.env.locals) (hex:X.ex = [])
  (hA:A.frames = some X.stack) (he:s.heap.get? e = some oe) (hdi:oe.dict = od) (hd:oe.data = .fields vs) (hsz:1 < vs.size) (fe:FpN X pins H e)
  (h:∀ s' T,Inv X pins σ H s'->TrY od s'.heap e oe.cls T (rawInt X.env.locals)->FpN X pins H T->s.heap.get? T = none->Q () s') :
  wpAny M A (do let a <- frameOf X.env;let pl <- entryPlaceOf X.env.locals hadNext;let b <- EntryCells.newEntry head a .none (rawInt X.env.locals) .none pl;setField (.ref e) 1 b) Q E s:=by
 have hfr:A.frames = some (X.env :: X.outer):=by rw [hA,hs]
 have hl:s.heap.FunFrames X.base (X.env :: X.outer):=hs ▸ I.stack
 have hene:e ∉ (X.env :: X.outer).filterMap (·.frame):=fun hm=>by
  obtain ⟨_,o,ho,hnf⟩:=hl.mem hm
  rw [he] at ho;cases ho;exact hnf vs hd
 have hfs:frs X.stack = (X.env :: X.outer).filterMap (·.frame):=by rw [hs];rfl
 refine wpAny_bind (wpAny_frameOf_fun hfr hl hf fun h₁ hs₁=>?_)
 refine wpAny_bind (wpAny_entryPlaceOf fun pl hpl=>?_)
 unfold EntryCells.newEntry newFields
 refine wpAny_bind (wpAny_newObj_type ?_ (hpl.sizeOk5 _ _ _ _ _))
 have he₁:h₁.get? e = some oe:=(hs₁.2.1 e hene).trans he
 have he₂:=Heap.get?_push_of_some (h:=h₁) { cls:=.type "traceback",dict:=none,data:=.fields ([head,.ref X.env.locals,.none,rawInt X.env.locals,.none] ++ (if pl.isEmpty then List.replicate 6 Value.none else pl)).toArray } he₁
 refine wpAny_setField he₂ hd hsz ?_
 have hTe:h₁.objs.size ≠ e:=Nat.ne_of_gt (Heap.lt_size he₁)
 have hd₃:=Obj.data_mapFields hd (·.setIfInBounds 1 (Value.ref h₁.objs.size))
 have he₃:=Heap.get?_update_self (Obj.mapFields (·.setIfInBounds 1 (Value.ref h₁.objs.size))) he₂ (Obj.isFreed_of_fields hd₃)
 have hT₃:=(Heap.get?_update_other (h₁.push { cls:=.type "traceback",dict:=none,data:=.fields ([head,.ref X.env.locals,.none,rawInt X.env.locals,.none] ++ (if pl.isEmpty then List.replicate 6 Value.none else pl)).toArray })
  (Obj.mapFields (·.setIfInBounds 1 (Value.ref h₁.objs.size))) (Ne.symm hTe)).trans (Heap.get?_push_size h₁ rfl)
 have hTn:s.heap.get? h₁.objs.size = none:=Heap.get?_none_of_le (by rw [hs₁.1];exact Nat.le_refl _)
 refine h _ h₁.objs.size (L2.Inv.mark (s:=s) (ch:=[e]) I (fun b hb=>by rw [List.mem_singleton.mp hb];exact fe) (fun b o hb hc q=>?_) fun b o hc q=>?_) ?_ (L2.Inv.fpN (s:=s) I hex hTn (L2.Inv.untr (s:=s) I hTn)) hTn
 ·have hbe:b ≠ e:=fun z=>hc (by simp [z])
  rw [Heap.get?_update_other _ _ (Ne.symm hbe)]
  exact Heap.get?_push_of_some _ ((hs₁.2.1 b (by rw [<- hfs];exact hb)).trans q)
 ·have hbe:b ≠ e:=fun z=>hc (by simp [z])
  obtain ⟨sl,z⟩:=hs₁.2.2 b o q
  exact ⟨sl,by rw [Heap.get?_update_other _ _ (Ne.symm hbe)];exact Heap.get?_push_of_some _ z⟩
 ·exact ⟨_,_,_,_,he₃,⟨Obj.cls_mapFields _ _,(qQ _ _).trans hdi⟩,hd₃,by simp [hsz],hTe,hT₃,rfl,by first | (simp;done) | (rcases hpl with rfl | ⟨_,_,_,_,_,_,_,rfl⟩<;>simp)⟩
theorem zA {Q:Unit->Shared->Prop} (I:Inv X pins σ H s) (hs:X.stack = X.env :: X.outer) (hf:X.env.frame = some X.env.locals) (hex:X.ex = []) (hA:A.frames = some X.stack) (n:NwY od s.heap e cls) (fe:FpN X pins H e)
  (h:∀ s' T,Inv X pins σ H s'->TrY od s'.heap e cls T (rawInt X.env.locals)->FpN X pins H T->s.heap.get? T = none->Q () s'):wpAny M A (noteFrame (.ref e) X.env) Q E s:=by
 obtain ⟨oe,vs,he,⟨rfl,hdi⟩,hd,h1⟩:=n
 unfold noteFrame
 simp only [hf]
 refine wpAny_bind (wpAny_field he hd h1 ?_)
 rw [if_neg (by decide)]
 exact qO I hs hf hex hA he hdi hd (Array.getElem?_eq_some_iff.mp h1).1 fe h
theorem gW {fl:Value} {Q:Unit->Shared->Prop} (I:Inv X pins σ H s) (t:TrY od s.heap e cls T fl) (fT:FpN X pins H T) (h:∀ s',Inv X pins σ H s'->TrY od s'.heap e cls T .none->Q () s'):wpAny M A (setFlight (.ref e) none) Q E s:=by
 obtain ⟨oe,vs,oT,ts,he,hcls,hd,h1,hTe,hT,hdT,h3⟩:=t
 have hsz3:3 < ts.size:=(Array.getElem?_eq_some_iff.mp h3).1
 unfold setFlight
 refine wpAny_bind (wpAny_field he hd h1 ?_)
 rw [if_pos (show (Value.ref T != Value.none) = true from by simp)]
 refine wpAny_setField hT hdT hsz3 (h _ (wS (ts:=ts) I fT hT) ?_)
 exact ⟨oe,vs,_,_,(Heap.get?_update_other _ _ hTe).trans he,hcls,hd,h1,hTe,Heap.get?_update_self _ hT (Obj.isFreed_of_fields (Obj.data_mapFields hdT _)),Obj.data_mapFields hdT _,by simp [hsz3]⟩
theorem qS {Q:Unit->Shared->Prop} (I:Inv X pins σ H s) (hs:X.stack = X.env :: X.outer) (hf:X.env.frame = some X.env.locals) (hex:X.ex = []) (hA:A.frames = some X.stack) (t:TrY od s.heap e cls T .none) (fe:FpN X pins H e) (fT:FpN X pins H T)
  (h:∀ s' T',Inv X pins σ H s'->TrY od s'.heap e cls T' (rawInt X.env.locals)->FpN X pins H T'->Q () s'):wpAny M A (noteFrame (.ref e) X.env) Q E s:=by
 obtain ⟨oe,vs,oT,ts,he,⟨rfl,hdi⟩,hd,h1,hTe,hT,hdT,h3⟩:=t
 unfold noteFrame
 simp only [hf]
 refine wpAny_bind (wpAny_field he hd h1 ?_)
 rw [if_pos (show (Value.ref T != Value.none) = true from by simp)]
 refine wpAny_bind (wpAny_field hT hdT h3 ?_)
 rw [if_neg (show ¬ ((Value.none == rawInt X.env.locals) = true) from by simp [rawInt])]
 refine wpAny_bind (wpAny_setField hT hdT (Array.getElem?_eq_some_iff.mp h3).1 ?_)
 exact qO (wS (ts:=ts) I fT hT) hs hf hex hA ((Heap.get?_update_other _ _ hTe).trans he) hdi hd (Array.getElem?_eq_some_iff.mp h1).1 fe fun s' T' I' t' f' _=>h s' T' I' t' f'
theorem wC {Q:Unit->Shared->Prop} (I:Inv X pins σ H s) (hs:X.stack = X.env :: X.outer) (hf:X.env.frame = some X.env.locals) (hex:X.ex = []) (hA:A.frames = some X.stack) (n:NwY od s.heap e cls) (fe:FpN X pins H e)
  (h:∀ s' T,Inv X pins σ H s'->TrY od s'.heap e cls T .none->FpN X pins H T->s.heap.get? T = none->Q () s'):wpAny M A (leaving X.env (.ref e)) Q E s:=by
 unfold leaving
 exact wpAny_bind (zA I hs hf hex hA n fe fun s1 T I1 t1 f1 n1=>gW I1 t1 f1 fun s2 I2 t2=>h s2 T I2 t2 f1 n1)
theorem tZ {Q:Unit->Shared->Prop} (I:Inv X pins σ H s) (hs:X.stack = X.env :: X.outer) (hf:X.env.frame = some X.env.locals) (hex:X.ex = []) (hA:A.frames = some X.stack) (t:TrY od s.heap e cls T .none) (fe:FpN X pins H e) (fT:FpN X pins H T)
  (h:∀ s' T',Inv X pins σ H s'->TrY od s'.heap e cls T' .none->FpN X pins H T'->Q () s'):wpAny M A (leaving X.env (.ref e)) Q E s:=by
 unfold leaving
 exact wpAny_bind (qS I hs hf hex hA t fe fT fun s1 T1 I1 t1 f1=>gW I1 t1 f1 fun s2 I2 t2=>h s2 T1 I2 t2 f1)
end
noncomputable def CXy (P:Program) (w:World):CXT:=fun outer H s E e s'=>∃ (a:Addr) (cls:Value) (T:Addr) (H':Hp) (od:Option Addr),e = Value.ref a/\s'.os = s.os/\AllBare s'.gens/\Un (frs outer) [] H H' s.heap s'.heap/\HOk P w H' s'.heap /\
 TrY od s'.heap a cls T .none/\s.heap.get? a = none/\s.heap.get? T = none/\H' a = none/\H' T = none/\E cls od H'
structure kZ (P:Program) (w:World) (K:PySem.W.Frag) (mg:Str->Option Value) (base:Heap) (x:Str) (C:Addr) (f:Str):Prop where
 nm:mg x = some (.ref C)
 kp:PySem.W.keepIn K (.ref C) = true
 ob:∃ M nm qn N bs hdct sn sub ab col dd k0 k1 k2 k3 k5,K.lookup C = some (excClassObj nm qn C N bs (.ref M :: bmV) hdct sn sub ab col dd k0 k1 k2 k3 k5 "ValueError.__new__")/\PySem.W.excIn K M bmV "ValueError.__new__" = true/\∃ cdM,clsIn K M = some cdM/\cdM.mro = .ref M :: bmV
 init:∃ fI fd a b,findIn K (.ref C) "__init__" = some (some (.ref fI))/\PySem.W.typeIn K (.ref fI) = some (.type "function")/\jD P w K mg base CX0 1 fI fd [a,b] (spI C f)/\lE K fd [a,b] []
theorem kZ.tail {P:Program} {w:World} {K:PySem.W.Frag} {mg:Str->Option Value} {base h:Heap} {x f:Str} {C:Addr} (c:kZ P w K mg base x C f) (X:K.In h) :
  ∃ bm nm qn N bs hdct sn sub ab col dd k0 k1 k2 k3 k5,h.get? C = some (excClassObj nm qn C N bs bm hdct sn sub ab col dd k0 k1 k2 k3 k5 "ValueError.__new__")/\OwnTail h bmV bm:=by
 obtain ⟨M,nm,qn,N,bs,hdct,sn,sub,ab,col,dd,k0,k1,k2,k3,k5,lk,hq,cdM,hcM,hm⟩:=c.ob
 obtain ⟨bm,N',nm',qn',bs',hdct',sn',sub',ab',col',dd',l0,l1,l2,l3,l5,mN,hC,hN,hni,T⟩:=aCE X hq
 refine ⟨_,nm,qn,N,bs,hdct,sn,sub,ab,col,dd,k0,k1,k2,k3,k5,X _ _ lk,?_⟩
 have e:bm = bmV:=by
  unfold PySem.W.clsIn at hcM
  split at hcM
  ·rename_i q
   have z:=(X _ _ q).symm.trans hC
   cases hcM
   cases z
   exact List.cons.inj hm |>.2
  ·cases hcM
 subst e
 exact .own hC hN hni T
noncomputable def tY (X:Cx) (x:Str) (V:Int->DM->Prop):Prop:=X.calm = true/\X.ex = []/\∃ C f,kZ X.prog X.w X.K X.mg X.base x C f /\
 ∀ pins σ H s a M' dx i,Inv X pins σ H s->NwY (some dx) s.heap a (.ref C)->FpN X pins H a->bJ X.K M' H->H dx = some (.xd [(f,.int i)])->V i M'->X.xe (.ref a) s
noncomputable def aDs (V:Int->DM->Prop) (ds:List D) (M:DM):Prop:=match ds with
 | [.int i]=>V i M
 | _=>False
noncomputable def tK (V:Int->DM->Prop) (te:DE):DS:=fun _ ρ M=>hG te oP ρ M (aDs V)
theorem yP {K:PySem.W.Frag} {M:DM} {H H':Hp} (h:bJ K M H) (g:∀ b o,H b = some o->H' b = some o):bJ K M H':=by
 have ex:Ext H H':=⟨fun a ys e=>g a _ e,fun a ob u e=>g a _ e⟩
 exact ⟨fun a ds q=>let ⟨xs,z,r⟩:=h.l a ds q;⟨xs,g _ _ z,r.ext ex⟩,fun a ds q=>let ⟨xs,z,r⟩:=h.d a ds q;⟨xs,g _ _ z,eC r ex⟩⟩
section
variable {X:Cx} {pins:List (Addr × Obj)} {σ:L2.St} {H:Hp} {s:Shared} {x f:Str} {C:Addr} {k:Nat} {i:Int}
theorem zY {us:List Value} {Q:Value->Shared->Prop} (c:kZ X.prog X.w X.K X.mg X.base x C f) (hr:dN k X.A) (hk:2<=k) (hex:X.ex = []) (I:Inv X pins σ H s) (r:bM [V.int i] us)
  (h:∀ s' a t dx H',Inv X pins σ H' s'->s'.heap.get? a = some (hW C t (some dx))->FpN X pins H' a->H' dx = some (.xd [(f,.int i)])->(∀ b o,H b = some o->H' b = some o)->Q (.ref a) s') :
  wpAny (model X.prog X.w) X.A (call (.ref C) us) Q X.xe s:=by
 obtain ⟨bm,nm,qn,N,bs,hdct,sn,sub,ab,col,dd,k0,k1,k2,k3,k5,hC,T⟩:=c.tail I.kIn
 obtain ⟨fI,fd,a,b,hi,hf,F,hb⟩:=c.init
 have hl:us.length<=sizeLine:=by rw [<- r.length];show 1<=sizeLine;decide
 refine aC2 I.kIn T hC hi hf hl ?_
 have hg:((s.heap.push { cls:=.type "tuple",data:=.seq us.toArray }).push (hW C s.heap.objs.size none)).get? (s.heap.objs.size + 1) = some (hW C s.heap.objs.size none):=by
  have:=Heap.get?_push_size (s.heap.push { cls:=.type "tuple",data:=.seq us.toArray }) (o:=hW C s.heap.objs.size none) rfl
  rwa [Heap.size_push] at this
 have hn:s.heap.get? (s.heap.objs.size + 1) = none:=Heap.get?_none_of_le (Nat.le_succ _)
 have hH:H (s.heap.objs.size + 1) = none:=I.untr hn
 have I1:Inv X pins σ (upd H (s.heap.objs.size + 1) (.ext (XO (s.heap.objs.size + 1) C none))) { s with heap:=(s.heap.push { cls:=.type "tuple",data:=.seq us.toArray }).push (hW C s.heap.objs.size none) } :=
  I.laid (t':=s.toks) (fun b u q=>Heap.get?_push_of_some _ (Heap.get?_push_of_some _ q)) (Nat.le_succ _) (aDe ⟨_,hg⟩)
 generalize (s.heap.push { cls:=.type "tuple",data:=.seq us.toArray }).push (hW C s.heap.objs.size none) = h1 at I1 hg ⊢
 generalize s.heap.objs.size + 1 = e at *
 have r2:bM (V.ref e :: [V.int i]) (Value.ref e :: us):=.cons rfl r
 have hlen:(Value.ref e :: us ++ []).length = [a,b].length:=by rw [List.append_nil,<- r2.length];rfl
 have hsp:spI C f (V.ref e :: [V.int i]) (upd H e (.ext (XO e C none))) (fun v H2=>v = .non/\∃ dx,upd H e (.ext (XO e C none)) dx = none/\dx ≠ e/\H2 = upd (upd (upd H e (.ext (XO e C none))) dx (.xd [(f,.int i)])) e (.ext (XO e C (some dx)))) (fun _ _ _=>False) :=
  ⟨e,.int i,rfl,cR,fun dx n1 n2=>⟨rfl,dx,n1,n2,rfl⟩⟩
 have hbb:=hb { s with heap:=h1 } (Value.ref e :: us) I1.kIn hlen
 rw [List.append_nil] at hbb
 refine wpAny_call (codeAny_mono (F.run _ X.stack _ _ ⟨Value.ref e :: us,[]⟩ (Value.ref e :: us) _ _ _ ((hr.mono hk).make C us []) (I1.env0.make C us []) hbb r2 hsp) fun r s' hq'=>?_)
 cases r with
 | error ev=>exact False.elim (by exact hq')
 | ok fl =>
  cases fl with
  | ret u =>
   obtain ⟨v,H2,I3,rv,ev,dx,n1,n2,e2⟩:=I1.after hq'
   subst ev e2
   refine ⟨rv,?_⟩
   have he2:upd (upd (upd H e (.ext (XO e C none))) dx (.xd [(f,.int i)])) e (.ext (XO e C (some dx))) e = some (.ext (XO e C (some dx))):=cR
   obtain ⟨⟨t,ht⟩,_,_⟩:=I3.hok e _ he2
   have hdx:H dx = none:=by rw [bB n2] at n1;exact n1
   refine h s' e t dx _ (I3.drop he2) ht (I.fpN hex hn kX) (by rw [fH n2,bB n2];exact cR) fun b o q=>?_
   have b1:b ≠ e:=bH q hH
   rw [fH b1,bB b1,bB (bH q hdx),bB b1];exact q
  | next=>exact False.elim hq'
  | brk=>exact False.elim hq'
  | cont=>exact False.elim hq'
end
section
variable {X:Cx} {x:Str} {V:Int->DM->Prop} {e:Expr} {te:DE} {np cpos pos:Pos} {k:Nat}
theorem zC (R:tY X x V) (hr:dN k X.A) (hk:2<=k) (he:PDE X e te) (hg:Gl X x:=by rfl) (hd:(x == ("__debug__":Str)) = false:=by decide)
  (hst:starEach [e] X.env = (false,eval e X.env) :: starEach [] X.env:=by rfl) (hpl:(backTo cpos (starEach [] X.env)).any (·.1) = false:=by rfl) :
  PDS X (.Raise (some (.Call (.Name x np) [e] [] cpos)) none pos) (tK V te):=by
 intro pins s σ H D I ⟨ρ,M,D',re,hm,q,kk⟩
 obtain ⟨calm,hex,C,f,hc,fly⟩:=R
 rw [arm_exec_Raise]
 refine wpAny_bind (wpAny_standAt ?_)
 show wpAny _ _ (raiseStmt X.env (some (do let v <- eval (.Call (.Name x np) [e] [] cpos) X.env;standAt pos;pure v)) none) _ _ _
 have key:wpAny (model X.prog X.w) X.A (eval (.Call (.Name x np) [e] [] cpos) X.env) (fun v s1=>∃ a t dx,v = .ref a/\X.K.In s1.heap/\s1.heap.get? a = some (hW C t (some dx))/\X.xe (.ref a) s1) X.xe s:=by
  refine wpAny_Call_Name_kw (iP I hg hc.nm ?_ hd)
  refine PySem.W.callWith_K (h₀:=X.base) I.ok.mod.kin hc.kp (thn ((kU he pL hst:PDA X [e] (hG te oP)) cpos pins s σ H (LA X.K H _) I ⟨ρ,M,aDs V,re,hm,?_,fun vs H' z=>z⟩) fun us s1 ⟨vs,H1,I1,rv,ds,M1,rs,hm1,ex,q1⟩=>⟨I1.kIn,?_⟩) hst hpl
  ·exact q
  ·match ds,q1 with
   | [.int i],q1 =>
    obtain ⟨v,rfl,r1⟩:=gG rs
    obtain rfl:=aP r1
    refine zY hc hr hk hex I1 rv fun s' a t dx H' I' ht fe hx mono=>?_
    exact ⟨a,t,dx,rfl,I'.kIn,ht,fly pins σ H' s' a M1 dx i I' ⟨_,_,ht,⟨rfl,rfl⟩,rfl,rfl⟩ fe (yP hm1 mono) hx q1⟩
 unfold raiseStmt
 refine wpAny_bind (wpAny_bind (wpAny_mono key (fun v s1 ⟨a,t,dx,ev,kin,h1,h4⟩=>wpAny_bind (wpAny_standAt (wpAny_pure ?_))) fun _ _ z=>z))
 subst ev
 obtain ⟨bm,nm,qn,N,bs,hdct,sn,sub,ab,col,dd,k0,k1,k2,k3,k5,cC,T⟩:=hc.tail kin
 have hcB:(Value.ref C :: bm).contains (.type "BaseException") = true:=by rw [List.contains_cons,T.hasType (X:="BaseException") (b:=true) (by decide +kernel),Bool.or_true]
 obtain ⟨hh,g,d,tk,os⟩:=s1
 dsimp only at cC h1
 unfold hW at h1
 repeat (first | (with_reducible refine wpAny_loadPart_at h1 ?_) | (with_reducible refine wpAny_loadPart_at cC ?_) | (with_reducible refine wpAny_isSubtype_exc cC ?_;rw [hcB]) | wp_step)
 exact wpAny_raiseNew_none (I.ok.hd calm) h4
end
end Dd
namespace Dd
open PySem PySem.Spec PyProof.Rows L2 Mz
open PySem.W (InstAt findIn clsIn takerIn mroIn looks_findIn looks_clsIn looks_mroIn)
noncomputable def aFM (K:PySem.W.Frag) (C:Addr) (f:Str) (cond:List D->DM->Int->Prop):Sp:=fun vs H _ E=>∃ ds M i,bG K H ds vs/\bJ K M H/\cond ds M i/\∀ M' H' dx,bJ K M' H'->bK M M'->H' dx = some (.xd [(f,.int i)])->E (.ref C) (some dx) H'
noncomputable def fN (P:Program) (w:World) (K:PySem.W.Frag) (mg:Str->Option Value) (base:Heap) (k:Nat) (x:Str) (ps:List Str) (C:Addr) (f:Str) (cond:List D->DM->Int->Prop):Prop :=
 ∃ fa fd,jD P w K mg base (CXy P w) k fa fd ps (aFM K C f cond)/\mg x = some (.ref fa)/\PySem.W.keepIn K (.ref fa) = true/\lE K fd ps []
noncomputable def xJ (X:Cx) (C:Addr) (f:Str) (V:Int->DM->Prop):Prop:=X.ex = [] /\
 ∀ pins σ H s a T M' dx i,Inv X pins σ H s->TrY (some dx) s.heap a (.ref C) T .none->FpN X pins H a->FpN X pins H T->bJ X.K M' H->H dx = some (.xd [(f,.int i)])->V i M'->X.xe (.ref a) s
noncomputable def wE (V:Int->DM->Prop) (cond:List D->DM->Int->Prop) (t:DA):DE:=fun ρ M _=>t ρ M fun ds M1=>∃ i,cond ds M1 i/\∀ M',bK M1 M'->V i M'
noncomputable def XW (K:PySem.W.Frag) (C:Addr) (f:Str) (M1:DM) (i:Int):XK:=fun c od H'=>c = .ref C/\∃ dx M',od = some dx/\bJ K M' H'/\bK M1 M'/\H' dx = some (.xd [(f,.int i)])
section
variable {X:Cx} {e:Expr} {es:List Expr} {t:DA} {fn f:Str} {ps:List Str} {cond:List D->DM->Int->Prop} {C:Addr} {k1 k:Nat} {V:Int->DM->Prop} {pf pc:Pos}
theorem zO (hH:fN X.prog X.w X.K X.mg X.base k1 fn ps C f cond) (hr:dN k X.A) (hk1:k1<=k) (PO:xJ X C f V) (ha:PDA X (e :: es) t) (hg:Gl X fn:=by rfl) (hdb:(fn == ("__debug__":Str)) = false:=by decide)
  (he:starEach (e :: es) X.env = (false,eval e X.env) :: starEach es X.env:=by rfl) (hpl:(backTo pc (starEach es X.env)).any (·.1) = false:=by rfl) :
  PDE X (.Call (.Name fn pf) (e :: es) [] pc) (wE V cond t):=by
 intro pins s σ H Q I ⟨ρ,M,Q',re,hm,q,k'⟩
 obtain ⟨hex,fly⟩:=PO
 obtain ⟨f1,fd,F,hmf,hk,hb⟩:=id hH
 refine wpAny_Call_Name_kw (iP I hg hmf ?_ hdb)
 refine PySem.W.callWith_K (h₀:=X.base) I.ok.mod.kin hk (thn (ha pc pins s σ H (LA X.K H _) I ⟨ρ,M,_,re,hm,q,fun vs H' z=>z⟩) fun us s1 ⟨vs,H1,I1,rv,ds,M1,rs,hm1,ex,i,q1,q2⟩=>⟨I1.kIn,?_⟩) he hpl
 have hsp:aFM X.K C f cond vs H1 (fun _ _=>False) (XW X.K C f M1 i):=⟨ds,M1,i,rs,hm1,q1,fun M' H' dx a b c=>⟨rfl,dx,M',rfl,a,b,c⟩⟩
 have hl:(us ++ []).length = ps.length:=by rw [List.append_nil,<- rv.length];exact F.len _ _ _ _ hsp
 have hbb:=hb s1 us I1.kIn hl
 rw [List.append_nil] at hbb
 refine wpAny_call (codeAny_mono (F.run X.A X.stack s1 H1 ⟨us,[]⟩ us vs _ _ (hr.mono hk1) I1.env0 hbb rv hsp) fun r s' hq=>?_)
 cases r with
 | error ev =>
  obtain ⟨a,cls,T,H',od,rfl,os,bare,un,hok,tr,na,nT,ha',hT,rfl,dx,M',rfl,hm',sub,hx⟩:=(show CXy X.prog X.w X.stack H1 s1 (XW X.K C f M1 i) ev s' from hq)
  have I2:Inv X pins σ H' s':=I1.call' (ch:=[]) os un hok bare (fun b z=>absurd z (by simp))
  exact fly pins σ H' s' a T M' dx i I2 tr (I1.fpN hex na ha') (I1.fpN hex nT hT) hm' hx (q2 M' sub)
 | ok fl =>
  cases fl with
  | ret u=>obtain ⟨_,_,_,_,_,_,_,z⟩:=(show CE _ _ _ _ _ _ _ _ from hq);exact z.elim
  | next=>exact False.elim hq
  | brk=>exact False.elim hq
  | cont=>exact False.elim hq
end
section
variable {P:Program} {w:World} {K:PySem.W.Frag} {mg:Str->Option Value} {base:Heap}
theorem fN.mkZ {x c f:Str} {C:Addr} {st:Stmt} {N ps:List Str} {k:Nat} {cond:List D->DM->Int->Prop} (h:cZ K mg x st ps) (hc:kZ P w K mg base c C f) (S:aT N ps (aJ st)) (len:∀ ds M i,cond ds M i->ds.length = ps.length)
  (hbody:∀ (fa:Addr) (cdv:Value) (A:Around) (outer:List Env) (s:Shared) (H:Hp) (ds:List D) (M:DM) (i:Int) (E:XK),dN k (A.deeper (envOfC x (aJ st) s.heap.objs.size fa cdv))->cond ds M i ->
   tY (jR (CXy P w) P w K mg base N x (aJ st) fa cdv A outer s H E) c (fun j M'=>j = i/\bK M M')->xJ (jR (CXy P w) P w K mg base N x (aJ st) fa cdv A outer s H E) C f (fun j M'=>j = i/\bK M M') ->
   ∃ t,ZSs (jR (CXy P w) P w K mg base N x (aJ st) fa cdv A outer s H E) (dO st) t/\t { nx:=fun _ _=>False,rt:=fun _ _=>False } (gH N ds) M):fN P w K mg base (k + 1) x ps C f cond:=by
 obtain ⟨fa,fd,F,hm,hb⟩:=h
 refine ⟨fa,fd,?_,hm,F.kp,hb⟩
 obtain ⟨oc,od,kV,doc,pm,an,cdv,ct,osl,rfl,lk,hcd⟩:=F.ex
 refine aDi lk hcd S (fun vs H Q E ⟨ds,M,i,rs,hm,q,_⟩=>by rw [<- rs.length];exact len ds M i q) fun A outer s H vs Q E hr ⟨ds,M,i,rs,hm,q,k'⟩=>?_
 have RO:tY (jR (CXy P w) P w K mg base N x (aJ st) fa cdv A outer s H E) c (fun j M'=>j = i/\bK M M') :=
  ⟨rfl,rfl,C,f,hc,fun pins σ H' s1 a M' dx j I n fe hm' hx ⟨ej,sub⟩ =>
   wC (X:=jR (CXy P w) P w K mg base N x (aJ st) fa cdv A outer s H E) I rfl rfl rfl I.ok.frames n fe fun s' T I' t' fT _ =>
    ⟨a,.ref C,T,H',some dx,rfl,I'.os,I'.bare,I'.base,I'.hok,t',fe.2.2.1,fT.2.2.1,fe.1,fT.1,k' M' H' dx hm' sub (by rw [<- ej];exact hx)⟩⟩
 have PO:xJ (jR (CXy P w) P w K mg base N x (aJ st) fa cdv A outer s H E) C f (fun j M'=>j = i/\bK M M') :=
  ⟨rfl,fun pins σ H' s1 a T M' dx j I t fe fT hm' hx ⟨ej,sub⟩ =>
   tZ (X:=jR (CXy P w) P w K mg base N x (aJ st) fa cdv A outer s H E) I rfl rfl rfl I.ok.frames t fe fT fun s' T' I' t' fT' =>
    ⟨a,.ref C,T',H',some dx,rfl,I'.os,I'.bare,I'.base,I'.hok,t',fe.2.2.1,fT'.2.2.1,fe.1,fT'.1,k' M' H' dx hm' sub (by rw [<- ej];exact hx)⟩⟩
 obtain ⟨t,h1,h2⟩:=hbody fa cdv A outer s H ds M i E hr q RO PO
 exact ⟨_,h1.o,gH N ds,M,_,pX rs N,hm,h2,⟨fun σ' H' ⟨_,_,_,_,_,z⟩=>z.elim,fun v H' ⟨_,_,_,_,_,z⟩=>z.elim,fun σ' H' ⟨_,_,_,_,_,z⟩=>z.elim,fun σ' H' ⟨_,_,_,_,_,z⟩=>z.elim⟩⟩
theorem fN.never {x c f:Str} {C:Addr} {st:Stmt} {N ps:List Str} (h:cZ K mg x st ps) (hc:kZ P w K mg base c C f) (S:aT N ps (aJ st)) (k:Nat):fN P w K mg base (k + 1) x ps C f (fun _ _ _=>False) :=
 fN.mkZ h hc S (fun _ _ _ z=>z.elim) fun _ _ _ _ _ _ _ _ _ _ _ z=>z.elim
end
noncomputable def ExY (o:Obj) (C dx:Addr):Prop:=o.cls = .ref C/\o.dict = some dx/\∃ vs,o.data = .fields vs
noncomputable abbrev Pn (X:Cx) (a:Addr) (o:Obj):Cx:={ X with pn:=(a,o) :: X.pn }
section
variable {X:Cx} {pins:List (Addr × Obj)} {σ:L2.St} {H:Hp} {s:Shared} {a e:Addr} {o:Obj} {fs:List (Str × V)}
theorem uE (I:X.Ok):(Pn X a o).Ok:=⟨I.mod,I.kind,I.glob,I.blt,I.above,I.inj,I.has,I.cab,I.hd,I.frames,I.stk,I.exf,I.bs,I.bsz,I.noex,I.exfs,I.funs,I.frf⟩
theorem tD (ok:X.Ok) (I:Inv (Pn X a o) pins σ H s):Inv X pins σ H s :=
 ⟨ok,I.os,I.bare,I.base,I.loc,I.cell,I.free,I.freeC,fun p hp=>I.pin p (List.mem_cons_of_mem _ hp),I.hok,I.len⟩
theorem Ext.delX (h:H e = some (.xd fs)):Ext H (Dd.delH H e) :=
 ⟨fun a ys q=>by rw [fH (lB q h (by intro z;cases z))];exact q,fun a ob u q=>by rw [fH (lB q h (by intro z;cases z))];exact q⟩
theorem yB {K:PySem.W.Frag} {M:DM} (h:bJ K M H) (hp:H e = some (.xd fs)):bJ K M (delH H e) where
 l:=fun a ds q=>by
  obtain ⟨xs,z,r⟩:=h.l a ds q
  exact ⟨xs,by rw [fH (lB z hp (by intro z;cases z))];exact z,r.ext (Ext.delX hp)⟩
 d:=fun a ds q=>by
  obtain ⟨xs,z,r⟩:=h.d a ds q
  exact ⟨xs,by rw [fH (lB z hp (by intro z;cases z))];exact z,eC r (Ext.delX hp)⟩
theorem _root_.L2.Inv.dropX (I:Inv X pins σ H s) (h:H e = some (.xd fs)):Inv X pins σ (delH H e) s:=by
 have out:∀ b o,delH H e b = some o->b ≠ e/\H b = some o:=fun b o q=>by
  by_cases z:b = e
  ·rw [z,kX] at q;cases q
  ·rw [fH z] at q;exact ⟨z,q⟩
 have sub:∀ b,H b = none->delH H e b = none:=fun b q=>by
  unfold delH;split
  ·rfl
  ·exact q
 have nt:∀ b o,H b = some o->(∀ φ,o ≠ .xd φ)->delH H e b = some o:=fun b o q n=>by
  rw [fH (fun z=>by rw [z,h] at q;exact n fs (Option.some.inj q).symm)];exact q
 refine ⟨I.ok,I.os,I.bare,⟨I.base.keep,I.base.slot,fun b o q n hx=>sub b (I.base.free b o q n hx),I.base.there,fun b xs q=>nt b _ (I.base.tups b xs q) (fun φ z=>by cases z),fun b o v q=>nt b _ (I.base.frzs b o v q) (fun φ z=>by cases z),fun b ps q=>?_⟩,I.loc,I.cell,sub _ I.free,fun x c q=>sub c (I.freeC x c q),fun p hp=>?_,fun b o q=>?_,I.len⟩
 ·obtain ⟨m,z⟩:=I.base.tbls b ps q
  exact ⟨m,nt b _ z fun φ z=>by cases z⟩
 ·obtain ⟨a1,a2,a3,a4,a5⟩:=I.pin p hp
  exact ⟨a1,sub _ a2,a3,a4,a5⟩
 ·obtain ⟨ne,q⟩:=out b o q
  refine (I.hok b o q).stay (fun _ _ _ z=>z) (fun c z=>nt c _ z fun φ y=>by cases y) fun c xs z=>nt c _ z fun φ y=>by cases y
theorem aGT (I:Inv X pins σ H s) (h:H e = some (.xd fs)):∃ oD,Inv (Pn X e oD) pins σ (delH H e) s/\∀ f i,fs = [(f,.int i)]->∃ t,PySem.W.lookIn f oD = some (some (.int i t)):=by
 obtain ⟨mA,hns,rel⟩:=I.hok e _ h
 obtain ⟨oD,ho,hl⟩:=rK hns
 have I':=I.dropX h
 have nl:e ≠ X.env.locals:=fun z=>by have:=I.free;rw [<- z,h] at this;cases this
 have nfr:e ∉ X.fs:=fun z=>by
  have m:e ∈ frs X.stack:=by
   rcases I.ok.stk with q | ⟨q,_⟩
   ·rw [q];exact z
   ·rw [q];unfold frs;rw [List.filterMap_cons]
    split
    ·exact z
    ·exact List.mem_cons_of_mem _ z
  have:=I.stkFree e m
  rw [h] at this;cases this
 refine ⟨oD,⟨uE I'.ok,I'.os,I'.bare,I'.base,I'.loc,I'.cell,I'.free,I'.freeC,fun p hp=>?_,I'.hok,I'.len⟩,fun f i ef=>?_⟩
 ·rcases List.mem_cons.mp hp with z | z
  ·subst z
   refine ⟨ho,kX,nl,nfr,fun v z=>?_⟩
   have:=hl "row"
   unfold PySem.W.lookIn at this
   dsimp only at z
   rw [z] at this
   cases this
  ·exact I'.pin p z
 ·have:=rel f
  rw [ef,List.lookup_cons,beq_self_eq_true] at this
  cases hm:mA f with
  | none=>rw [hm] at this;exact this.elim
  | some u =>
   rw [hm] at this
   obtain ⟨t,rfl⟩:=(show ∃ t,u = Value.int i t from this)
   exact ⟨t,by rw [hl,hm]⟩
end
noncomputable def aBu (sp:DSp) (cond:List D->DM->Int->Prop) (j:Nat) (t:DA) (nx:eY->D->bV->DM->Prop) (ts:Addr->Int->DS):DS:=fun D ρ M=>t ρ M fun ds M1 =>
 (∃ i,cond ds M1 i/\∀ a,ts a i (D.un j) (ρ.set j (some (.ref a))) M1) ∨ sp ds M1 fun d M2=>nx D d ρ M2
section
variable {X:Cx} {a:Expr} {e:Expr} {es:List Expr} {t:DA} {x f n cm fl:Str} {ps:List Str} {sp:DSp} {cond:List D->DM->Int->Prop} {C Cm:Addr} {k1 k2 k i j:Nat} {ts:Addr->Int->DS} {b0:Stmt} {suite:List Stmt} {px pf pc pa pcm ph pos:Pos}
theorem aCh {pins:List (Addr × Obj)} {σ:L2.St} {H1:Hp} {s1 s':Shared} {M1:DM} {ρ:bV} {De:eY} {En:mQ} {ev:Value} {i:Int} (ok:X.Ok) (hs:X.stack = X.env :: X.outer) (hf:X.env.frame = some X.env.locals) (hex:X.ex = [])
  (hX:∀ e s,X.xe e s->False) (hN:X.N.Nodup) (hj:X.N[j]? = some n) (hnl:X.env.scope.names.lookup n = some .local)
  (hcm:X.mg cm = some (.ref Cm)) (hgc:Gl X cm) (hdc:(cm == ("__debug__":Str)) = false) (hmt:PySem.W.exmOne X.K (.ref C) (.ref Cm) = some true)
  (hsu:∀ a o dx oD t,ExY o C dx->PySem.W.lookIn fl oD = some (some (.int i t))->iS (Exc (Pn X dx oD) a o) (b0 :: suite) (ts a i))
  (I1:Inv X pins σ H1 s1) (re:eI X.K H1 ρ σ) (k:hV X.K H1 De En) (q:∀ a,ts a i (De.un j) (ρ.set j (some (.ref a))) M1)
  (h:CXy X.prog X.w X.stack H1 s1 (XW X.K C fl M1 i) ev s') :
  wpAny (model X.prog X.w) X.A (noteFrame ev X.env) (fun _ s₂=>wpAny (model X.prog X.w) X.A (setFlight ev none)
   (fun _ s₃=>wpAny (model X.prog X.w) X.A (handleBy ev X.env [.ExceptHandler (some (.Name cm pcm)) (some n) (b0 :: suite) ph]) (SP X pins En) X.xe s₃) X.xe s₂) X.xe s':=by
 obtain ⟨a,cls,T,H',od,rfl,os,bare,un,hok,tr,na,nT,ha,hT,rfl,dx,M',rfl,hm',sub,hxd⟩:=h
 have I2:Inv X pins σ H' s':=I1.call' (ch:=[]) os un hok bare (fun b z=>absurd z (by simp))
 have fa:FpN X pins H' a:=I1.fpN hex na ha
 have fT:FpN X pins H' T:=I1.fpN hex nT hT
 have ex:Ext H1 H':=⟨un.tups,un.frzs⟩
 refine qS I2 hs hf hex I2.ok.frames tr fa fT fun s3 T3 I3 t3 f3=>?_
 refine gW I3 t3 f3 fun s4 I4 t4=>?_
 have noF:∀ {s:Shared} {oe:Obj} {vs:Array Value},Inv X pins σ H' s->s.heap.get? a = some oe->oe.data = .fields vs->a ∉ X.fs:=fun {s oe vs} I he hd hb=>by
  obtain ⟨_,o,ho,hnf⟩:=I.funs.mem hb
  rw [he] at ho;cases ho;exact hnf vs hd
 have inn:∀ {s:Shared} {T fl},Inv X pins σ H' s->TrY (some dx) s.heap a (.ref C) T fl->∃ oe,oe.cls = .ref C/\s.heap.get? a = some oe/\Inv (Exc X a oe) pins σ H' s:=fun {s T fl} I t=>by
  obtain ⟨oe,vs,oT,ts,he,hc,hd,_⟩:=t
  exact ⟨oe,hc.1,he,aBb I he ha fa.2.1 (noF I he hd) fun v z=>by rw [hd] at z;cases z⟩
 obtain ⟨o4,hc4,he4,J4⟩:=inn I4 t4
 refine wpAny_handleBy_cons (codeAny_handlers_test ?_) (by intro z;cases z)
 refine iP (X:=Exc X a o4) J4 hgc hcm ?_ hdc
 have LT:∀ M:Model,PySem.W.Looks M s4.heap (typeOf (.ref a)) (.ref C):=fun M=>hc4 ▸ (PySem.W.Looks.ld he4).andThen .now
 refine (PySem.W.exm_one J4.kIn (LT _) hmt).here ?_
 simp only [if_true]
 refine codeAny_handlers_suite_as ?_
 refine gW I4 t4 f3 fun s5 I5 t5=>?_
 obtain ⟨oe,vs,oT,tts,he5,hc5,hd5,_⟩:=t5
 refine sH (v:=.ref a) I5 hN hj (.inl hnl) rfl (fun s6 I6 ⟨b,hsb,hb⟩=>?_) (.inr hnl)
 have hne:a ≠ b:=by
  rcases hb with hb | hb
  ·rw [hb];exact fa.2.1
  ·exact fun z=>fa.2.2.2.1 n b hb z.symm
 have he6:s6.heap.get? a = some oe:=(hsb.2 a hne).trans he5
 obtain ⟨oD,I7,hlk⟩:=aGT I6 hxd
 obtain ⟨tk,hlk⟩:=hlk fl i rfl
 have ha':delH H' dx a = none:=by
  unfold delH;split
  ·rfl
  ·exact ha
 have J6:Inv (Exc (Pn X dx oD) a oe) pins (σ.set j (some (.ref a))) (delH H' dx) s6:=aBb (X:=Pn X dx oD) I7 he6 ha' fa.2.1 (noF I5 he5 hd5) fun v z=>by rw [hd5] at z;cases z
 have ex2:=ex.trans (Ext.delX hxd)
 have run:=hsu a oe dx oD tk ⟨hc5.1,hc5.2,_,hd5⟩ hlk pins s6 (σ.set j (some (.ref a))) (delH H' dx) (aBD En j) J6 ⟨_,M1,De.un j,(re.ext ex2).set eB j,yB (hm'.sub sub) hxd,q a,(k.at ex2).un j⟩
 refine wpAny_mono run (fun fl s7 h7=>?_) fun x s7 h7=>(hX x s7 h7).elim
 cases fl with
 | next =>
  obtain ⟨σ',H7,I7,q7⟩:=h7
  exact kY (tD ok (oZ (uE ok) I7)) hN hj hnl fun s8 I8=>⟨_,H7,I8,q7⟩
 | brk =>
  obtain ⟨σ',H7,I7,q7⟩:=h7
  exact kY (tD ok (oZ (uE ok) I7)) hN hj hnl fun s8 I8=>⟨_,H7,I8,q7⟩
 | cont =>
  obtain ⟨σ',H7,I7,q7⟩:=h7
  exact kY (tD ok (oZ (uE ok) I7)) hN hj hnl fun s8 I8=>⟨_,H7,I8,q7⟩
 | ret u =>
  obtain ⟨v,σ',H7,I7,r7,q7⟩:=h7
  exact kY (tD ok (oZ (uE ok) I7)) hN hj hnl fun s8 I8=>⟨v,_,H7,I8,r7,q7⟩
theorem aBp {pins:List (Addr × Obj)} {σ:L2.St} {H1:Hp} {s1:Shared} {M1:DM} {ds:List D} {us:List Value} {vs:List V} {Q:Value->Shared->Prop} {E:Value->Shared->Prop} {f':Addr} {Q':DQ}
  (hH:fN X.prog X.w X.K X.mg X.base k1 f ps C fl cond) (hh:Has X.prog X.w X.K X.mg X.base k2 f ps sp) (hr:dN k X.A) (hk1:k1<=k) (hk2:k2<=k) (hmf:X.mg f = some (.ref f'))
  (I1:Inv X pins σ H1 s1) (rv:bM vs us) (rs:bG X.K H1 ds vs) (hm1:bJ X.K M1 H1)
  (q:(∃ i,cond ds M1 i/\∀ ev s',CXy X.prog X.w X.stack H1 s1 (XW X.K C fl M1 i) ev s'->E ev s') ∨ sp ds M1 Q')
  (hQ:∀ u s',EP X pins σ (LQ X.K H1 Q') u s'->Q u s'):wpAny (model X.prog X.w) X.A (call (.ref f') us) Q E s1:=by
 rcases q with ⟨i,q,hE⟩ | q
 ·obtain ⟨f1,fd,F,hm,_,hb⟩:=hH
  have hf:f1 = f':=by have:=hm.symm.trans hmf;cases this;rfl
  subst hf
  have hsp:aFM X.K C fl cond vs H1 (fun _ _=>False) (XW X.K C fl M1 i):=⟨ds,M1,i,rs,hm1,q,fun M' H' dx a b c=>⟨rfl,dx,M',rfl,a,b,c⟩⟩
  have hl:(us ++ []).length = ps.length:=by rw [List.append_nil,<- rv.length];exact F.len _ _ _ _ hsp
  have hbb:=hb s1 us I1.kIn hl
  rw [List.append_nil] at hbb
  refine wpAny_call (codeAny_mono (F.run X.A X.stack s1 H1 ⟨us,[]⟩ us vs _ _ (hr.mono hk1) I1.env0 hbb rv hsp) fun r s' hq=>?_)
  cases r with
  | error ev=>exact hE ev s' hq
  | ok fl =>
   cases fl with
   | ret u=>obtain ⟨_,_,_,_,_,_,_,z⟩:=(show CE _ _ _ _ _ _ _ _ from hq);exact z.elim
   | next=>exact False.elim hq
   | brk=>exact False.elim hq
   | cont=>exact False.elim hq
 ·obtain ⟨f1,fd,F,hm,_,hb⟩:=hh
  have hf:f1 = f':=by have:=hm.symm.trans hmf;cases this;rfl
  subst hf
  have hsp:oF X.K sp vs H1 (LQ X.K H1 Q') (fun _ _ _=>False):=⟨ds,M1,Q',rs,hm1,q,fun v H' z=>z⟩
  have hl:(us ++ []).length = ps.length:=by rw [List.append_nil,<- rv.length];exact F.len _ _ _ _ hsp
  have hbb:=hb s1 us I1.kIn hl
  rw [List.append_nil] at hbb
  refine wpAny_call (codeAny_mono (F.run X.A X.stack s1 H1 ⟨us,[]⟩ us vs _ _ (hr.mono hk2) I1.env0 hbb rv hsp) fun r s' hq=>?_)
  cases r with
  | error ev=>exact False.elim hq
  | ok fl =>
   cases fl with
   | ret u=>exact hQ u s' (I1.after hq)
   | next=>exact False.elim hq
   | brk=>exact False.elim hq
   | cont=>exact False.elim hq
theorem aBj (hH:fN X.prog X.w X.K X.mg X.base k1 f ps C fl cond) (hh:Has X.prog X.w X.K X.mg X.base k2 f ps sp) (hr:dN k X.A) (hk1:k1<=k) (hk2:k2<=k) (hN:X.N.Nodup)
  (hcm:X.mg cm = some (.ref Cm)) (hmt:PySem.W.exmOne X.K (.ref C) (.ref Cm) = some true) (ha:PDA X (e :: es) t) (hsu:∀ i a o dx oD t,ExY o C dx->PySem.W.lookIn fl oD = some (some (.int i t))->iS (Exc (Pn X dx oD) a o) (b0 :: suite) (ts a i))
  (hi:X.N[i]? = some x:=by rfl) (hj:X.N[j]? = some n:=by rfl) (hxl:X.env.scope.names.lookup x = some .local:=by rfl) (hnl:X.env.scope.names.lookup n = some .local:=by rfl)
  (hs:X.stack = X.env :: X.outer:=by rfl) (hf:X.env.frame = some X.env.locals:=by rfl) (hex:X.ex = []:=by rfl) (hX:∀ e s,X.xe e s->False:=by exact fun _ _ z=>z)
  (hgc:Gl X cm:=by rfl) (hdc:(cm == ("__debug__":Str)) = false:=by decide) (hg:Gl X f:=by rfl) (hdb:(f == ("__debug__":Str)) = false:=by decide)
  (he:starEach (e :: es) X.env = (false,eval e X.env) :: starEach es X.env:=by rfl) (hpl:(backTo pc (starEach es X.env)).any (·.1) = false:=by rfl)
  (hsw:swapsWith (.Call (.Name f pf) (e :: es) [] pc) (some (.Name x px)) pa.line X.env = pure false:=by rfl) :
  PDS X (.Try [.Assign [.Name x px] (.Call (.Name f pf) (e :: es) [] pc) pa] [.ExceptHandler (some (.Name cm pcm)) (some n) (b0 :: suite) ph] [] [] pos) (aBu sp cond j t (fun D d ρ M=>D.nx (ρ.set i (some d)) M) ts):=by
 intro pins s σ H En I ⟨ρ,M,De,re,hm,q,k'⟩
 obtain ⟨f',fd,F,hmf,hk,hb⟩:=id hh
 refine wpAny_Try_except ?_
 refine wpAny_execs_cons (wpAny_Assign_Name (wpAny_Call_Name_kw (iP I hg hmf ?_ hdb)) hsw)
 refine PySem.W.callWith_K (h₀:=X.base) I.ok.mod.kin hk (wpAny_mono (ha pc pins s σ H (LA X.K H _) I ⟨ρ,M,_,re,hm,q,fun vs H' z=>z⟩) (fun us s1 ⟨vs,H1,I1,rv,ds,M1,rs,hm1,ex,q1⟩=>⟨I1.kIn,?_⟩) fun ev s' z=>(hX ev s' z).elim) he hpl
 refine aBp hH hh hr hk1 hk2 hmf I1 rv rs hm1 (q1.imp (fun z=>by
  obtain ⟨iv,z1,z2⟩:=z
  exact ⟨iv,z1,fun ev s' y=>aCh I.ok hs hf hex hX hN hj hnl hcm hgc hdc hmt (hsu iv) I1 (re.ext ex) (k'.at ex) z2 y⟩) id) fun u s' ⟨v,H2,I2,rr,d,M2,rd,hm2,ex2,q2⟩=>?_
 ·exact iG I2 hN hi (.inl hxl) rr (fun s3 I3=>wpAny_execs_nil (wpAny_execs_nil ⟨_,H2,I3,k'.nx _ H2 ⟨_,M2,(re.ext (ex.trans ex2)).set rd i,hm2,ex.trans ex2,q2⟩⟩)) (.inr hxl)
end
noncomputable def aA5 (j:Nat) (a:Addr) (i:Int):DE:=fun ρ M Q=>ρ[j]? = some (some (.ref a))/\Q (.int i) M
section
variable {X:Cx} {n f:Str} {C a dx:Addr} {o oD:Obj} {p pos:Pos} {j:Nat} {i:Int} {tk:Tok}
theorem aAK (ho:ExY o C dx) (hl:PySem.W.lookIn f oD = some (some (.int i tk))) (ek:nE X.K C) (fk:oR X.K C f) (hj:X.N[j]? = some n:=by rfl) (hnl:Vis X.env.scope n:=by first | exact Or.inl rfl | exact Or.inr (Or.inl rfl) | exact Or.inr (Or.inr rfl))
  (hd1:(n == ("__debug__":Str)) = false:=by decide) (hd2:(n == ("__classdict__":Str)) = false:=by decide) (hb:attributeBase (.Name n p) f X.env (eval (.Name n p) X.env) = eval (.Name n p) X.env:=by rfl) :
  PDE (Exc (Pn X dx oD) a o) (.Attribute (.Name n p) f pos) (aA5 j a i):=by
 intro pins s σ H Q I ⟨ρ,M,Q',re,hm,⟨e,q⟩,k⟩
 obtain ⟨v,e1,rv⟩:=re.get j _ e
 obtain rfl:=aW rv
 refine aC0 (A:=X.A.mark (some (.ref a))) hb (thn (nF (X:=Exc (Pn X dx oD) a o) (i:=j) hj hnl hd1 hd2 pins s σ H (fun v H'=>v = .ref a/\H' = H) I ⟨_,e1,rfl,rfl⟩) fun u s1 ⟨v',H1,I1,rx,ev,eH⟩=>?_)
 subst ev eH
 obtain rfl:u = Value.ref a:=rx
 have p1:=I1.pin (a,o) (List.mem_append_left _ (List.mem_cons_self))
 have p2:=I1.pin (dx,oD) (List.mem_append_left _ (List.mem_cons_of_mem _ (List.mem_cons_self)))
 obtain ⟨h1,h2,vs,h3⟩:=ho
 have ia:InstAt s1.heap a o C (some oD):=⟨p1.1,h1,by unfold PySem.W.notCls;rw [h3],by rw [h2];exact p2.1⟩
 exact aGy I1.kIn ia ek fk hl rfl fun t'=>⟨.int i,H1,I1.tok t',⟨_,rfl⟩,k _ H1 ⟨.int i,M,bL,hm,.refl _,q⟩⟩
end
end Dd
namespace Dd
open PySem PySem.Spec PyProof.Rows L2 Mz
noncomputable def xM (w:World) (K:PySem.W.Frag) (mg:Str->Option Value) (x:Str) (tab:List (Str × Int)) (non:List Str):Prop :=
 ∃ a es ep,mg x = some (.ref a)/\(a == sysModules) = false/\K.lookup a = some ⟨.type "dict",none,.dict es ep,#[]⟩/\PySem.W.KeysLit w.params es.toList/\(∀ k n,tab.lookup k = some n->∃ t,PySem.W.nsIn K a k = some (some (.int n t)))/\∀ k ∈ non,PySem.W.nsIn K a k = some none
noncomputable def aDt (tab:List (Str × Int)) (non:List Str) (Q:DQ) (ds:List D) (M1:DM):Prop:=match ds with
 | [.str k]=>(∃ n,tab.lookup k = some n/\Q (.int n) M1) ∨ (k ∈ non/\Q .non M1)
 | _=>False
noncomputable def aBy (tab:List (Str × Int)) (non:List Str) (te:DE):DE:=fun ρ M Q=>hG te oP ρ M (aDt tab non Q)
section
variable {X:Cx} {x:Str} {tab:List (Str × Int)} {non:List Str} {p apos cpos:Pos} {e:Expr} {te:DE}
theorem aCK (T:xM X.w X.K X.mg x tab non) (he:PDE X e te) (hg:Gl X x:=by rfl) (hd:(x == ("__debug__":Str)) = false:=by decide)
  (hbase:attributeBase (.Name x p) "get" X.env (eval (.Name x p) X.env) = eval (.Name x p) X.env:=by rfl)
  (hfew:((backTo cpos (starEach [e] X.env)).all (fun x=>!x.1) && (backToKw cpos (keywordEach [] X.env)).all (fun x=>x.1.isSome)
   && decide ([e].length + ([]:List Keyword).length + (if ([]:List Keyword).isEmpty then 0 else 1) < 30)) = true:=by rfl)
  (hline:(apos.endLine == cpos.line) = true:=by rfl) (hs:starEach [e] X.env = (false,eval e X.env) :: starEach [] X.env:=by rfl) (hplain:(backTo cpos (starEach [] X.env)).any (·.1) = false:=by rfl) :
  PDE X (.Call (.Attribute (.Name x p) "get" apos) [e] [] cpos) (aBy tab non te):=by
 obtain ⟨a,es,ep,hm,hsm,hk,ks,look,nol⟩:=T
 intro pins s σ H Q I ⟨ρ,M,Q',re,hm',q,kq⟩
 refine wpAny_Call_method_late hbase hfew hline rfl (iP I hg hm ?_ hd)
 have mo:=PySem.W.mapOf_K (prog:=X.prog) (w:=X.w) I.kIn hk ks
 refine ⟨"dict","dict.get",PySem.F.plainAttrs_dict,PySem.F.slot_dict_get,PySem.F.type_dict_get,mo.typeIs,?_,?_⟩
 ·intro b e;cases e;exact ⟨_,I.kIn _ _ hk,rfl⟩
 ·have hA:=(kU he pL hs:PDA X [e] (hG te oP)) cpos pins s σ H (LA X.K H (aDt tab non Q')) I ⟨ρ,M,_,re,hm',q,fun vs H' z=>z⟩
  rw [hs] at hA ⊢
  refine Calls.callWith_builtin (by show (false || (backTo cpos (starEach [] X.env)).any (·.1)) = false;rw [hplain]<;>rfl) (Calls.evalArgs_plain (thn hA fun us s1 ⟨vs,H1,I1,rv,ds,M1,rs,hm1,ex,q1⟩=>?_))
  match ds,q1 with
  | [.str k],q1 =>
   obtain ⟨v,rfl,r1⟩:=gG rs
   obtain rfl:=bI r1
   obtain ⟨u,rfl,ru⟩:=rZ rv
   obtain ⟨t,rfl⟩:=ru
   have mo1:=PySem.W.mapOf_K (prog:=X.prog) (w:=X.w) I1.kIn hk ks
   refine call_meetsIn PySem.F.slot_dict_get mo1.typeIs PySem.F.entry_dict_get (PySem.F.args_dict_get_2 _ _) (meets_dict_get (PySem.strKind X.prog X.w) a (strKind_is X.prog X.w k t) hsm) ⟨_,mo1,?_⟩
   rcases q1 with ⟨n,hn,q1⟩ | ⟨hn,q1⟩
   ·obtain ⟨t',hf⟩:=look k n hn
    rw [PySem.W.find_K hk hf]
    exact ⟨.int n,H1,I1.tok _,⟨_,rfl⟩,kq _ _ ⟨.int n,M1,bL,hm1,ex,q1⟩⟩
   ·rw [PySem.W.find_K hk (nol k hn)]
    exact ⟨.non,H1,I1.tok _,rfl,kq _ _ ⟨.non,M1,pC,hm1,ex,q1⟩⟩
end
end Dd
namespace Dd
open PySem PySem.Spec PyProof.Rows L2
section
variable {X:Cx} {pins:List (Addr × Obj)} {σ:L2.St} {H:Hp} {s:Shared} {M:Model} {A:Around} {E:Value->Shared->Prop} {e T:Addr} {cls:Value} {od:Option Addr}
end
section
variable {X:Cx} {pins:List (Addr × Obj)} {σ:L2.St} {H:Hp} {s:Shared} {x f:Str} {C:Addr} {k:Nat} {i:Int}
end
section
variable {X:Cx} {x:Str} {V:Int->DM->Prop} {e:Expr} {te:DE} {np cpos pos:Pos} {k:Nat}
theorem qH (R:tY X x V) (hr:dN k X.A) (hk:2<=k) (he:ZE X e te) (hg:Gl X x:=by rfl) (hd:(x == ("__debug__":Str)) = false:=by decide) (hst:starEach [e] X.env = (false,eval e X.env) :: starEach [] X.env:=by rfl) (hpl:(backTo cpos (starEach [] X.env)).any (·.1) = false:=by rfl):ZS X (.Raise (some (.Call (.Name x np) [e] [] cpos)) none pos) (tK V te):=.i (zC R hr hk he.o hg hd hst hpl)
end
section
variable {X:Cx} {e:Expr} {es:List Expr} {t:DA} {fn f:Str} {ps:List Str} {cond:List D->DM->Int->Prop} {C:Addr} {k1 k:Nat} {V:Int->DM->Prop} {pf pc:Pos}
theorem rY (hH:fN X.prog X.w X.K X.mg X.base k1 fn ps C f cond) (hr:dN k X.A) (hk1:k1<=k) (PO:xJ X C f V) (ha:ZA X (e :: es) t) (hg:Gl X fn:=by rfl) (hdb:(fn == ("__debug__":Str)) = false:=by decide) (he:starEach (e :: es) X.env = (false,eval e X.env) :: starEach es X.env:=by rfl) (hpl:(backTo pc (starEach es X.env)).any (·.1) = false:=by rfl):ZE X (.Call (.Name fn pf) (e :: es) [] pc) (wE V cond t):=.i (zO hH hr hk1 PO ha.o hg hdb he hpl)
end
section
variable {P:Program} {w:World} {K:PySem.W.Frag} {mg:Str->Option Value} {base:Heap}
end
section
variable {X:Cx} {pins:List (Addr × Obj)} {σ:L2.St} {H:Hp} {s:Shared} {a e:Addr} {o:Obj} {fs:List (Str × V)}
end
section
variable {X:Cx} {a:Expr} {e:Expr} {es:List Expr} {t:DA} {x f n cm fl:Str} {ps:List Str} {sp:DSp} {cond:List D->DM->Int->Prop} {C Cm:Addr} {k1 k2 k i j:Nat} {ts:Addr->Int->DS} {b0:Stmt} {suite:List Stmt} {px pf pc pa pcm ph pos:Pos}
theorem yX (hH:fN X.prog X.w X.K X.mg X.base k1 f ps C fl cond) (hh:Has X.prog X.w X.K X.mg X.base k2 f ps sp) (hr:dN k X.A) (hk1:k1<=k) (hk2:k2<=k) (hN:X.N.Nodup) (hcm:X.mg cm = some (.ref Cm)) (hmt:PySem.W.exmOne X.K (.ref C) (.ref Cm) = some true) (ha:ZA X (e :: es) t) (hsu:∀ i a o dx oD t,ExY o C dx->PySem.W.lookIn fl oD = some (some (.int i t))->ZSs (Exc (Pn X dx oD) a o) (b0 :: suite) (ts a i)) (hi:X.N[i]? = some x:=by rfl) (hj:X.N[j]? = some n:=by rfl) (hxl:X.env.scope.names.lookup x = some .local:=by rfl) (hnl:X.env.scope.names.lookup n = some .local:=by rfl) (hs:X.stack = X.env :: X.outer:=by rfl) (hf:X.env.frame = some X.env.locals:=by rfl) (hex:X.ex = []:=by rfl) (hX:∀ e s,X.xe e s->False:=by exact fun _ _ z=>z) (hgc:Gl X cm:=by rfl) (hdc:(cm == ("__debug__":Str)) = false:=by decide) (hg:Gl X f:=by rfl) (hdb:(f == ("__debug__":Str)) = false:=by decide) (he:starEach (e :: es) X.env = (false,eval e X.env) :: starEach es X.env:=by rfl) (hpl:(backTo pc (starEach es X.env)).any (·.1) = false:=by rfl) (hsw:swapsWith (.Call (.Name f pf) (e :: es) [] pc) (some (.Name x px)) pa.line X.env = pure false:=by rfl):ZS X (.Try [.Assign [.Name x px] (.Call (.Name f pf) (e :: es) [] pc) pa] [.ExceptHandler (some (.Name cm pcm)) (some n) (b0 :: suite) ph] [] [] pos) (aBu sp cond j t (fun D d ρ M=>D.nx (ρ.set i (some d)) M) ts):=.i (aBj hH hh hr hk1 hk2 hN hcm hmt ha.o (fun i a o dx oD t h1 h2=>(hsu i a o dx oD t h1 h2).o) hi hj hxl hnl hs hf hex hX hgc hdc hg hdb he hpl hsw)
end
section
variable {X:Cx} {n f:Str} {C a dx:Addr} {o oD:Obj} {p pos:Pos} {j:Nat} {i:Int} {tk:Tok}
theorem aCu (ho:ExY o C dx) (hl:PySem.W.lookIn f oD = some (some (.int i tk))) (ek:nE X.K C) (fk:oR X.K C f) (hj:X.N[j]? = some n:=by rfl) (hnl:Vis X.env.scope n:=by first | exact Or.inl rfl | exact Or.inr (Or.inl rfl) | exact Or.inr (Or.inr rfl)) (hd1:(n == ("__debug__":Str)) = false:=by decide) (hd2:(n == ("__classdict__":Str)) = false:=by decide) (hb:attributeBase (.Name n p) f X.env (eval (.Name n p) X.env) = eval (.Name n p) X.env:=by rfl):ZE (Exc (Pn X dx oD) a o) (.Attribute (.Name n p) f pos) (aA5 j a i):=.i (aAK ho hl ek fk hj hnl hd1 hd2 hb)
end
section
variable {X:Cx} {x:Str} {tab:List (Str × Int)} {non:List Str} {p apos cpos:Pos} {e:Expr} {te:DE}
theorem aAt (T:xM X.w X.K X.mg x tab non) (he:ZE X e te) (hg:Gl X x:=by rfl) (hd:(x == ("__debug__":Str)) = false:=by decide) (hbase:attributeBase (.Name x p) "get" X.env (eval (.Name x p) X.env) = eval (.Name x p) X.env:=by rfl) (hfew:((backTo cpos (starEach [e] X.env)).all (fun x=>!x.1) && (backToKw cpos (keywordEach [] X.env)).all (fun x=>x.1.isSome)
   && decide ([e].length + ([]:List Keyword).length + (if ([]:List Keyword).isEmpty then 0 else 1) < 30)) = true:=by rfl) (hline:(apos.endLine == cpos.line) = true:=by rfl) (hs:starEach [e] X.env = (false,eval e X.env) :: starEach [] X.env:=by rfl) (hplain:(backTo cpos (starEach [] X.env)).any (·.1) = false:=by rfl):ZE X (.Call (.Attribute (.Name x p) "get" apos) [e] [] cpos) (aBy tab non te):=.i (aCK T he.o hg hd hbase hfew hline hs hplain)
end
end Dd
namespace Dd
open PySem PySem.Spec PyProof.Rows L2 Mz
theorem aC1 {K:PySem.W.Frag} {H:Hp} {k:Str} {kvs:List (Str × D)} {xs:List (Str × Value)} (h:Paired (SX K H) kvs xs) (hn:kvs.find? (fun p=>decide (p.1 = k)) = none):valueAt xs k = none:=by
 have e:=xA (k:=k) h
 have:(kvs.any fun kv=>decide (kv.1 = k)) = false:=by
  rw [List.any_eq_false]
  intro x hx z
  have:=List.find?_eq_none.mp hn x hx
  exact this z
 rw [this] at e
 cases hv:valueAt xs k with
 | none=>rfl
 | some v=>rw [hv] at e;cases e
noncomputable def aDT (w:World) (a:Addr) (Q:DQ) (ds:List D) (M2:DM):Prop:=match ds with
 | [.str k,dv]=>∃ kvs,M2 (.d a) = some (lM w kvs)/\(kvs.map (·.1)).Nodup/\Q (((kvs.find? fun p=>decide (p.1 = k)).map (·.2)).getD dv) M2
 | _=>False
noncomputable def aAb (w:World) (to te ti:DE):DE:=fun ρ M Q=>to ρ M fun x M1=>match x with
 | .ref a=>(∃ kvs,M1 (.d a) = some (lM w kvs)/\(kvs.map (·.1)).Nodup)/\hG te (hG ti oP) ρ M1 (aDT w a Q)
 | _=>False
section
variable {X:Cx} {o e e2:Expr} {to te ti:DE} {apos cpos pos:Pos}
theorem yE:OpD X (compareOp .NotIn) (aGa X.w not):=fun pins s σ H x y v u Q I rx ry ⟨dx,dy,M,Q',r1,r2,hm,q,k⟩=>by
 match dx,dy,q with
 | .str kk,.ref a,q =>
  obtain ⟨kvs,ha,nd,q⟩:=q
  obtain rfl:=bI r1
  obtain rfl:=aW r2
  obtain ⟨t,rfl⟩:=rx
  cases ry
  obtain ⟨es,xs,hH,hx,hd,hs,lx⟩:=mI I hm ha nd
  refine wpAny_notIn_of (strKind_is X.prog X.w kk t) hs hd.mapOf ?_
  rw [xA hx]
  exact ⟨.bl _,H,I.tok _,rfl,k _ H ⟨_,M,cL,hm,.refl H,q⟩⟩
theorem aCF (ho:PDE X o to) (he:PDE X e te) (hi:PDE X e2 ti) (hbase:attributeBase o "get" X.env (eval o X.env) = eval o X.env:=by rfl)
  (hfew:((backTo cpos (starEach [e,e2] X.env)).all (fun x=>!x.1) && (backToKw cpos (keywordEach [] X.env)).all (fun x=>x.1.isSome)
   && decide ([e,e2].length + ([]:List Keyword).length + (if ([]:List Keyword).isEmpty then 0 else 1) < 30)) = true:=by rfl)
  (hline:(apos.endLine == cpos.line) = true:=by rfl) (hs:starEach [e,e2] X.env = (false,eval e X.env) :: starEach [e2] X.env:=by rfl) (hs2:starEach [e2] X.env = (false,eval e2 X.env) :: starEach [] X.env:=by rfl) (hplain:(backTo cpos (starEach [e2] X.env)).any (·.1) = false:=by rfl) :
  PDE X (.Call (.Attribute o "get" apos) [e,e2] [] cpos) (aAb X.w to te ti):=by
 intro pins s σ H Q I ⟨ρ,M,Q',re,hm',q,kq⟩
 refine wpAny_Call_method_late hbase hfew hline rfl (thn (ho pins s σ H (LQ X.K H _) I ⟨ρ,M,_,re,hm',q,fun _ _ z=>z⟩) fun u0 s0 ⟨y0,H0,I0,ry0,d0,M0,r0,hm0,e0,q0⟩=>?_)
 match d0,q0 with
 | .ref a,q0 =>
  obtain ⟨⟨kvs0,ha0,nd0⟩,q0⟩:=q0
  rw [aW r0] at ry0
  cases ry0
  obtain ⟨es0,xs0,hH0,hx0,hd0,hsy0,lx0⟩:=mI I0 hm0 ha0 nd0
  have mo0:=hd0.mapOf
  refine ⟨"dict","dict.get",PySem.F.plainAttrs_dict,PySem.F.slot_dict_get,PySem.F.type_dict_get,mo0.typeIs,mo0.noDict,?_⟩
  have hA:=(kU he (kU hi pL hs2) hs:PDA X [e,e2] (hG te (hG ti oP))) cpos pins s0 σ H0 (LA X.K H0 (aDT X.w a Q')) I0 ⟨ρ,M0,_,re.ext e0,hm0,q0,fun vs H' z=>z⟩
  rw [hs] at hA ⊢
  refine Calls.callWith_builtin (by show (false || (backTo cpos (starEach [e2] X.env)).any (·.1)) = false;rw [hplain]<;>rfl) (Calls.evalArgs_plain (thn hA fun us s1 ⟨vs,H1,I1,rv,ds,M1,rs,hm1,ex,q1⟩=>?_))
  match ds,q1 with
  | [.str k,dv],q1 =>
   obtain ⟨kvs,ha,nd,q1⟩:=q1
   obtain ⟨v1,r2,rfl,hv1,r3⟩:=aO rs
   obtain rfl:=bI hv1
   obtain ⟨v2,r4,rfl,hv2,r5⟩:=aO r3
   obtain rfl:=aX r5
   obtain ⟨u1,u2,rfl,ru1,ru2⟩:=rv.two
   obtain ⟨t,rfl⟩:=ru1
   obtain ⟨es,xs,hH,hx,hd,hsy,lx⟩:=mI I1 hm1 ha nd
   have mo1:=hd.mapOf
   refine call_meetsIn PySem.F.slot_dict_get mo1.typeIs PySem.F.entry_dict_get (PySem.F.args_dict_get_3 _ _ _) (meets_dict_get_default (PySem.strKind X.prog X.w) a (strKind_is X.prog X.w k t) hsy u2) ⟨_,mo1,?_⟩
   cases hf:kvs.find? (fun p=>decide (p.1 = k)) with
   | none =>
    rw [hf] at q1
    rw [aC1 hx hf]
    exact ⟨v2,H1,I1.tok _,ru2,kq _ _ ⟨dv,M1,hv2,hm1,e0.trans ex,q1⟩⟩
   | some p =>
    rw [hf] at q1
    obtain ⟨u,vv,hv,qv,rv'⟩:=aDk (k:=k) (d:=p.2) hx (by rw [hf];rfl)
    rw [hv]
    exact ⟨vv,H1,I1.tok _,qv,kq _ _ ⟨p.2,M1,rv',hm1,e0.trans ex,q1⟩⟩
theorem yK {k1 v1 k2 v2 k3 v3 k4 v4 k5 v5 k6 v6 k7 v7:Expr} {a1 b1 a2 b2 a3 b3 a4 b4 a5 b5 a6 b6 a7 b7:DE} (hk1:PDE X k1 a1) (hv1:PDE X v1 b1) (hk2:PDE X k2 a2) (hv2:PDE X v2 b2) (hk3:PDE X k3 a3) (hv3:PDE X v3 b3) (hk4:PDE X k4 a4) (hv4:PDE X v4 b4) (hk5:PDE X k5 a5) (hv5:PDE X v5 b5) (hk6:PDE X k6 a6) (hv6:PDE X v6 b6) (hk7:PDE X k7 a7) (hv7:PDE X v7 b7):PDE X (.Dict [some k1,some k2,some k3,some k4,some k5,some k6,some k7] [v1,v2,v3,v4,v5,v6,v7] pos) (tR X.w [(a1,b1),(a2,b2),(a3,b3),(a4,b4),(a5,b5),(a6,b6),(a7,b7)]) :=
 aBB (gL hk1 hv1 (gL hk2 hv2 (gL hk3 hv3 (gL hk4 hv4 (gL hk5 hv5 (gL hk6 hv6 (gL hk7 hv7 aCt))))))) rfl rfl (fun e=>nomatch e) (Nat.le_of_ble_eq_true rfl)
end
section
open PySem.W PySem.Calls
variable {prog:Program} {w:World} {A:Around} {E:Value->Shared->Prop} {s:Shared} {K:Frag} {x C D:Addr} {ox:Obj} {od:Option Obj}
theorem wG {Q:Option Value->Shared->Prop} (X:K.In s.heap) (I:InstAt s.heap x ox D od) (hga:findIn K (.ref D) "__getattribute__" = some (some (.builtin "BaseException.__getattribute__")))
  (hgn:findIn K (.ref D) "__getattr__" = some none) (hcl:findIn K (.ref D) "__class__" = some (some (.builtin "object.__class__"))) (hcd:(clsIn K D).isSome = true) (hn:specialIn K (.builtin "object.__class__") "__get__" = some (some (.builtin "getset_descriptor.__get__"))) (htk:takesIn K (.builtin "object.__class__") = some true) (hm:mroIn K D (.type "object") = some true) (hmb:mroIn K D (.type "BaseException") = some true)
  (h:Q (some (.ref D)) { s with toks:=s.toks + 1 }):wpAny (model prog w) A (getAttr? (.ref x) "__class__") Q E s:=by
 obtain ⟨hh,g,d,t,os⟩:=s
 have L0:=I.type (M:=model prog w)
 have L1:=looks_findIn (M:=model prog w) X hga
 unfold getAttr? getAttrBy? getAttrBy
 refine wpAny_bind (wpAny_mkText (wpAny_bind (wpAny_attempt (wpAny_holding (wpAny_bind (L0.at (wpAny_bind (L1.at ?_))))))))
 have hx2:(onTheHeap (Value.ref D) && Value.builtin "BaseException.__getattribute__" == Value.builtin "object.__getattribute__") = false:=by
  rw [show (Value.builtin "BaseException.__getattribute__" == Value.builtin "object.__getattribute__") = false by decide +kernel,Bool.and_false]
 dsimp only
 rw [if_neg (by rw [hx2];exact Bool.false_ne_true)]
 have f3:=PySem.F.attr_ValueError.ga.bind (.ref x)
 have L2:=looks_findIn (M:=model prog w) X hgn
 have L3:=looks_mroIn (M:=model prog w) X hmb
 have hf:findObj K D od "__class__" = some (.bind (.builtin "getset_descriptor.__get__") (.builtin "object.__class__")):=by
  obtain ⟨cd,hc⟩:=Option.isSome_iff_exists.mp hcd
  unfold findObj
  rw [hc,Option.bind_some,hcl,Option.bind_some]
  simp [hn,htk]
 have L4:=looks_find (M:=model prog w) X I hf
 unfold getAttrByItsOwn hookBefore callGetattribute
 refine wpAny_bind ?_
 rw [if_pos (show onTheHeap (Value.ref D) = true from rfl)]
 refine L2.at ?_
 refine wpAny_bind (wpAny_attempt (wpAny_holding ?_))
 rw [if_neg (by simp)]
 unfold boundAndCalled
 rw [f3]
 refine wpAny_bind (wpAny_pure ?_)
 dsimp only [List.cons_append,List.nil_append]
 have hk:builtinKind "BaseException.__getattribute__" = some .slot:=by decide +kernel
 have hsplit:splitId "BaseException.__getattribute__" = some ("BaseException","__getattribute__"):=by decide +kernel
 have ha:=PySem.F.args_bexc_ga (.ref x) (.str "__class__" t)
 refine wpAny_call (codeAny_call_builtin PySem.F.attr_ValueError.ga.plain PySem.F.entry_bexc_ga ?_)
 simp only [checkBuiltinCall,hk,hsplit]
 refine wpAny_bind ?_
 unfold isInstance
 refine wpAny_bind (L0.at ?_)
 refine L3.at ?_
 simp only [Bool.not_true,Bool.false_eq_true,if_false]
 repeat (any_goals (first | assumption | (with_reducible refine L0.at ?_) | (with_reducible refine L4.at ?_) | wp_step))
 refine class_get (ox:=ox) (od:=od) X I hm ?_
 repeat (any_goals (first | assumption | exact h | wp_step))
theorem rO {o oD:Obj} {dx:Addr} (e:nE K D) (ho:ExY o D dx):KitX K (.ref x) (.ref D) (fun h=>h.get? x = some o/\h.get? dx = some oD) where
 ty:=fun _ _ _ q=>ho.1 ▸ (Looks.ld q.1).andThen .now
 it:=fun _ _ X _=>by
  obtain ⟨cdD,hcD⟩:=e.cd
  unfold clsIn at hcD
  split at hcD
  ·rename_i c' d' cd' sl' hk
   intro A' Q' E' s' k q
   unfold isType loadHead
   exact wpAny_bind (wpAny_loadPart (k _ _ (X _ _ hk)) (wpAny_pure q))
  ·cases hcD
 ne:=fun h tp dd its n sl X htp=>by
  obtain ⟨cdD,hcD⟩:=e.cd
  refine Bool.eq_false_iff.mpr fun q=>?_
  have ee:D = tp:=Value.ref.inj (beq_iff_eq.mp q)
  subst ee
  unfold clsIn at hcD
  split at hcD
  ·rename_i c' d' cd' sl' hk
   have z:=(X _ _ hk).symm.trans htp
   cases z
  ·cases hcD
 ca:=fun {_ _ _ _ _ s} X q k=>by
  obtain ⟨h1,h2,vs,h3⟩:=ho
  have I:InstAt s.heap x o D (some oD):=⟨q.1,h1,by unfold notCls;rw [h3],by rw [h2];exact q.2⟩
  exact wG X I e.ga e.gn e.cl (by obtain ⟨cd,z⟩:=e.cd;rw [z];rfl) e.nn e.tk e.mo e.mb k
end
section
variable {X:Cx} {n c:Str} {C Cc a dx:Addr} {o oD:Obj} {p p1 p2 pos:Pos} {j:Nat}
theorem aBU {b:Bool} (ho:ExY o C dx) (ek:nE X.K C) (hcc:X.mg c = some (.ref Cc)) (hki:PySem.W.kitOne X.K (.ref C) (.ref Cc) = some b) (hmi:X.mg "isinstance" = none) (hj:X.N[j]? = some n:=by rfl) (hnl:Vis X.env.scope n:=by first | exact Or.inl rfl | exact Or.inr (Or.inl rfl) | exact Or.inr (Or.inr rfl))
  (hgi:Gl X "isinstance":=by rfl) (hgc:Gl X c:=by rfl) (hd1:(n == ("__debug__":Str)) = false:=by decide) (hd2:(n == ("__classdict__":Str)) = false:=by decide) (hd3:(c == ("__debug__":Str)) = false:=by decide)
  (hs:∀ env:Env,starEach [.Name n p1,.Name c p2] env = (false,eval (.Name n p1) env) :: starEach [.Name c p2] env:=by intro _;rfl) (hs2:∀ env:Env,starEach [.Name c p2] env = (false,eval (.Name c p2) env) :: starEach [] env:=by intro _;rfl)
  (hpl:(backTo pos (starEach [.Name c p2] X.env)).any (·.1) = false:=by rfl) :
  PDE (Exc (Pn X dx oD) a o) (.Call (.Name "isinstance" p) [.Name n p1,.Name c p2] [] pos) (aAh b j a):=by
 have hc:gY (Exc (Pn X dx oD) a o) (.builtin "isinstance") fun vs H Q=>vs = [.ref a,.ref Cc]/\Q (.bl b) H:=by
  intro pins s σ H xs us Q I rs ⟨e,q⟩
  subst e
  obtain ⟨u1,us1,rfl,r1,rs1⟩:∃ u1 us1,us = u1 :: us1/\bF (.ref a) u1/\bM [.ref Cc] us1:=by cases rs with | cons r t=>exact ⟨_,_,rfl,r,t⟩
  obtain ⟨u2,us2,rfl,r2,rs2⟩:∃ u2 us2,us1 = u2 :: us2/\bF (.ref Cc) u2/\bM [] us2:=by cases rs1 with | cons r t=>exact ⟨_,_,rfl,r,t⟩
  obtain rfl:us2 = []:=by cases rs2;rfl
  obtain rfl:u1 = Value.ref a:=r1
  obtain rfl:u2 = Value.ref Cc:=r2
  have pn1:=I.pin (a,o) (List.mem_append_left _ (List.mem_cons_self))
  have pn2:=I.pin (dx,oD) (List.mem_append_left _ (List.mem_cons_of_mem _ (List.mem_cons_self)))
  exact PySem.W.kia_one (rO ek ho) I.kIn ⟨pn1.1,pn2.1⟩ hki (fun z=>nomatch z) fun tk=>⟨.bl b,H,I.tok tk,rfl,q⟩
 refine cF (mE (X:=Exc (Pn X dx oD) a o) hc hgi hmi rfl (iZ (nF (X:=Exc (Pn X dx oD) a o) (i:=j) hj hnl hd1 hd2) (iZ (xW (X:=Exc (Pn X dx oD) a o) (v:=.ref Cc) hgc hcc rfl hd3) sP (hs2 _)) (hs _)) (by decide) (by decide) (hs _) hpl) fun σ H Q ⟨ρ,M,Q',re,hm,⟨e,q⟩,k⟩=>?_
 obtain ⟨v,e1,rv⟩:=re.get j _ e
 obtain rfl:=aW rv
 exact ⟨_,e1,rfl,k _ H ⟨_,M,cL,hm,.refl H,q⟩⟩
theorem zT {T:String} (ho:ExY o C dx) (hki:PySem.W.kitOne X.K (.ref C) (.type T) = some true) (hmi:X.mg "isinstance" = none) (hmc:X.mg c = none) (hv:bootBuiltins c = some (.type T):=by rfl) (hj:X.N[j]? = some n:=by rfl) (hnl:Vis X.env.scope n:=by first | exact Or.inl rfl | exact Or.inr (Or.inl rfl) | exact Or.inr (Or.inr rfl))
  (hgi:Gl X "isinstance":=by rfl) (hgc:Gl X c:=by rfl) (hnn:c ≠ "__name__":=by decide) (hd1:(n == ("__debug__":Str)) = false:=by decide) (hd2:(n == ("__classdict__":Str)) = false:=by decide) (hd3:(c == ("__debug__":Str)) = false:=by decide)
  (hs:∀ env:Env,starEach [.Name n p1,.Name c p2] env = (false,eval (.Name n p1) env) :: starEach [.Name c p2] env:=by intro _;rfl) (hs2:∀ env:Env,starEach [.Name c p2] env = (false,eval (.Name c p2) env) :: starEach [] env:=by intro _;rfl)
  (hpl:(backTo pos (starEach [.Name c p2] X.env)).any (·.1) = false:=by rfl) :
  PDE (Exc (Pn X dx oD) a o) (.Call (.Name "isinstance" p) [.Name n p1,.Name c p2] [] pos) (aEe j a):=by
 have hc:gY (Exc (Pn X dx oD) a o) (.builtin "isinstance") fun vs H Q=>vs = [.ref a,.ty T]/\Q (.bl true) H:=by
  intro pins s σ H xs us Q I rs ⟨e,q⟩
  subst e
  obtain ⟨u1,us1,rfl,r1,rs1⟩:∃ u1 us1,us = u1 :: us1/\bF (.ref a) u1/\bM [.ty T] us1:=by cases rs with | cons r t=>exact ⟨_,_,rfl,r,t⟩
  obtain ⟨u2,us2,rfl,r2,rs2⟩:∃ u2 us2,us1 = u2 :: us2/\bF (.ty T) u2/\bM [] us2:=by cases rs1 with | cons r t=>exact ⟨_,_,rfl,r,t⟩
  obtain rfl:us2 = []:=by cases rs2;rfl
  obtain rfl:u1 = Value.ref a:=r1
  obtain rfl:u2 = Value.type T:=r2
  have pn:=I.pin (a,o) (List.mem_append_left _ (List.mem_cons_self))
  exact aBE (K:=X.K) (H:=fun h=>h.get? a = some o) (fun M h e=>ho.1 ▸ (PySem.W.Looks.ld e).andThen .now) I.kIn pn.1 hki (fun z=>nomatch z) fun tk=>⟨.bl true,H,I.tok tk,rfl,q⟩
 refine cF (mE (X:=Exc (Pn X dx oD) a o) hc hgi hmi rfl (iZ (nF (X:=Exc (Pn X dx oD) a o) (i:=j) hj hnl hd1 hd2) (iZ (wQ (X:=Exc (Pn X dx oD) a o) (v:=.ty T) hgc hmc hv rfl hnn hd3) sP (hs2 _)) (hs _)) (by decide) (by decide) (hs _) hpl) fun σ H Q ⟨ρ,M,Q',re,hm,⟨e,q⟩,k⟩=>?_
 obtain ⟨v,e1,rv⟩:=re.get j _ e
 obtain rfl:=aW rv
 exact ⟨_,e1,rfl,k _ H ⟨_,M,cL,hm,.refl H,q⟩⟩
theorem aAQ (ho:ExY o C dx) (ek:nE X.K C):eQ (Exc (Pn X dx oD) a o) (.builtin "isinstance") (aDg X.K C a):=by
 intro pins s σ H xs us Q I rs ⟨ds,M,Q',r1,hm,⟨cs,b,e,hk,q⟩,k⟩
 subst e
 obtain ⟨v1,r2,rfl,hv1,r3⟩:=aO r1
 obtain rfl:=aW hv1
 obtain ⟨v2,r4,rfl,hv2,r5⟩:=aO r3
 obtain rfl:=aX r5
 obtain ⟨tp,ys,rfl,sq,ry⟩:=bS hv2
 obtain ⟨u1,us1,rfl,w1,rs1⟩:∃ u1 us1,us = u1 :: us1/\bF (.ref a) u1/\bM [.ref tp] us1:=by cases rs with | cons r t=>exact ⟨_,_,rfl,r,t⟩
 obtain ⟨u2,us2,rfl,w2,rs2⟩:∃ u2 us2,us1 = u2 :: us2/\bF (.ref tp) u2/\bM [] us2:=by cases rs1 with | cons r t=>exact ⟨_,_,rfl,r,t⟩
 obtain rfl:us2 = []:=by cases rs2;rfl
 obtain rfl:u1 = Value.ref a:=w1
 obtain rfl:u2 = Value.ref tp:=w2
 have pn1:=I.pin (a,o) (List.mem_append_left _ (List.mem_cons_self))
 have pn2:=I.pin (dx,oD) (List.mem_append_left _ (List.mem_cons_of_mem _ (List.mem_cons_self)))
 obtain ⟨its,hv,⟨ot,h1,h2,nn,h3⟩,_⟩:=I.tuple sq
 obtain rfl:=sI ry hv
 obtain ⟨oc,od,oda,osl⟩:=ot
 dsimp only at h2 h3
 subst h2 h3
 exact PySem.W.kia_tup (rO ek ho) I.kIn ⟨pn1.1,pn2.1⟩ h1 hk (fun z=>nomatch z) fun tk=>⟨.bl b,H,I.tok tk,rfl,k _ H ⟨_,M,cL,hm,.refl H,q⟩⟩
theorem aAT {T:String} {f:Str} {i:Int} {tk:Tok} {p3:Pos} (ho:ExY o C dx) (hl:PySem.W.lookIn f oD = some (some (.int i tk))) (ek:nE X.K C) (fk:oR X.K C f) (hmi:X.mg "isinstance" = none) (hmc:X.mg c = none) (hv:bootBuiltins c = some (.type T):=by rfl) (hj:X.N[j]? = some n:=by rfl) (hnl:Vis X.env.scope n:=by first | exact Or.inl rfl | exact Or.inr (Or.inl rfl) | exact Or.inr (Or.inr rfl))
  (hd1:(n == ("__debug__":Str)) = false:=by decide) (hd2:(n == ("__classdict__":Str)) = false:=by decide) (hb:attributeBase (.Name n p3) f X.env (eval (.Name n p3) X.env) = eval (.Name n p3) X.env:=by rfl) (hgi:Gl X "isinstance":=by rfl) (hgc:Gl X c:=by rfl) (hnn:c ≠ "__name__":=by decide) (hd3:(c == ("__debug__":Str)) = false:=by decide)
  (hs:starEach [.Attribute (.Name n p3) f p1,.Name c p2] X.env = (false,eval (.Attribute (.Name n p3) f p1) X.env) :: starEach [.Name c p2] X.env:=by rfl) (hs2:starEach [.Name c p2] X.env = (false,eval (.Name c p2) X.env) :: starEach [] X.env:=by rfl)
  (hpl:(backTo pos (starEach [.Name c p2] X.env)).any (·.1) = false:=by rfl) :
  PDE (Exc (Pn X dx oD) a o) (.Call (.Name "isinstance" p) [.Attribute (.Name n p3) f p1,.Name c p2] [] pos) (dIs X.K (.type T) (aA5 j a i)) :=
 xQ (X:=Exc (Pn X dx oD) a o) (aAK (X:=X) ho hl ek fk hj hnl hd1 hd2 hb) hmi hmc hv hgi hgc hnn hd3 hs hs2 hpl
end
theorem aC3.nm {K:PySem.W.Frag} {mg:Str->Option Value} {x:Str} {C:Addr} (h:aC3 K mg x C):mg x = some (.ref C):=h.1
noncomputable def pF (g:Bool->Bool) (ta:DE) (tn:DA):DE:=fun ρ M Q=>ta ρ M fun x M1=>tn ρ M1 fun ds M2=>match x,ds with
 | .int k,[.int i,.int j]=>Q (.bl (g (decide (i<=k/\k < j)))) M2
 | _,_=>False
section
variable {X:Cx} {a n m:Expr} {ta:DE} {tn:DA} {pos p pos':Pos}
theorem aCY {tn:TA} {p:Pos} (hg:Gl X "range") (hm:X.mg "range" = none) (ha:PA X [n,m] tn) (hs:starEach [n,m] X.env = (false,eval n X.env) :: starEach [m] X.env) (hpl:(backTo pos (starEach [m] X.env)).any (·.1) = false) :
  PE X (.Call (.Name "range" p) [n,m] [] pos) (fun σ H Q=>tn σ H fun vs H1=>∃ i j:Int,vs = [.int i,.int j]/\∀ q,H1 q = none->Q (.ref q) (upd H1 q (.rng i j))):=by
 intro pins s σ H Q I h
 refine Call_ (pT I hg hm boot_range (PyProof.Rows.callWith_type1 (thn (ha pos pins s σ H _ I h) fun us s1 ⟨vs,H1,I1,r1,q1⟩=>?_) hs hpl))
 obtain ⟨i,j,e,q⟩:=q1
 subst e
 obtain ⟨u1,u2,rfl,ru1,ru2⟩:=r1.two
 obtain ⟨t,rfl⟩:=ru1
 obtain ⟨t2,rfl⟩:=ru2
 exact call_range_2 ⟨.ref s1.heap.objs.size,upd H1 s1.heap.objs.size (.rng i j),I1.laid (fun b u e=>Heap.get?_push_of_some _ e) (Nat.le_refl _) ⟨_,_,_,Heap.get?_push_size _ rfl⟩,rfl,q _ (I1.hok.fresh (Nat.le_refl _))⟩
theorem vZ {g:Bool->Bool} {σ:L2.St} {H:Hp} {Q:VK} (h:low X.K (pF g ta tn) σ H Q) :
  low X.K ta σ H fun x H1=>aE6 X.K tn σ H1 fun vs H2=>∃ i j:Int,vs = [.int i,.int j]/\∀ q,H2 q = none->aAY g x (.ref q) (upd H2 q (.rng i j)) Q:=by
 obtain ⟨ρ,M,Q',re,hm,q,k⟩:=h
 refine ⟨ρ,M,_,re,hm,q,fun x H1 ⟨dx,M1,rx,hm1,e1,q1⟩=>⟨ρ,M1,_,re.ext e1,hm1,q1,fun vs H2 ⟨ds,M2,rs,hm2,e2,q2⟩=>?_⟩⟩
 match dx,ds,q2 with
 | .int z,[.int i,.int j],q2 =>
  obtain ⟨v1,r1,rfl,rv1,rr1⟩:=aO rs
  obtain ⟨v2,r2,rfl,rv2,rr2⟩:=aO rr1
  obtain rfl:=aX rr2
  obtain rfl:=aP rv1
  obtain rfl:=aP rv2
  obtain rfl:=aP rx
  exact ⟨i,j,rfl,fun p hp=>⟨z,i,j,p,rfl,rfl,cR,k _ _ ⟨_,M2,cL,hm2.new hp _,(e1.trans e2).trans (Ext.new hp _),q2⟩⟩⟩
theorem yI (ha:PDE X a ta) (hmg:X.mg "range" = none) (hn:PDA X [n,m] tn) (hgl:Gl X "range":=by rfl) (hse:starEach [n,m] X.env = (false,eval n X.env) :: starEach [m] X.env:=by rfl) (hpl:(backTo pos' (starEach [m] X.env)).any (·.1) = false:=by rfl):PDE X (.Compare a [.In] [.Call (.Name "range" p) [n,m] [] pos'] pos) (pF id ta tn) :=
 cF (xL yZ ha (aCY hgl hmg hn hse hpl) rfl) fun σ H Q h=>vZ h
end
end Dd
namespace Dd
open PySem PySem.Spec PyProof.Rows L2
section
variable {X:Cx} {o e e2:Expr} {to te ti:DE} {apos cpos pos:Pos}
theorem zS (ho:ZE X o to) (he:ZE X e te) (hi:ZE X e2 ti) (hbase:attributeBase o "get" X.env (eval o X.env) = eval o X.env:=by rfl) (hfew:((backTo cpos (starEach [e,e2] X.env)).all (fun x=>!x.1) && (backToKw cpos (keywordEach [] X.env)).all (fun x=>x.1.isSome)
   && decide ([e,e2].length + ([]:List Keyword).length + (if ([]:List Keyword).isEmpty then 0 else 1) < 30)) = true:=by rfl) (hline:(apos.endLine == cpos.line) = true:=by rfl) (hs:starEach [e,e2] X.env = (false,eval e X.env) :: starEach [e2] X.env:=by rfl) (hs2:starEach [e2] X.env = (false,eval e2 X.env) :: starEach [] X.env:=by rfl) (hplain:(backTo cpos (starEach [e2] X.env)).any (·.1) = false:=by rfl):ZE X (.Call (.Attribute o "get" apos) [e,e2] [] cpos) (aAb X.w to te ti):=.i (aCF ho.o he.o hi.o hbase hfew hline hs hs2 hplain)
theorem vO {k1 v1 k2 v2 k3 v3 k4 v4 k5 v5 k6 v6 k7 v7:Expr} {a1 b1 a2 b2 a3 b3 a4 b4 a5 b5 a6 b6 a7 b7:DE} (hk1:ZE X k1 a1) (hv1:ZE X v1 b1) (hk2:ZE X k2 a2) (hv2:ZE X v2 b2) (hk3:ZE X k3 a3) (hv3:ZE X v3 b3) (hk4:ZE X k4 a4) (hv4:ZE X v4 b4) (hk5:ZE X k5 a5) (hv5:ZE X v5 b5) (hk6:ZE X k6 a6) (hv6:ZE X v6 b6) (hk7:ZE X k7 a7) (hv7:ZE X v7 b7):ZE X (.Dict [some k1,some k2,some k3,some k4,some k5,some k6,some k7] [v1,v2,v3,v4,v5,v6,v7] pos) (tR X.w [(a1,b1),(a2,b2),(a3,b3),(a4,b4),(a5,b5),(a6,b6),(a7,b7)]):=.i (yK hk1.o hv1.o hk2.o hv2.o hk3.o hv3.o hk4.o hv4.o hk5.o hv5.o hk6.o hv6.o hk7.o hv7.o)
end
section
variable {prog:Program} {w:World} {A:Around} {E:Value->Shared->Prop} {s:Shared} {K:Frag} {x C D:Addr} {ox:Obj} {od:Option Obj}
end
section
variable {X:Cx} {n c:Str} {C Cc a dx:Addr} {o oD:Obj} {p p1 p2 pos:Pos} {j:Nat}
theorem aAU {b:Bool} (ho:ExY o C dx) (ek:nE X.K C) (hcc:X.mg c = some (.ref Cc)) (hki:PySem.W.kitOne X.K (.ref C) (.ref Cc) = some b) (hmi:X.mg "isinstance" = none) (hj:X.N[j]? = some n:=by rfl) (hnl:Vis X.env.scope n:=by first | exact Or.inl rfl | exact Or.inr (Or.inl rfl) | exact Or.inr (Or.inr rfl)) (hgi:Gl X "isinstance":=by rfl) (hgc:Gl X c:=by rfl) (hd1:(n == ("__debug__":Str)) = false:=by decide) (hd2:(n == ("__classdict__":Str)) = false:=by decide) (hd3:(c == ("__debug__":Str)) = false:=by decide) (hs:∀ env:Env,starEach [.Name n p1,.Name c p2] env = (false,eval (.Name n p1) env) :: starEach [.Name c p2] env:=by intro _;rfl) (hs2:∀ env:Env,starEach [.Name c p2] env = (false,eval (.Name c p2) env) :: starEach [] env:=by intro _;rfl) (hpl:(backTo pos (starEach [.Name c p2] X.env)).any (·.1) = false:=by rfl):ZE (Exc (Pn X dx oD) a o) (.Call (.Name "isinstance" p) [.Name n p1,.Name c p2] [] pos) (aAh b j a):=.i (aBU ho ek hcc hki hmi hj hnl hgi hgc hd1 hd2 hd3 hs hs2 hpl)
theorem zE {T:String} (ho:ExY o C dx) (hki:PySem.W.kitOne X.K (.ref C) (.type T) = some true) (hmi:X.mg "isinstance" = none) (hmc:X.mg c = none) (hv:bootBuiltins c = some (.type T):=by rfl) (hj:X.N[j]? = some n:=by rfl) (hnl:Vis X.env.scope n:=by first | exact Or.inl rfl | exact Or.inr (Or.inl rfl) | exact Or.inr (Or.inr rfl)) (hgi:Gl X "isinstance":=by rfl) (hgc:Gl X c:=by rfl) (hnn:c ≠ "__name__":=by decide) (hd1:(n == ("__debug__":Str)) = false:=by decide) (hd2:(n == ("__classdict__":Str)) = false:=by decide) (hd3:(c == ("__debug__":Str)) = false:=by decide) (hs:∀ env:Env,starEach [.Name n p1,.Name c p2] env = (false,eval (.Name n p1) env) :: starEach [.Name c p2] env:=by intro _;rfl) (hs2:∀ env:Env,starEach [.Name c p2] env = (false,eval (.Name c p2) env) :: starEach [] env:=by intro _;rfl) (hpl:(backTo pos (starEach [.Name c p2] X.env)).any (·.1) = false:=by rfl):ZE (Exc (Pn X dx oD) a o) (.Call (.Name "isinstance" p) [.Name n p1,.Name c p2] [] pos) (aEe j a):=.i (zT (T:=T) ho hki hmi hmc hv hj hnl hgi hgc hnn hd1 hd2 hd3 hs hs2 hpl)
theorem yF {T:String} {f:Str} {i:Int} {tk:Tok} {p3:Pos} (ho:ExY o C dx) (hl:PySem.W.lookIn f oD = some (some (.int i tk))) (ek:nE X.K C) (fk:oR X.K C f) (hmi:X.mg "isinstance" = none) (hmc:X.mg c = none) (hv:bootBuiltins c = some (.type T):=by rfl) (hj:X.N[j]? = some n:=by rfl) (hnl:Vis X.env.scope n:=by first | exact Or.inl rfl | exact Or.inr (Or.inl rfl) | exact Or.inr (Or.inr rfl)) (hd1:(n == ("__debug__":Str)) = false:=by decide) (hd2:(n == ("__classdict__":Str)) = false:=by decide) (hb:attributeBase (.Name n p3) f X.env (eval (.Name n p3) X.env) = eval (.Name n p3) X.env:=by rfl) (hgi:Gl X "isinstance":=by rfl) (hgc:Gl X c:=by rfl) (hnn:c ≠ "__name__":=by decide) (hd3:(c == ("__debug__":Str)) = false:=by decide) (hs:starEach [.Attribute (.Name n p3) f p1,.Name c p2] X.env = (false,eval (.Attribute (.Name n p3) f p1) X.env) :: starEach [.Name c p2] X.env:=by rfl) (hs2:starEach [.Name c p2] X.env = (false,eval (.Name c p2) X.env) :: starEach [] X.env:=by rfl) (hpl:(backTo pos (starEach [.Name c p2] X.env)).any (·.1) = false:=by rfl):ZE (Exc (Pn X dx oD) a o) (.Call (.Name "isinstance" p) [.Attribute (.Name n p3) f p1,.Name c p2] [] pos) (dIs X.K (.type T) (aA5 j a i)):=.i (aAT (T:=T) (i:=i) ho hl ek fk hmi hmc hv hj hnl hd1 hd2 hb hgi hgc hnn hd3 hs hs2 hpl)
end
section
variable {X:Cx} {a n m:Expr} {ta:DE} {tn:DA} {pos p pos':Pos}
theorem pK (ha:ZE X a ta) (hmg:X.mg "range" = none) (hn:ZA X [n,m] tn) (hgl:Gl X "range":=by rfl) (hse:starEach [n,m] X.env = (false,eval n X.env) :: starEach [m] X.env:=by rfl) (hpl:(backTo pos' (starEach [m] X.env)).any (·.1) = false:=by rfl):ZE X (.Compare a [.In] [.Call (.Name "range" p) [n,m] [] pos'] pos) (pF id ta tn):=.i (yI ha.o hmg hn.o hgl hse hpl)
end
end Dd
namespace Lw
open PySem PySem.Spec PyProof.Rows L2 Dd Mz
local macro_rules | `(tactic| decreasing_tactic) => `(tactic| try dsimp only [aAb, aDT, pF, tK, aDs, wE, aBu, aA5, aBy, aDt, aEJ, zL, aA6, aEl, aBh, aET, aF3, aAh, aF6, gH, aEe, aDg, aDF, List.map, List.length_cons, List.length_nil, Nat.reduceAdd, Nat.reduceSub, List.reduceReplicate, List.cons_append, List.nil_append, List.set_cons_zero, List.set_cons_succ, List.getElem?_cons_zero, List.getElem?_cons_succ, gCn, gN, gNl, aDS, aFD, aG7, aGI, aFZ, aGx, aG8, aGV, aGW, aCo, aCz, aC5, aBo, aEF, aCk, aC9, aBO, aCy, aBZ, aCj, aB0, aAc, aEH, aFO, aGg, aFW, aGr, ixT, ixF, aG9, aGH, aGq, aF0, aG6, aFm, mP, hG, oP, dOp, aCX, dC, d2I, d2J, aFP, rT, aDW, dOr, aFz, aA8, aDC, aBw, aFh, aEM, aDH, aBk, aFs, aAA, aEX, vM, zD, aEW, aAq, aCS, aFB, aAs, aBs, aCn, aBW, aEA, aEj, goF, vH, Option.join_some, aGz, aFL, aED, dPt, aGd, dSl, aDP, aDd, aGa, tR, aAg, aFH, tL, sV, aGG, wZ, aGi, aG0, nI, aHv, aEP, aB7, aFc, isV, aDM, aEV, aDz, aFd, aD2, aD0, aFw, aFg, aFn, aE1, aFC, aEq, aE3, aDy, aEN, aEO, aEw, aEv, aDX, aE7, aDR, aE2, aEb, aFG, aE9, aDu, aEo])
local macro_rules | `(tactic| simp_arith) => `(tactic| try simp only [wH, vT, aDw, bE, bD, id, decide_eq_true_eq, Bool.not_eq_true', decide_eq_false_iff_not])
noncomputable def top (i:Nat):Stmt:=PySem.Challenge.pw_arcmill_k20_rows_without_blocks.main.body.getD i (.Pass ⟨0,0,0,0⟩)
section
variable {P:Program} {w:World} {K:PySem.W.Frag} {mg:Str->Option Value} {base:Heap}
noncomputable abbrev eJ:Stmt:=top 10
theorem fZ:aT ["one","other"] ["one","other"] (aJ eJ):=⟨rfl,rfl,rfl,by decide +kernel,rfl,by decide +kernel,by decide +kernel⟩
theorem kN (hF:cZ K mg "greatest_divisor" eJ ["one","other"]) (lD:mg "abs" = none):Has P w K mg base 101 "greatest_divisor" ["one","other"] fY:=by
 refine Has.mkZ hF fZ (fun ds M Q ⟨a,b,e,_⟩=>by rw [e];rfl) fun f cdv A outer s H ds M Q E hr h=>?_
 obtain ⟨a,b,rfl,q⟩:=h
 refine ⟨_,(aF (rS PassesOwn.never (aS (jP hr) (aB 1) aC) (aE (pG (i:=0) (j:=1) rfl fZ.nd (aA (aB 1) (aA (aI bZ (aB 0) (aB 1)) aD)))))
  (aE (aN (bO sZ lD (aA (aB 0) aD))))),?_⟩
 refine rL (fun m ρ M'=>M' = M/\∃ x y:Int,ρ = [some (.int x),some (.int y)]/\m = y.natAbs/\Int.gcd x y = Int.gcd a b) _ ⟨rfl,a,b,rfl,rfl,rfl⟩ ?_
 rintro m ρ M' ⟨rfl,x,y,rfl,rfl,g⟩
 refine ⟨rfl,rfl,aGA (fun c=>?_) (fun c=>?_)⟩
 ·have c:y ≠ 0:=by simpa [eqD] using c
  exact ⟨c,_,xU c,rfl,y,x.fmod y,rfl,rfl,(vE x y).trans g⟩
 ·have c:y = 0:=by simpa [eqD] using c
  subst c
  refine ⟨M',.refl _,?_⟩
  have e:(if x < 0 then -x else x) = (Int.gcd a b:Int):=by rw [<- g,Int.gcd_zero_right];split<;>omega
  rw [e]
  exact q
noncomputable def oD (x y:Rat):Int:=if (x.den:Int) = (y.den:Int) then (x.den:Int) else (x.den:Int) * (y.den:Int)
noncomputable def oX (x y:Rat):Int:=if (x.den:Int) = (y.den:Int) then x.num else x.num * (y.den:Int)
noncomputable def oY (x y:Rat):Int:=if (x.den:Int) = (y.den:Int) then y.num else y.num * (x.den:Int)
theorem vN (x y:Rat):0 < oD x y:=by
 have h1:(0:Int) < x.den:=by have:=x.den_pos;omega
 have h2:(0:Int) < y.den:=by have:=y.den_pos;omega
 unfold oD;split
 ·exact h1
 ·exact Int.mul_pos h1 h2
theorem aDo (x y:Rat):((oX x y:Int):Rat) = x * (oD x y:Int):=by
 have e:=gQ x
 unfold oX oD;split
 ·rw [e]
 ·rw [Rat.intCast_mul,Rat.intCast_mul,e];grind
theorem aDq (x y:Rat):((oY x y:Int):Rat) = y * (oD x y:Int):=by
 have e:=gQ y
 unfold oY oD;split
 ·rename_i h;rw [e,h]
 ·rw [Rat.intCast_mul,Rat.intCast_mul,e];grind
theorem zF {x y:Rat} {n:Nat} (hx:BQ n x) (hy:BQ n y):Bd (n + n) (oX x y)/\Bd (n + n) (oY x y)/\Bd (n + n) (oD x y):=by
 unfold oX oY oD
 refine ⟨?_,?_,?_⟩
 ·split
  ·exact hx.1.mono (by omega)
  ·exact hx.1.mul hy.2
 ·split
  ·exact hy.1.mono (by omega)
  ·exact hy.1.mul hx.2
 ·split
  ·exact hx.2.mono (by omega)
  ·exact hx.2.mul hy.2
noncomputable def fC:DSp:=fun ds M Q=>∃ x y n,ds = [PQ x y]/\BQ n x/\BQ n y/\n<=8998/\Q (.tup [.int (oX x y),.int (oY x y),.int (oD x y)]) M
noncomputable abbrev fU:Stmt:=top 16
theorem fG:aT ["p","x","y"] ["p"] (aJ fU):=⟨rfl,rfl,rfl,by decide +kernel,rfl,by decide +kernel,by decide +kernel⟩
theorem mK (hF:cZ K mg "on_one_bottom" fU ["p"]):Has P w K mg base 101 "on_one_bottom" ["p"] fC:=by
 refine Has.mkZ hF fG (fun ds M Q ⟨x,y,n,e,_⟩=>by rw [e];rfl) fun f cdv A outer s H ds M Q E hr h=>?_
 obtain ⟨x,y,n,rfl,hx,hy,hn,q⟩:=h
 refine ⟨_,(aF (kR (aB 0) (kT (n:=2) rfl (cI (bR (i:=1) fG.nd) (cI (bR (i:=2) fG.nd) iN))))
  (aF (bA (aS (cE hr) (aH (aB 1) aC) (aH (aB 2) aC)) (aE (aN (aK (aA (aH (aB 1) aC) (aA (aH (aB 2) aC) (aA (aH (aB 1) aC) aD)))))) aR)
  (aE (aN (aK (aA (aI bU (aH (aB 1) aC) (aH (aB 2) aC)) (aA (aI bU (aH (aB 2) aC) (aH (aB 1) aC)) (aA (aI bU (aH (aB 1) aC) (aH (aB 2) aC)) aD)))))))),?_⟩
 unfold oX oY oD at q
 decreasing_tactic
 rw [bE]
 refine ⟨rfl,dif (fun c=>?_) (fun c=>?_)⟩
 ·rw [if_pos c,if_pos c,if_pos c] at q
  exact ⟨by decide,M,.refl _,q⟩
 ·rw [if_neg c,if_neg c,if_neg c] at q
  exact ⟨dJ hx.1 hy.2 (by omega),dJ hy.1 hx.2 (by omega),dJ hx.2 hy.2 (by omega),by decide,M,.refl _,q⟩
noncomputable def tV:DSp:=fun ds M Q=>∃ i,ds = [.int i]/\Q (.int (if 0 < i then 1 else if i = 0 then 0 else -1)) M
noncomputable abbrev wJ:Stmt:=top 17
theorem aB3:aT ["number"] ["number"] (aJ wJ):=⟨rfl,rfl,rfl,by decide +kernel,rfl,by decide +kernel,by decide +kernel⟩
theorem zZ (hF:cZ K mg "sign" wJ ["number"]):Has P w K mg base 101 "sign" ["number"] tV:=by
 refine Has.mkZ hF aB3 (fun ds M Q ⟨x,e,_⟩=>by rw [e];rfl) fun f cdv A outer s H ds M Q E hr h=>?_
 obtain ⟨i,rfl,q⟩:=h
 refine ⟨_,(aF (bA (aS rR (aB 0) aC) (aE (aN aC)) aR)
  (aE (aN (rN (aS (cE hr) (aB 0) aC) aC (kS aC))))),?_⟩
 decreasing_tactic
 refine dif (fun c=>?_) (fun c=>?_)
 ·rw [if_pos c] at q
  exact ⟨M,.refl _,q⟩
 ·rw [if_neg c] at q
  rw [bE]
  refine dif (fun d=>?_) (fun d=>?_)
  ·rw [if_pos d] at q
   exact ⟨M,.refl _,q⟩
  ·rw [if_neg d] at q
   exact ⟨M,.refl _,q⟩
noncomputable def fS (cx cy px py:Rat):Int:=(oX px py * oD cx cy - oX cx cy * oD px py) * (oX px py * oD cx cy - oX cx cy * oD px py) + (oY px py * oD cx cy - oY cx cy * oD px py) * (oY px py * oD cx cy - oY cx cy * oD px py)
theorem aDj (cx cy px py:Rat):((fS cx cy px py:Int):Rat) = ((px - cx) * (px - cx) + (py - cy) * (py - cy)) * (((oD cx cy:Int):Rat) * ((oD px py:Int):Rat)) * (((oD cx cy:Int):Rat) * ((oD px py:Int):Rat)):=by
 unfold fS
 simp only [Rat.intCast_add,Rat.intCast_mul,Rat.intCast_sub]
 rw [aDo,aDo,aDq,aDq]
 grind
noncomputable def lH:DSp:=fun ds M Q=>∃ cx cy px py n,ds = [PQ cx cy,PQ px py]/\BQ n cx/\BQ n cy/\BQ n px/\BQ n py/\n<=4000/\Q (.tup [.int (fS cx cy px py),.int (oD px py)]) M
noncomputable abbrev jL:Stmt:=top 19
theorem cH:aT ["c","p","cx","cy","cd","px","py","pd","x","y"] ["c","p"] (aJ jL):=⟨rfl,rfl,rfl,by decide +kernel,rfl,by decide +kernel,by decide +kernel⟩
theorem qU (hF:cZ K mg "scaled_far" jL ["c","p"]) (eG:Has P w K mg base 101 "on_one_bottom" ["p"] fC):Has P w K mg base 102 "scaled_far" ["c","p"] lH:=by
 refine Has.mkZ hF cH (fun ds M Q ⟨cx,cy,px,py,n,e,_⟩=>by rw [e];rfl) fun f cdv A outer s H ds M Q E hr h=>?_
 obtain ⟨cx,cy,px,py,n,rfl,h1,h2,h3,h4,hn,q⟩:=h
 refine ⟨_,(aF (kR (aG eG hr (by decide) (aA (aB 0) aD)) (kT (n:=3) rfl (cI (bR (i:=2) cH.nd) (cI (bR (i:=3) cH.nd) (cI (bR (i:=4) cH.nd) iN)))))
  (aF (kR (aG eG hr (by decide) (aA (aB 1) aD)) (kT (n:=3) rfl (cI (bR (i:=5) cH.nd) (cI (bR (i:=6) cH.nd) (cI (bR (i:=7) cH.nd) iN)))))
  (aF (aY (i:=8) cH.nd (aI gK (aI bU (aB 5) (aB 4)) (aI bU (aB 2) (aB 7))))
  (aF (aY (i:=9) cH.nd (aI gK (aI bU (aB 6) (aB 4)) (aI bU (aB 3) (aB 7))))
  (aE (aN (aK (aA (aI cO (aI bU (aB 8) (aB 8)) (aI bU (aB 9) (aB 9))) (aA (aB 7) aD))))))))),?_⟩
 decreasing_tactic
 obtain ⟨a1,a2,a3⟩:=zF h1 h2
 obtain ⟨b1,b2,b3⟩:=zF h3 h4
 have dX:Bd (n + n + (n + n) + 1) (oX px py * oD cx cy - oX cx cy * oD px py):=(b1.mul a3).sub (a1.mul b3)
 have dY:Bd (n + n + (n + n) + 1) (oY px py * oD cx cy - oY cx cy * oD px py):=(b2.mul a3).sub (a2.mul b3)
 refine ⟨cx,cy,n,rfl,h1,h2,by omega,?_⟩
 decreasing_tactic
 refine ⟨rfl,px,py,n,rfl,h3,h4,by omega,?_⟩
 decreasing_tactic
 exact ⟨rfl,dJ b1 a3 (by omega),dJ a1 b3 (by omega),dJ b2 a3 (by omega),dJ a2 b3 (by omega),dJ dX dX (by omega),dJ dY dY (by omega),by decide,M,.refl _,q⟩
noncomputable def cS (cx cy px py:Rat):Rat:=(px - cx) * (px - cx) + (py - cy) * (py - cy)
theorem aDm {cx cy px py:Rat} {n:Nat} (h1:BQ n cx) (h2:BQ n cy) (h3:BQ n px) (h4:BQ n py):Bd (8 * n + 3) (fS cx cy px py):=by
 obtain ⟨a1,a2,a3⟩:=zF h1 h2
 obtain ⟨b1,b2,b3⟩:=zF h3 h4
 have dX:Bd (n + n + (n + n) + 1) (oX px py * oD cx cy - oX cx cy * oD px py):=(b1.mul a3).sub (a1.mul b3)
 have dY:Bd (n + n + (n + n) + 1) (oY px py * oD cx cy - oY cx cy * oD px py):=(b2.mul a3).sub (a2.mul b3)
 exact ((dX.mul dX).add (dY.mul dY)).mono (by omega)
theorem aB1 (cx cy px py qx qy:Rat):(0 < fS cx cy px py * oD qx qy * oD qx qy - fS cx cy qx qy * oD px py * oD px py ↔ cS cx cy qx qy < cS cx cy px py) /\
  (fS cx cy px py * oD qx qy * oD qx qy - fS cx cy qx qy * oD px py * oD px py = 0 ↔ cS cx cy px py = cS cx cy qx qy):=by
 have e:((fS cx cy px py * oD qx qy * oD qx qy - fS cx cy qx qy * oD px py * oD px py:Int):Rat) = (cS cx cy px py - cS cx cy qx qy) * ((((oD cx cy:Int):Rat) * ((oD px py:Int):Rat) * ((oD qx qy:Int):Rat)) * (((oD cx cy:Int):Rat) * ((oD px py:Int):Rat) * ((oD qx qy:Int):Rat))):=by
  simp only [Rat.intCast_mul,Rat.intCast_sub]
  rw [aDj,aDj]
  unfold cS
  grind
 have c1:(0:Rat) < ((oD cx cy:Int):Rat):=Rat.intCast_pos.mpr (vN _ _)
 have c2:(0:Rat) < ((oD px py:Int):Rat):=Rat.intCast_pos.mpr (vN _ _)
 have c3:(0:Rat) < ((oD qx qy:Int):Rat):=Rat.intCast_pos.mpr (vN _ _)
 have k0:(0:Rat) < (((oD cx cy:Int):Rat) * ((oD px py:Int):Rat) * ((oD qx qy:Int):Rat)) * (((oD cx cy:Int):Rat) * ((oD px py:Int):Rat) * ((oD qx qy:Int):Rat)):=Rat.mul_pos (Rat.mul_pos (Rat.mul_pos c1 c2) c3) (Rat.mul_pos (Rat.mul_pos c1 c2) c3)
 generalize (((oD cx cy:Int):Rat) * ((oD px py:Int):Rat) * ((oD qx qy:Int):Rat)) * (((oD cx cy:Int):Rat) * ((oD px py:Int):Rat) * ((oD qx qy:Int):Rat)) = κ at e k0
 generalize fS cx cy px py * oD qx qy * oD qx qy - fS cx cy qx qy * oD px py * oD px py = z at e ⊢
 generalize cS cx cy px py = u at e ⊢
 generalize cS cx cy qx qy = v at e ⊢
 constructor
 ·rw [<- Rat.intCast_pos,e]
  constructor
  ·intro h
   by_cases c:v < u
   ·exact c
   ·have:u - v<=0:=by grind
    have:=Rat.mul_nonneg (a:=v - u) (b:=κ) (by grind) (by grind)
    grind
  ·intro h
   exact Rat.mul_pos (by grind) k0
 ·constructor
  ·intro h
   rw [h] at e
   have:=(Rat.mul_eq_zero.mp e.symm).resolve_right (by grind)
   grind
  ·intro h
   have:(z:Rat) = 0:=by rw [e,h];grind
   exact Rat.intCast_eq_zero_iff.mp this
noncomputable def zG (cx cy px py qx qy:Rat):Int:=if cS cx cy qx qy < cS cx cy px py then 1 else if cS cx cy px py = cS cx cy qx qy then 0 else -1
noncomputable def qR:DSp:=fun ds M Q=>∃ cx cy px py qx qy n,ds = [PQ cx cy,PQ px py,PQ qx qy]/\BQ n cx/\BQ n cy/\BQ n px/\BQ n py/\BQ n qx/\BQ n qy/\n<=4000/\Q (.int (zG cx cy px py qx qy)) M
noncomputable abbrev nN:Stmt:=top 18
theorem gO:aT ["c","p","q","p_square","pd","q_square","qd"] ["c","p","q"] (aJ nN):=⟨rfl,rfl,rfl,by decide +kernel,rfl,by decide +kernel,by decide +kernel⟩
theorem vF (hF:cZ K mg "farther" nN ["c","p","q"]) (gB:Has P w K mg base 102 "scaled_far" ["c","p"] lH) (vW:Has P w K mg base 101 "sign" ["number"] tV):Has P w K mg base 103 "farther" ["c","p","q"] qR:=by
 refine Has.mkZ hF gO (fun ds M Q ⟨cx,cy,px,py,qx,qy,n,e,_⟩=>by rw [e];rfl) fun f cdv A outer s H ds M Q E hr h=>?_
 obtain ⟨cx,cy,px,py,qx,qy,n,rfl,h1,h2,h3,h4,h5,h6,hn,q⟩:=h
 refine ⟨_,(aF (kR (aG gB hr (by decide) (aA (aB 0) (aA (aB 1) aD))) (kT (n:=2) rfl (cI (bR (i:=3) gO.nd) (cI (bR (i:=4) gO.nd) iN))))
  (aF (kR (aG gB hr (by decide) (aA (aB 0) (aA (aB 2) aD))) (kT (n:=2) rfl (cI (bR (i:=5) gO.nd) (cI (bR (i:=6) gO.nd) iN))))
  (aE (aN (aG vW hr (by decide) (aA (aI gK (aI bU (aI bU (aB 3) (aB 6)) (aB 6)) (aI bU (aI bU (aB 5) (aB 4)) (aB 4))) aD)))))),?_⟩
 decreasing_tactic
 have bP:=aDm h1 h2 h3 h4
 have bQ:=aDm h1 h2 h5 h6
 have dP:=(zF h3 h4).2.2
 have dQ:=(zF h5 h6).2.2
 refine ⟨cx,cy,px,py,n,rfl,h1,h2,h3,h4,hn,?_⟩
 decreasing_tactic
 refine ⟨rfl,cx,cy,qx,qy,n,rfl,h1,h2,h5,h6,hn,?_⟩
 decreasing_tactic
 refine ⟨rfl,dJ bP dQ (by omega),dJ (bP.mul dQ) dQ (by omega),dJ bQ dP (by omega),dJ (bQ.mul dP) dP (by omega),_,rfl,M,.refl _,?_⟩
 obtain ⟨e1,e2⟩:=aB1 cx cy px py qx qy
 have e:(if 0 < fS cx cy px py * oD qx qy * oD qx qy - fS cx cy qx qy * oD px py * oD px py then 1 else if fS cx cy px py * oD qx qy * oD qx qy - fS cx cy qx qy * oD px py * oD px py = 0 then 0 else -1:Int) = zG cx cy px py qx qy:=by
  unfold zG
  by_cases c:cS cx cy qx qy < cS cx cy px py
  ·rw [if_pos c,if_pos (e1.mpr c)]
  ·rw [if_neg c,if_neg (fun z=>c (e1.mp z))]
   by_cases d:cS cx cy px py = cS cx cy qx qy
   ·rw [if_pos d,if_pos (e2.mpr d)]
   ·rw [if_neg d,if_neg (fun z=>d (e2.mp z))]
 rw [e]
 exact q
noncomputable def dG:DSp:=fun ds M Q=>∃ t b,ds = [.int t,.int b]/\0 < b/\Bd 8999 b/\Q (FQ ((t:Rat) / (b:Rat))) M
noncomputable abbrev kA:Stmt:=top 73
theorem jA:aT ["_law_top","_law_bottom","_law_one","_law_other"] ["_law_top","_law_bottom"] (aJ kA):=⟨rfl,rfl,rfl,by decide +kernel,rfl,by decide +kernel,by decide +kernel⟩
theorem rG (hF:cZ K mg "_law_ratio" kA ["_law_top","_law_bottom"]) (lD:mg "abs" = none):Has P w K mg base 101 "_law_ratio" ["_law_top","_law_bottom"] dG:=by
 refine Has.mkZ hF jA (fun ds M Q ⟨a,b,e,_⟩=>by rw [e];rfl) fun f cdv A outer s H ds M Q E hr h=>?_
 obtain ⟨t,b,rfl,hb,hB,q⟩:=h
 refine ⟨_,(aF (pG (i:=2) (j:=3) rfl jA.nd (aA (bO sZ lD (aA (aB 0) aD)) (aA (aB 1) aD)))
  (aF (rS PassesOwn.never (aS rR (aB 3) aC) (aE (pG (i:=2) (j:=3) rfl jA.nd (aA (aB 3) (aA (aI bZ (aB 2) (aB 3)) aD)))))
  (aE (aN (aK (aA (aI mR (aB 0) (aB 2)) (aA (aI mR (aB 1) (aB 2)) aD))))))),?_⟩
 have hb0:b ≠ 0:=by omega
 refine rL (fun m ρ M'=>M' = M/\∃ x y:Int,ρ = [some (.int t),some (.int b),some (.int x),some (.int y)]/\m = y.natAbs/\0<=x/\0<=y/\Int.gcd x y = Int.gcd t b) _ ⟨rfl,_,_,rfl,rfl,by split<;>omega,by omega,by
  split<;>simp [Int.neg_gcd]⟩ ?_
 rintro m ρ M' ⟨rfl,x,y,rfl,rfl,hx,hy,g⟩
 decreasing_tactic
 refine dif (fun c=>?_) (fun c=>?_)
 ·have hy':y ≠ 0:=by omega
  exact ⟨hy',_,xU hy',rfl,y,x.fmod y,rfl,rfl,hy,Int.fmod_nonneg_of_pos _ (by omega),(vE x y).trans g⟩
 ·have hy':y = 0:=by omega
  subst hy'
  have e:x = (Int.gcd t b:Int):=by rw [<- g,Int.gcd_zero_right];omega
  have fin:Q (.tup [.int (fT t b),.int (fB t b)]) M':=by rw [aBL hb0];exact q
  unfold fT fB at fin
  have s1:=aGh (t:=t) hb0
  have s2:=(hB.sg (t:=t) hb0).log (by decide)
  unfold sg at fin s1 s2
  rw [if_neg (by omega),<- e] at fin s1 s2
  exact ⟨⟨s1,Nat.lt_succ_of_lt s2⟩,⟨s1,Nat.lt_succ_of_lt s2⟩,by decide,M',.refl _,fin⟩
noncomputable def fO:DSp:=aCa
noncomputable abbrev lP:Stmt:=top 74
theorem uA:aT ["_law_one","_law_other"] ["_law_one","_law_other"] (aJ lP):=⟨rfl,rfl,rfl,by decide +kernel,rfl,by decide +kernel,by decide +kernel⟩
theorem tI (hF:cZ K mg "_law_plus" lP ["_law_one","_law_other"]) (bC:Has P w K mg base 101 "_law_ratio" ["_law_top","_law_bottom"] dG):Has P w K mg base 102 "_law_plus" ["_law_one","_law_other"] fO:=by
 refine Has.mkZ hF uA xP fun f cdv A outer s H ds M Q E hr h=>?_
 obtain ⟨p,r,m,n,rfl,_,h1,h2,l,q⟩:=h
 refine ⟨_,(aE (aN (aG bC hr (by decide) (aA (aI cO (aI bU (aH (aB 0) aC) (aH (aB 1) aC)) (aI bU (aH (aB 1) aC) (aH (aB 0) aC))) (aA (aI bU (aH (aB 0) aC) (aH (aB 1) aC)) aD))))),?_⟩
 decreasing_tactic
 exact ⟨dJ h1.1 h2.2 (by omega),dJ h2.1 h1.2 (by omega),dJ h1.2 h2.2 (by omega),_,_,rfl,Int.mul_pos (den_pos p) (den_pos r),(h1.2.mul h2.2).mono (by omega),M,.refl _,by rw [aGe];exact q⟩
noncomputable def gC:DSp:=zU
noncomputable abbrev kM:Stmt:=top 75
theorem tQ:aT ["_law_one","_law_other"] ["_law_one","_law_other"] (aJ kM):=⟨rfl,rfl,rfl,by decide +kernel,rfl,by decide +kernel,by decide +kernel⟩
theorem rA (hF:cZ K mg "_law_times" kM ["_law_one","_law_other"]) (bC:Has P w K mg base 101 "_law_ratio" ["_law_top","_law_bottom"] dG):Has P w K mg base 102 "_law_times" ["_law_one","_law_other"] gC:=by
 refine Has.mkZ hF tQ xP fun f cdv A outer s H ds M Q E hr h=>?_
 obtain ⟨p,r,m,n,rfl,_,h1,h2,l,q⟩:=h
 refine ⟨_,(aE (aN (aG bC hr (by decide) (aA (aI bU (aH (aB 0) aC) (aH (aB 1) aC)) (aA (aI bU (aH (aB 0) aC) (aH (aB 1) aC)) aD))))),?_⟩
 decreasing_tactic
 exact ⟨dJ h1.1 h2.1 (by omega),dJ h1.2 h2.2 (by omega),_,_,rfl,Int.mul_pos (den_pos p) (den_pos r),(h1.2.mul h2.2).mono (by omega),M,.refl _,by rw [aGp];exact q⟩
theorem aA3 {a b:Rat} (ha:0 < a) (hb:0 < b):0 < a / b:=by
 have e:a / b * b = a:=by grind
 rcases (show a / b < 0 ∨ a / b = 0 ∨ 0 < a / b by grind) with c | c | c
 ·have:=Rat.mul_pos (show 0 < -(a / b) by grind) hb
  grind
 ·rw [c] at e;grind
 ·exact c
theorem vA {x:Int} (h1:-10000000<=x) (h2:x<=10000000):Bd 24 x:=by unfold Bd;omega
theorem aBv {t b:Int} (h0:0 < b) (h1:-10000000<=t) (h2:t<=10000000) (h3:b<=10000000):BQ 24 ((t:Rat) / (b:Rat)):=.make (by omega) (vA h1 h2) (vA (by omega) h3)
noncomputable def Wh (q:Rat):Prop:=∃ z:Int,q = (z:Rat)/\-20<=z/\z<=20
noncomputable def jB:DSp:=fun ds M Q=>∃ a b,ds = [.int a,.int b]/\∀ q,BQ 24 q->(b.fmod 5 ≠ 4->b.fmod 3 ≠ 2->Wh q)->Q (FQ q) M
noncomputable abbrev kD:Stmt:=top 76
theorem tN:aT ["_law_one","_law_other"] ["_law_one","_law_other"] (aJ kD):=⟨rfl,rfl,rfl,by decide +kernel,rfl,by decide +kernel,by decide +kernel⟩
theorem rD (hF:cZ K mg "_law_drawn" kD ["_law_one","_law_other"]) (bC:Has P w K mg base 101 "_law_ratio" ["_law_top","_law_bottom"] dG):Has P w K mg base 102 "_law_drawn" ["_law_one","_law_other"] jB:=by
 refine Has.mkZ hF tN (fun ds M Q ⟨a,b,e,_⟩=>by rw [e];rfl) fun f cdv A outer s H ds M Q E hr h=>?_
 obtain ⟨a,b,rfl,q⟩:=h
 refine ⟨_,(aF (bA (aS (cE hr) (aI bZ (aB 1) aC) aC) (aE (aN (aG bC hr (by decide) (aA (aI gK (aI bZ (aI bU (aB 0) aC) aC) aC) (aA (aI cO aC (aI bZ (aI bU (aB 1) aC) aC)) aD))))) aR)
  (aE (aN (aG bC hr (by decide) (aA (aI gK (aI bZ (aB 0) aC) aC) (aA (aI cO aC (aI bZ (aI mR (aB 0) aC) (aH (cB (aA aC (aA aC (aA aC aD)))) (aI bZ (aB 1) aC)))) aD)))))),?_⟩
 decreasing_tactic
 simp_arith
 refine ⟨by decide,?_⟩
 by_cases c:b.fmod 5 = 4
 ·rw [if_pos c]
  have h1:=Int.fmod_nonneg_of_pos (a * 7) (show (0:Int) < 1999999 by decide)
  have h2:=Int.fmod_lt_of_pos (a * 7) (show (0:Int) < 1999999 by decide)
  have h3:=Int.fmod_nonneg_of_pos (b * 13) (show (0:Int) < 999999 by decide)
  have h4:=Int.fmod_lt_of_pos (b * 13) (show (0:Int) < 999999 by decide)
  exact ⟨tF (by unfold Bd;decide),by decide,tF (by unfold Bd;decide),by decide,_,_,rfl,by omega,(vA (by omega) (by omega)).mono (by decide),M,.refl _,q _ (aBv (by omega) (by omega) (by omega) (by omega)) fun n=>absurd c n⟩
 ·rw [if_neg c]
  refine ⟨by decide,⟨by decide,by decide +kernel⟩,by decide,fun p hp=>⟨by decide,?_⟩⟩
  have s1:=bK.new hp [.int 1,.int 1,.int 9]
  have h1:=Int.fmod_nonneg_of_pos a (show (0:Int) < 41 by decide)
  have h2:=Int.fmod_lt_of_pos a (show (0:Int) < 41 by decide)
  obtain ⟨k,hk,k0,k1,kw⟩:∃ k:Int,atI [D.int 1,.int 1,.int 9] (b.fmod 3) = some (.int k)/\0 < k/\k<=9/\(b.fmod 3 ≠ 2->k = 1):=by
   have h1:=Int.fmod_nonneg_of_pos b (show (0:Int) < 3 by decide)
   have h2:=Int.fmod_lt_of_pos b (show (0:Int) < 3 by decide)
   have:b.fmod 3 = 0 ∨ b.fmod 3 = 1 ∨ b.fmod 3 = 2:=by omega
   rcases this with e | e | e<;>rw [e]
   ·exact ⟨1,rfl,by decide,by decide,fun _=>rfl⟩
   ·exact ⟨1,rfl,by decide,by decide,fun _=>rfl⟩
   ·exact ⟨9,rfl,by decide,by decide,fun n=>absurd rfl n⟩
  refine ⟨_,_,aL,hk,?_⟩
  decreasing_tactic
  have h3:=Int.fmod_nonneg_of_pos (a.fdiv 41) k0
  have h4:=Int.fmod_lt_of_pos (a.fdiv 41) k0
  refine ⟨by omega,_,_,rfl,by omega,(vA (by omega) (by omega)).mono (by decide),M,s1,q _ (aBv (by omega) (by omega) (by omega) (by omega)) fun _ n=>⟨a.fmod 41 - 20,?_,by omega,by omega⟩⟩
  rw [show 1 + (a.fdiv 41).fmod k = 1 by have:=kw n;omega]
  show _ / (1:Rat) = _
  grind
theorem bqz:BQ 1 0:=⟨by unfold Bd;decide,by unfold Bd;decide⟩
theorem yO {cx cy px py qx qy:Rat}:zG cx cy px py qx qy = 0 ↔ cS cx cy px py = cS cx cy qx qy:=by
 unfold zG
 by_cases c:cS cx cy qx qy < cS cx cy px py
 ·rw [if_pos c]
  exact ⟨fun z=>absurd z (by decide),fun z=>by rw [z] at c;exact absurd c Rat.lt_irrefl⟩
 ·rw [if_neg c]
  by_cases d:cS cx cy px py = cS cx cy qx qy
  ·rw [if_pos d];exact ⟨fun _=>d,fun _=>rfl⟩
  ·rw [if_neg d];exact ⟨fun z=>absurd z (by decide),fun z=>absurd z d⟩
inductive Pl where
 | go (a:Rat) | side (a b:Rat) | skip (a:Rat) | dot | left | right | rnd | mirror | grow (a:Rat) | quarter (a:Rat) | half (a:Rat) | arc (a b c d:Rat)
noncomputable def plD:Pl->D
 | .go a=>.tup [.str "go",FQ a]
 | .side a b=>.tup [.str "side",FQ a,FQ b]
 | .skip a=>.tup [.str "skip",FQ a]
 | .dot=>.tup [.str "dot"]
 | .left=>.tup [.str "left"]
 | .right=>.tup [.str "right"]
 | .rnd=>.tup [.str "round"]
 | .mirror=>.tup [.str "mirror"]
 | .grow a=>.tup [.str "grow",FQ a]
 | .quarter a=>.tup [.str "quarter",FQ a]
 | .half a=>.tup [.str "half",FQ a]
 | .arc a b c d=>.tup [.str "arc",FQ a,FQ b,FQ c,FQ d]
noncomputable def plB (B:Nat):Pl->Prop
 | .go a=>BQ B a
 | .side a b=>BQ B a/\BQ B b
 | .skip a=>BQ B a
 | .grow a=>BQ B a/\0 < a
 | .quarter a=>BQ B a/\a ≠ 0
 | .half a=>BQ B a/\a ≠ 0
 | .arc a b c d=>BQ B a/\BQ B b/\BQ B c/\BQ B d/\¬ (a = 0/\b = 0)/\¬ (a = c/\b = d)/\cS a b 0 0 = cS a b c d
 | _=>True
inductive Lg where
 | st (x y u v:Rat) | bd (a b c d e f:Rat) (w:Int)
noncomputable def lgD:Lg->D
 | .st x y u v=>.tup [.str "straight",PQ x y,PQ u v]
 | .bd a b c d e f w=>.tup [.str "bend",PQ a b,PQ c d,PQ e f,.int w]
noncomputable abbrev LR:=Lg × Int × List Int
structure Ed where
 f:Fm
 a:Int
 rd:List Int
 ls:List LR
theorem aV {Q:DQ} {d:D} {M:DM} (q:Q d M):Dn Q d M:=⟨M,.refl _,q⟩
theorem xB {α:Type} {rs:List α} {i:Nat} {r:α} (h:rs[i]? = some r):rs.take (i + 1) = rs.take i ++ [r]:=by
 have hl:=(List.getElem?_eq_some_iff.mp h).1
 have e:rs[i] = r:=(List.getElem?_eq_some_iff.mp h).2
 rw [List.take_succ_eq_append_getElem hl,e]
noncomputable def lrD (x:LR):D:=.tup [lgD x.1,.int x.2.1,.tup (x.2.2.map D.int)]
noncomputable def EdR (M M':DM) (d:D) (e:Ed):Prop:=∃ q:Addr,d = .tup [FmD e.f,.int e.a,.tup (e.rd.map D.int),.ref q]/\M q = none/\M' q = some (e.ls.map lrD)
structure wW (M M':DM) (ps pe:Addr) (L Es:List D) (ls:List LR) (es:List Ed):Prop where
 s:M' ps = some (L ++ ls.map lrD)
 e:∃ Es',M' pe = some (Es ++ Es')/\Paired (EdR M M') Es' es
 o:∀ k:AK,k ≠ .l ps->k ≠ .l pe->∀ o,M k = some o->M' k = some o
theorem xI {α β:Type} {F:α->β->Prop}:∀ {l₁:List α} {l₂:List β} {m₁:List α} {m₂:List β},Paired F l₁ l₂->Paired F m₁ m₂->Paired F (l₁ ++ m₁) (l₂ ++ m₂)
 | _,_,_,_,.nil,h=>h
 | _,_,_,_,.cons h₁ t,h=>.cons h₁ (xI t h)
theorem wW.trans {M M1 M2:DM} {ps pe:Addr} {L Es Es1:List D} {ls ls2:List LR} {es es2:List Ed} (a1:M ps = some L) (a2:M pe = some Es) (h:wW M M1 ps pe L Es ls es) (e1:M1 pe = some Es1) (h2:wW M1 M2 ps pe (L ++ ls.map lrD) Es1 ls2 es2):wW M M2 ps pe L Es (ls ++ ls2) (es ++ es2):=by
 obtain ⟨Es',e,pr⟩:=h.e
 obtain ⟨Es2,e2,pr2⟩:=h2.e
 have eq:Es1 = Es ++ Es':=by rw [e] at e1;exact (Option.some.inj e1).symm
 subst eq
 refine ⟨by rw [List.map_append,<- List.append_assoc];exact h2.s,⟨Es' ++ Es2,by rw [<- List.append_assoc];exact e2,?_⟩,fun k n1 n2 o q=>h2.o k n1 n2 o (h.o k n1 n2 o q)⟩
 refine xI (Paired.mapP pr fun d x ⟨q,z,f,l⟩=>⟨q,z,f,?_⟩) (Paired.mapP pr2 fun d x ⟨q,z,f,l⟩=>⟨q,z,?_,l⟩)
 ·have n1:(AK.l q) ≠ .l ps:=fun z=>by rw [z,a1] at f;cases f
  have n2:(AK.l q) ≠ .l pe:=fun z=>by rw [z,a2] at f;cases f
  exact h2.o _ n1 n2 _ l
 ·cases c:M q with
  | none=>rfl
  | some o =>
   have n1:(AK.l q) ≠ .l ps:=fun z=>by rw [z,h.s] at f;cases f
   have n2:(AK.l q) ≠ .l pe:=fun z=>by rw [z,e] at f;cases f
   have:=h.o _ n1 n2 _ c
   rw [f] at this;cases this
theorem nV {d:D} {r:List D}:atI (d :: r) 0 = some d:=by
 unfold atI ixN
 rw [if_pos (by decide),if_pos (by rw [List.length_cons];omega)]
 rfl
noncomputable def Dv (D:Nat) (x:Rat):Prop:=∃ z:Int,x * (D:Rat) = (z:Rat)
theorem Dv.add {D:Nat} {x y:Rat} (h:Dv D x) (h2:Dv D y):Dv D (x + y):=by
 obtain ⟨a,ha⟩:=h
 obtain ⟨b,hb⟩:=h2
 exact ⟨a + b,by rw [Rat.intCast_add,<- ha,<- hb];grind⟩
theorem Dv.up {D:Nat} {x:Rat} (h:Dv D x) (k:Nat):Dv (D * k) x:=by
 obtain ⟨a,ha⟩:=h
 refine ⟨a * (k:Int),?_⟩
 rw [Rat.intCast_mul,<- ha,Rat.natCast_mul,Rat.intCast_natCast];grind
theorem Dv.up' {D:Nat} {x:Rat} (h:Dv D x) (k:Nat):Dv (k * D) x:=by rw [Nat.mul_comm];exact h.up k
theorem Dv.zero {D:Nat}:Dv D 0:=⟨0,by grind⟩
theorem Dv.own (x:Rat):Dv x.den x:=⟨x.num,by
 have:=gQ x
 rw [this];rfl⟩
noncomputable def Ab (B:Nat) (x:Rat):Prop:=-(B:Rat)<=x/\x<=(B:Rat)
theorem aDU (n:Nat):(0:Rat)<=(n:Rat):=by
 have:((0:Nat):Rat)<=(n:Rat):=by exact_mod_cast Nat.zero_le n
 exact this
theorem Ab.mono {B C:Nat} {x:Rat} (h:Ab B x) (l:B<=C):Ab C x:=by
 have:(B:Rat)<=(C:Rat):=by exact_mod_cast l
 exact ⟨by have:=h.1;grind,by have:=h.2;grind⟩
theorem Ab.add {B C:Nat} {x y:Rat} (h:Ab B x) (h2:Ab C y):Ab (B + C) (x + y):=by
 obtain ⟨a,b⟩:=h
 obtain ⟨c,d⟩:=h2
 constructor<;>rw [Rat.natCast_add]<;>grind
theorem Ab.mul {B C:Nat} {x y:Rat} (h:Ab B x) (h2:Ab C y):Ab (B * C) (x * y):=by
 obtain ⟨a,b⟩:=h
 obtain ⟨c,d⟩:=h2
 have p1:=Rat.mul_nonneg (show 0<=(B:Rat) - x by grind) (show 0<=(C:Rat) + y by grind)
 have p2:=Rat.mul_nonneg (show 0<=(B:Rat) + x by grind) (show 0<=(C:Rat) - y by grind)
 have p3:=Rat.mul_nonneg (show 0<=(B:Rat) - x by grind) (show 0<=(C:Rat) - y by grind)
 have p4:=Rat.mul_nonneg (show 0<=(B:Rat) + x by grind) (show 0<=(C:Rat) + y by grind)
 constructor<;>rw [Rat.natCast_mul]<;>grind
theorem Ab.zero {B:Nat}:Ab B 0:=⟨by have:=aDU B;grind,aDU B⟩
theorem oJ {n:Nat} {x:Rat} (h:BQ n x):Ab (2 ^ n) x:=by
 have e:=gQ x
 have d1:(1:Rat)<=((x.den:Int):Rat):=by
  have:((1:Int):Rat)<=((x.den:Int):Rat):=by exact_mod_cast (show (1:Int)<=(x.den:Int) by have:=x.den_pos;omega)
  exact this
 have hb:x.num.natAbs < 2 ^ n:=h.1
 have n1:((x.num:Int):Rat)<=((2 ^ n:Nat):Rat):=by
  have:x.num<=((2 ^ n:Nat):Int):=by omega
  have:((x.num:Int):Rat)<=(((2 ^ n:Nat):Int):Rat):=by exact_mod_cast this
  rw [Rat.intCast_natCast] at this;exact this
 have n2:-((2 ^ n:Nat):Rat)<=((x.num:Int):Rat):=by
  have:-((2 ^ n:Nat):Int)<=x.num:=by omega
  have:((-((2 ^ n:Nat):Int):Int):Rat)<=((x.num:Int):Rat):=by exact_mod_cast this
  rw [Rat.intCast_neg,Rat.intCast_natCast] at this;exact this
 have z:=aDU (2 ^ n)
 clear hb
 unfold Ab
 generalize ((2 ^ n:Nat):Rat) = P at *
 generalize ((x.den:Int):Rat) = d at *
 rw [e] at n1 n2
 constructor
 ·rcases (show 0<=x ∨ 0<=-x by grind) with c | c
  ·grind
  ·have:=Rat.mul_nonneg c (show 0<=d - 1 by grind)
   grind
 ·rcases (show 0<=x ∨ 0<=-x by grind) with c | c
  ·have:=Rat.mul_nonneg c (show 0<=d - 1 by grind)
   grind
  ·grind
structure Gf (A W k:Nat) (f:Fm):Prop where
 ok:f.Ok
 pos:0 < f.s
 ex:∃ N T:Nat,(0 < N/\N<=12 ^ k)/\(0 < T/\T<=12 ^ k)/\f.s * (N:Rat) = (T:Rat)/\Dv (N * A) f.px/\Dv (N * A) f.py
 ax:Ab (k * 12 ^ k * W) f.px
 ay:Ab (k * 12 ^ k * W) f.py
theorem Gf.one {A W:Nat}:Gf A W 0 .one:=⟨Fm.ok_one,by decide,⟨1,1,by decide,by decide,(by show (1:Rat) * ((1:Nat):Rat) = ((1:Nat):Rat);rw [Rat.one_mul]),Dv.zero,Dv.zero⟩,Ab.zero,Ab.zero⟩
noncomputable def plG (A W:Nat):Pl->Prop
 | .go a=>Dv A a/\Ab W a
 | .side a b=>(Dv A a/\Ab W a)/\Dv A b/\Ab W b
 | .skip a=>Dv A a/\Ab W a
 | .grow a=>∃ t b:Nat,(0 < t/\t<=12)/\(0 < b/\b<=12)/\a * (b:Rat) = (t:Rat)
 | .quarter a=>Dv A a/\Ab W a
 | .half a=>Dv A a/\Ab W a/\Ab W (a + a)
 | .arc a b c d=>((Dv A a/\Ab W a)/\Dv A b/\Ab W b)/\(Dv A c/\Ab W c)/\Dv A d/\Ab W d
 | _=>True
theorem sA {a b c d:Rat}:cS a b c d = 0 ↔ a = c/\b = d:=by
 unfold cS
 constructor
 ·intro h
  have s1:∀ x:Rat,0<=x * x:=fun x=>by
   rcases (show 0<=x ∨ 0<=-x by grind) with z | z
   ·exact Rat.mul_nonneg z z
   ·have:=Rat.mul_nonneg z z;grind
  have h1:=s1 (c - a)
  have h2:=s1 (d - b)
  have e1:(c - a) * (c - a) = 0:=by grind
  have e2:(d - b) * (d - b) = 0:=by grind
  rcases Rat.mul_eq_zero.mp e1 with z | z<;>rcases Rat.mul_eq_zero.mp e2 with y | y<;>constructor<;>grind
 ·rintro ⟨rfl,rfl⟩;grind
theorem aEi:(D.tup [.int (-1),.int 1]) = FQ (-1):=rfl
theorem jH {p r:Rat} {m n:Nat} {M:DM} {Q:DQ} (h1:BQ m p) (h2:BQ n r) (l:m + n<=8998) (q:Q (FQ (p * r)) M):gC [FQ p,FQ r] M Q:=⟨_,_,_,_,rfl,trivial,h1,h2,l,q⟩
theorem oI {p r:Rat} {m n:Nat} {M:DM} {Q:DQ} (h1:BQ m p) (h2:BQ n r) (l:m + n<=8998) (q:Q (FQ (p + r)) M):fO [FQ p,FQ r] M Q:=⟨_,_,_,_,rfl,trivial,h1,h2,l,q⟩
noncomputable def qF:DSp:=fun ds M Q=>∃ c many,ds = [.int c,.int many]/\0<=many/\many<=100/\∀ (p:Addr) L,M p = none->gX many.toNat L->Q (.ref p) (cW M p L)
theorem qJ {n:Nat} {L:List D} (h:gX n L) {z:Int} (h0:0<=z) (h1:z < 1000000):gX (n + 1) (L ++ [.int z]):=by
 refine ⟨by rw [List.length_append,h.1];rfl,fun d hd=>?_⟩
 rcases List.mem_append.mp hd with e | e
 ·exact h.2 d e
 ·exact ⟨z,List.mem_singleton.mp e,h0,h1⟩
noncomputable abbrev mV:Stmt:=top 72
theorem eK:aT ["_law_cell","_law_many","_law_found","_law_number","_law_k"] ["_law_cell","_law_many"] (aJ mV):=⟨rfl,rfl,rfl,by decide +kernel,rfl,by decide +kernel,by decide +kernel⟩
theorem uP (hF:cZ K mg "_law_row" mV ["_law_cell","_law_many"]) (lD:mg "abs" = none) (jE:mg "range" = none):Has P w K mg base 101 "_law_row" ["_law_cell","_law_many"] qF:=by
 refine Has.mkZ hF eK (fun ds M Q ⟨a,b,e,_⟩=>by rw [e];rfl) fun f cdv A outer s H ds M Q E hr h=>?_
 obtain ⟨c,many,rfl,m0,m1,q⟩:=h
 refine ⟨_,(aF (aY (i:=2) eK.nd (cB aD))
  (aF (aY (i:=3) eK.nd (aB 0))
  (aF (bA (aS aAM (bO sZ lD (aA (aB 0) aD)) (aI pH aC aC)) (aE (aY (i:=3) eK.nd (aI cO (aI bZ (aB 0) aC) aC))) aR)
  (aF (aAx PassesOwn.never rfl jE (aA (aB 1) aD) (bR (i:=4) eK.nd) (aE (bA (aS aAM (bO sZ lD (aA (aB 0) aD)) (aI pH aC aC)) (aF (aY (i:=3) eK.nd (aI bZ (aI bU (aB 3) aC) aC))
  (aE (kH (pZ (aB 2) (aI bZ (aI mR (aI bZ (aI cO (aI cO (aI bU (aB 3) (aB 3)) (aI bU aC (aB 3))) (aB 4)) aC) aC) (aI pH aC aC)))))) (aF (kH (pZ (aB 2) (aI bZ (aB 3) (aI pH aC aC))))
  (aE (aY (i:=3) eK.nd (aI mR (aB 3) (aI pH aC aC))))))))
  (aE (aN (aB 2))))))),?_⟩
 decreasing_tactic
 refine ⟨by decide,fun p hp=>?_⟩
 have k6:(10:Int) ^ Int.toNat 6 = 1000000:=by decide
 have small:∀ z:Int,0<=z.fmod 1000000/\z.fmod 1000000 < 1000000:=fun z=>⟨Int.fmod_nonneg_of_pos _ (by decide),Int.fmod_lt_of_pos _ (by decide)⟩
 refine ⟨⟨by decide,by decide,by decide⟩,dif (fun c1=>?A) (fun c1=>?B)⟩
 case' A =>
  have c2:(if c < 0 then -c else c) < (10:Int) ^ Int.toNat 18->0<=c.fmod 2147483647 + 1/\c.fmod 2147483647 + 1 < 2147483649:=fun _=>by
   have:=Int.fmod_nonneg_of_pos c (show (0:Int) < 2147483647 by decide)
   have:=Int.fmod_lt_of_pos c (show (0:Int) < 2147483647 by decide)
   omega
  refine ⟨by decide,?_⟩
  generalize c.fmod 2147483647 + 1 = z0 at c2
 case' B =>
  have c2:(if c < 0 then -c else c) < (10:Int) ^ Int.toNat 18->0<=c/\c < 2147483649:=fun z=>absurd z c1
  obtain ⟨z0,hz0⟩:∃ z0,z0 = c:=⟨c,rfl⟩
  have c2:(if c < 0 then -c else c) < (10:Int) ^ Int.toNat 18->0<=z0/\z0 < 2147483649:=by rw [hz0];exact c2
  rw [show (some (D.int c) :: some (.int many) :: some (.ref p) :: some (.int c) :: [none]:bV) = [some (.int c),some (.int many),some (.ref p),some (.int z0),none] by rw [hz0]]
 all_goals
  refine ⟨⟨by omega,by omega⟩,fun i ρ M'=>∃ L,M' = cW M p L/\gX i L/\∃ (z:Int) (o:Option D),((if c < 0 then -c else c) < (10:Int) ^ Int.toNat 18->0<=z/\z < 2147483649)/\ρ = [some (.int c),some (.int many),some (.ref p),some (.int z),o],⟨[],rfl,⟨rfl,fun d h=>nomatch h⟩,z0,none,c2,rfl⟩,?_,?_⟩
  ·rintro i ρ M' hi ⟨L,rfl,hL,z,o,hz,rfl⟩
   have hi2:i < 100:=by omega
   have lL:L.length < 1000:=by rw [hL.1];omega
   decreasing_tactic
   refine ⟨⟨by decide,by decide,by decide⟩,dif (fun d1=>?_) (fun d1=>?_)⟩
   ·obtain ⟨z1,z2⟩:=hz d1
    have hn0:=Int.fmod_nonneg_of_pos (z * 48271) (show (0:Int) < 2147483647 by decide)
    have hn1:=Int.fmod_lt_of_pos (z * 48271) (show (0:Int) < 2147483647 by decide)
    refine ⟨tF (by unfold Bd;decide),by decide,⟨_,aL⟩,?_⟩
    generalize (z * 48271).fmod 2147483647 = nn at hn0 hn1
    have bn:Bd 63 nn:=Bd.of (by omega) (by omega)
    refine ⟨aA1 bn,tF bn,by decide,⟨by decide,by decide +kernel⟩,⟨by decide,by decide,by decide⟩,by rw [k6];decide,_,_,rfl,aL,lL,_,by rw [rV],qJ hL ?_ ?_,nn,_,fun _=>⟨by omega,by omega⟩,rfl⟩
    ·rw [k6];exact (small _).1
    ·rw [k6];exact (small _).2
   ·refine ⟨⟨_,aL⟩,⟨by decide,by decide,by decide⟩,by rw [k6];decide,_,_,rfl,aL,lL,⟨by decide,by decide,by decide⟩,⟨by rw [k6];decide,by rw [k6];decide +kernel⟩,_,by rw [rV],qJ hL ?_ ?_,_,_,fun z=>absurd z d1,rfl⟩
    ·rw [k6];exact (small _).1
    ·rw [k6];exact (small _).2
  ·rintro ρ M' ⟨L,rfl,hL,z,o,hz,rfl⟩
   decreasing_tactic
   exact ⟨_,.refl _,q p L hp hL⟩
theorem aES {p q:Int} (h:p ≠ 0 ∨ q ≠ 0):0 < q * q + p * p:=by
 have n:∀ z:Int,0<=z * z:=fun z=>by
  rcases Int.le_total 0 z with c | c
  ·exact Int.mul_nonneg c c
  ·exact Int.mul_nonneg_of_nonpos_of_nonpos c c
 have k:∀ z:Int,z ≠ 0->z * z ≠ 0:=fun z hz=>Int.mul_ne_zero hz hz
 have h1:=n p
 have h2:=n q
 rcases h with h | h
 ·have:=k p h;omega
 ·have:=k q h;omega
theorem aF8 {p q:Int} (h:0 < q * q + p * p) {uu vv:Rat} (hu:((q * q - p * p:Int):Rat) / ((q * q + p * p:Int):Rat) = uu) (hv:((2 * p * q:Int):Rat) / ((q * q + p * p:Int):Rat) = vv):uu * uu + vv * vv = 1:=by
 have n0:((q * q + p * p:Int):Rat) ≠ 0:=by
  have:=aAV h
  grind
 rw [<- hu,<- hv]
 rw [Rat.intCast_sub,Rat.intCast_add,Rat.intCast_mul,Rat.intCast_mul,Rat.intCast_mul,Rat.intCast_mul] at *
 rw [show (((2:Int)):Rat) = 2 from rfl]
 generalize (p:Rat) = a at *
 generalize (q:Rat) = b at *
 grind
theorem aDV {x y uu vv:Rat} (c:uu * uu + vv * vv = 1) (nz:¬ (x = 0/\y = 0)):¬ (x = x + (uu * (x * -1) + vv * y)/\y = y + (vv * (x * -1) + uu * (y * -1)))/\cS x y 0 0 = cS x y (x + (uu * (x * -1) + vv * y)) (y + (vv * (x * -1) + uu * (y * -1))):=by
 have e:cS x y 0 0 = cS x y (x + (uu * (x * -1) + vv * y)) (y + (vv * (x * -1) + uu * (y * -1))):=by
  unfold cS
  have:(x + (uu * (x * -1) + vv * y) - x) * (x + (uu * (x * -1) + vv * y) - x) + (y + (vv * (x * -1) + uu * (y * -1)) - y) * (y + (vv * (x * -1) + uu * (y * -1)) - y) = (uu * uu + vv * vv) * (x * x + y * y):=by grind
  rw [this,c]
  grind
 refine ⟨fun z=>?_,e⟩
 rw [sA.mpr z] at e
 exact nz (sA.mp e)
theorem Wh.dv {D:Nat} {x:Rat} (h:Wh x):Dv D x:=by
 obtain ⟨z,rfl,_,_⟩:=h
 exact ⟨z * (D:Int),by rw [Rat.intCast_mul,Rat.intCast_natCast]⟩
theorem Wh.ab {x:Rat} (h:Wh x):Ab 20 x:=by
 obtain ⟨z,rfl,h1,h2⟩:=h
 have a:(((-20:Int)):Rat)<=(z:Rat):=by exact_mod_cast h1
 have b:(z:Rat)<=((20:Int):Rat):=by exact_mod_cast h2
 exact ⟨a,b⟩
theorem Wh.neg {x:Rat} (h:Wh x):Wh (x * -1):=by
 obtain ⟨z,rfl,h1,h2⟩:=h
 exact ⟨-z,by rw [Rat.intCast_neg];grind,by omega,by omega⟩
theorem Wh.mul {D:Nat} {x y:Rat} (h:Wh x) (d:Dv D y):Dv D (y * x):=by
 obtain ⟨z,rfl,h1,h2⟩:=h
 obtain ⟨a,ha⟩:=d
 exact ⟨a * z,by rw [Rat.intCast_mul,<- ha];grind⟩
theorem aBI {x y uu vv:Rat} {pp qq:Int} (wx:Wh x) (wy:Wh y) (pos:0 < qq * qq + pp * pp) (bd:Bd 9 (qq * qq + pp * pp)) (hu:((qq * qq - pp * pp:Int):Rat) / ((qq * qq + pp * pp:Int):Rat) = uu) (hv:((2 * pp * qq:Int):Rat) / ((qq * qq + pp * pp:Int):Rat) = vv) (bu:BQ 9 uu) (bv:BQ 10 vv):∃ A:Nat,0 < A/\A<=2 ^ 48/\plG A (2 ^ 25) (.arc x y (x + (uu * (x * -1) + vv * y)) (y + (vv * (x * -1) + uu * (y * -1)))):=by
 generalize qq * qq + pp * pp = c at *
 have c0:(c:Rat) ≠ 0:=by
  have:=aAV pos
  grind
 have ec:((c.toNat:Nat):Rat) = (c:Rat):=by
  rw [<- Rat.intCast_natCast,Int.toNat_of_nonneg (by omega)]
 have du:Dv c.toNat uu:=⟨_,by rw [ec,<- hu];exact Rat.div_mul_cancel c0⟩
 have dv:Dv c.toNat vv:=⟨_,by rw [ec,<- hv];exact Rat.div_mul_cancel c0⟩
 have au:=oJ bu
 have av:=oJ bv
 have hc:c.natAbs < 2 ^ 9:=bd
 have k {z:Rat} (h:Wh z):Dv c.toNat z/\Ab (2 ^ 25) z:=⟨h.dv,h.ab.mono (by decide)⟩
 exact ⟨c.toNat,by omega,by omega,⟨k wx,k wy⟩,⟨wx.dv.add ((wx.neg.mul du).add (wy.mul dv)),(wx.ab.add ((au.mul wx.neg.ab).add (av.mul wy.ab))).mono (by decide)⟩,wy.dv.add ((wx.neg.mul dv).add (wy.neg.mul du)),(wy.ab.add ((av.mul wx.neg.ab).add (au.mul wy.neg.ab))).mono (by decide)⟩
noncomputable def pP:DSp:=fun ds M Q=>∃ (a:Addr) (n:Nat) (L:List D),ds = [.ref a]/\M a = some L/\gX n L/\5<=n/\∀ x y u v,BQ 100 x->BQ 100 y->BQ 100 u->BQ 100 v->¬ (x = 0/\y = 0)->¬ (x = u/\y = v)->cS x y 0 0 = cS x y u v->(∃ A:Nat,0 < A/\A<=2 ^ 48/\plG A (2 ^ 25) (.arc x y u v))->Q (.tup [FQ x,FQ y,FQ u,FQ v]) M
noncomputable abbrev nA:Stmt:=top 77
theorem cV:aT ["_law_row_here","_law_x","_law_y","_law_p","_law_q","_law_u","_law_v","_law_back","_law_right","_law_up"] ["_law_row_here"] (aJ nA):=⟨rfl,rfl,rfl,by decide +kernel,rfl,by decide +kernel,by decide +kernel⟩
theorem uL (hF:cZ K mg "_law_bow" nA ["_law_row_here"]) (dF:Has P w K mg base 102 "_law_drawn" ["_law_one","_law_other"] jB) (bC:Has P w K mg base 101 "_law_ratio" ["_law_top","_law_bottom"] dG) (cA:Has P w K mg base 102 "_law_plus" ["_law_one","_law_other"] fO) (bW:Has P w K mg base 102 "_law_times" ["_law_one","_law_other"] gC) (aAy:mg "min" = none):Has P w K mg base 103 "_law_bow" ["_law_row_here"] pP:=by
 refine Has.mkZ hF cV (fun ds M Q ⟨a,n,L,e,_⟩=>by rw [e];rfl) fun f cdv A outer s H ds M Q E hr h=>?_
 obtain ⟨a,n,L,rfl,ha,hL,hn,q⟩:=h
 refine ⟨_,(aF (pG (i:=1) (j:=2) rfl cV.nd (aA (aG dF hr (by decide) (aA (aH (aB 0) aC) (aA aC aD))) (aA (aG dF hr (by decide) (aA (aH (aB 0) aC) (aA aC aD))) aD)))
  (eX (bA (fM (iW (aS (cE hr) (aH (aB 1) aC) aC) (gI (aS (cE hr) (aH (aB 2) aC) aC)))) (aE (aY (i:=2) cV.nd (aK (aA aC (aA aC aD))))) aR)
  (aF (kR (aH (cB (aA (aK (aA aC (aA aC aD))) (aA (aK (aA aC (aA aC aD))) (aA (aK (aA (aI gK (aI bZ (aH (aB 0) aC) aC) aC) (aA (aI cO aC (aI bZ (aH (aB 0) aC) aC)) aD))) aD)))) (bO (aEc rfl) aAy (aA aC (aA (aI bZ (aH (aB 0) aC) aC) aD)))) (kT (n:=2) rfl (cI (bR (i:=3) cV.nd) (cI (bR (i:=4) cV.nd) iN))))
  (aF (aY (i:=5) cV.nd (aG bC hr (by decide) (aA (aI gK (aI bU (aB 4) (aB 4)) (aI bU (aB 3) (aB 3))) (aA (aI cO (aI bU (aB 4) (aB 4)) (aI bU (aB 3) (aB 3))) aD))))
  (aF (aY (i:=6) cV.nd (aG bC hr (by decide) (aA (aI bU (aI bU aC (aB 3)) (aB 4)) (aA (aI cO (aI bU (aB 4) (aB 4)) (aI bU (aB 3) (aB 3))) aD))))
  (aF (aY (i:=7) cV.nd (aK (aA (kS aC) (aA aC aD))))
  (aF (aY (i:=8) cV.nd (aG cA hr (by decide) (aA (aG bW hr (by decide) (aA (aB 5) (aA (aG bW hr (by decide) (aA (aB 1) (aA (aB 7) aD))) aD))) (aA (aG bW hr (by decide) (aA (aB 6) (aA (aB 2) aD))) aD))))
  (aF (aY (i:=9) cV.nd (aG cA hr (by decide) (aA (aG bW hr (by decide) (aA (aB 6) (aA (aG bW hr (by decide) (aA (aB 1) (aA (aB 7) aD))) aD))) (aA (aG bW hr (by decide) (aA (aB 5) (aA (aG bW hr (by decide) (aA (aB 2) (aA (aB 7) aD))) aD))) aD))))
  (aE (aN (aK (aA (aB 1) (aA (aB 2) (aA (aG cA hr (by decide) (aA (aB 1) (aA (aB 8) aD))) (aA (aG cA hr (by decide) (aA (aB 2) (aA (aB 9) aD))) aD))))))))))))))),?_⟩
 decreasing_tactic
 obtain ⟨z0,e0,_⟩:=hL.at (i:=0) (by omega)
 obtain ⟨z1,e1,_⟩:=hL.at (i:=1) (by omega)
 obtain ⟨z2,e2,_⟩:=hL.at (i:=2) (by omega)
 obtain ⟨z3,e3,_⟩:=hL.at (i:=3) (by omega)
 obtain ⟨z4,e4,_⟩:=hL.at (i:=4) (by omega)
 refine ⟨_,_,ha,e0,_,_,rfl,fun x hx wx=>?_⟩
 decreasing_tactic
 refine ⟨_,_,ha,e1,_,_,rfl,fun y hy wy=>?_⟩
 decreasing_tactic
 refine ⟨fun ρ' M'=>M = M'/\∃ y:Rat,ρ' = [some (.ref a),some (FQ x),some (FQ y),none,none,none,none,none,none,none]/\BQ 24 y/\¬ (x = 0/\y = 0)/\((1:Int).fmod 5 ≠ 4->(1:Int).fmod 3 ≠ 2->Wh y),?_,?_⟩
 ·rw [bE]
  refine dif (fun c1=>?_) (fun c1=>?_)
  ·rw [bE]
   refine dif (fun c2=>?_) (fun c2=>?_)
   ·exact ⟨by decide,rfl,2,rfl,⟨by unfold Bd;decide,by unfold Bd;decide⟩,(fun z=>absurd z.2 (by decide)),fun _ _=>⟨2,rfl,by decide,by decide⟩⟩
   ·exact ⟨rfl,y,rfl,hy,(fun z=>c2 (by rw [z.2];rfl)),wy⟩
  ·exact ifF rfl ⟨rfl,y,rfl,hy,(fun z=>c1 (by rw [z.1];rfl)),wy⟩
 ·clear hy wy y
  rintro _ _ ⟨rfl,y,rfl,hy,nz,wy⟩
  decreasing_tactic
  refine ⟨by decide,by decide,_,_,ha,e2,?_⟩
  decreasing_tactic
  refine ⟨by decide,_,_,ha,e3,?_⟩
  decreasing_tactic
  refine ⟨by decide,by decide,by decide,fun p hp=>?_⟩
  refine ⟨_,_,by rw [mF (vD ha hp)];exact ha,e4,?_⟩
  decreasing_tactic
  have a1:=Int.fmod_nonneg_of_pos z2 (show (0:Int) < 19 by decide)
  have a2:=Int.fmod_lt_of_pos z2 (show (0:Int) < 19 by decide)
  have a3:=Int.fmod_nonneg_of_pos z3 (show (0:Int) < 9 by decide)
  have a4:=Int.fmod_lt_of_pos z3 (show (0:Int) < 9 by decide)
  obtain ⟨pp,qq,ek,p0,p1,q0,q1,np⟩:∃ pp qq:Int,atI [D.tup [.int 1,.int 0],.tup [.int 0,.int 1],.tup [.int (z2.fmod 19 - 9),.int (1 + z3.fmod 9)]] (if z4.fmod 8 < 2 then z4.fmod 8 else 2) = some (.tup [.int pp,.int qq])/\-10<=pp/\pp<=10/\-10<=qq/\qq<=10/\(pp ≠ 0 ∨ qq ≠ 0):=by
   have b1:=Int.fmod_nonneg_of_pos z4 (show (0:Int) < 8 by decide)
   by_cases c:z4.fmod 8 < 2
   ·rw [if_pos c]
    have:z4.fmod 8 = 0 ∨ z4.fmod 8 = 1:=by omega
    rcases this with e | e<;>rw [e]
    ·exact ⟨1,0,rfl,by decide,by decide,by decide,by decide,.inl (by decide)⟩
    ·exact ⟨0,1,rfl,by decide,by decide,by decide,by decide,.inr (by decide)⟩
   ·rw [if_neg c]
    exact ⟨_,_,rfl,by omega,by omega,by omega,by omega,.inr (by omega)⟩
  have s1:=bK.new hp [D.tup [.int 1,.int 0],.tup [.int 0,.int 1],.tup [.int (z2.fmod 19 - 9),.int (1 + z3.fmod 9)]]
  have bp:Bd 4 pp:=Bd.of (by omega) (by omega)
  have bq:Bd 4 qq:=Bd.of (by omega) (by omega)
  refine ⟨by decide,_,_,aL,ek,?_⟩
  decreasing_tactic
  have pos:0 < qq * qq + pp * pp:=aES np
  have bu:BQ 9 (((qq * qq - pp * pp:Int):Rat) / ((qq * qq + pp * pp:Int):Rat)):=.make (by omega) (bq.mul bq |>.sub (bp.mul bp)) (bq.mul bq |>.add (bp.mul bp))
  have bv:BQ 10 (((2 * pp * qq:Int):Rat) / ((qq * qq + pp * pp:Int):Rat)):=.make (by omega) (((Bd.mul (m:=2) (x:=2) (by unfold Bd;decide) bp).mul bq)) ((bq.mul bq |>.add (bp.mul bp)).mono (by decide))
  have bd:Bd 9 (qq * qq + pp * pp):=bq.mul bq |>.add (bp.mul bp)
  generalize hu:((qq * qq - pp * pp:Int):Rat) / ((qq * qq + pp * pp:Int):Rat) = uu at bu
  generalize hv:((2 * pp * qq:Int):Rat) / ((qq * qq + pp * pp:Int):Rat) = vv at bv
  have m1:BQ 2 (-1):=⟨by unfold Bd;decide,by unfold Bd;decide⟩
  refine ⟨rfl,dJ bq bq,dJ bp bp,dJ bq bq,dJ bp bp,_,_,rfl,pos,bd.mono (by decide),aA1 (by unfold Bd;decide),dJ ((Bd.mul (m:=2) (x:=2) (by unfold Bd;decide) bp)) bq,dJ bq bq,dJ bp bp,_,_,rfl,pos,bd.mono (by decide),?_⟩
  rw [hu,hv,aEi]
  have w3:=hx.mul m1
  have w4:=bu.mul w3
  have w5:=bv.mul hy
  have w8:=bv.mul w3
  have w9:=hy.mul m1
  have w10:=bu.mul w9
  have bk:=aDV (x:=x) (y:=y) (aF8 pos hu hv) nz
  exact ⟨by decide,jH hx m1 (by decide) (jH bu w3 (by decide) (jH bv hy (by decide) (oI w4 w5 (by decide) (jH hx m1 (by decide) (jH bv w3 (by decide) (jH hy m1 (by decide) (jH bu w9 (by decide) (oI w8 w10 (by decide) (oI hx (w4.add w5) (by decide) (oI hy (w8.add w10) (by decide) ⟨by decide,M,s1,q _ _ _ _ (hx.mono (by decide)) (hy.mono (by decide)) ((hx.add (w4.add w5)).mono (by decide)) ((hy.add (w8.add w10)).mono (by decide)) nz bk.1 bk.2 (aBI (wx (by decide) (by decide)) (wy (by decide) (by decide)) pos bd hu hv bu bv)⟩))))))))))⟩
theorem wT {n:Nat} {L:List D} (h:gX n L) (lo hi:Nat) (l:lo<=hi) (r:hi<=n):gX (hi - lo) (Dd.cutD L (some (lo:Int)) (some (hi:Int))):=by
 unfold Dd.cutD
 rw [h.1,HT.sIx_nat,HT.sIx_nat,Nat.min_eq_left (by omega),Nat.min_eq_left (by omega)]
 exact ⟨by rw [List.length_take,List.length_drop,h.1];omega,fun d hd=>h.2 d (List.mem_of_mem_drop (List.mem_of_mem_take hd))⟩
theorem aBr {n:Nat} {L:List D} (h:gX n L) (lo:Nat) (r:lo<=n):gX (n - lo) (Dd.cutD L (some (lo:Int)) none):=by
 unfold Dd.cutD
 rw [h.1,HT.sIx_nat,HT.sIx_none,Nat.min_eq_left (by omega)]
 exact ⟨by rw [List.length_take,List.length_drop,h.1];omega,fun d hd=>h.2 d (List.mem_of_mem_drop (List.mem_of_mem_take hd))⟩
theorem e13:FQ (1 / 3:Rat) = D.tup [.int 1,.int 3]:=by
 unfold FQ
 rw [show (1 / 3:Rat).num = 1 by decide +kernel,show (1 / 3:Rat).den = 3 by decide +kernel];rfl
theorem g1 {a:Rat} (h:BQ 24 a):∃ A:Nat,0 < A/\A<=2 ^ 48/\Dv A a/\Ab (2 ^ 25) a :=
 ⟨a.den,a.den_pos,Nat.le_trans (Nat.le_of_lt (show a.den < 2 ^ 24 from h.2)) (by decide),.own a,(oJ h).mono (by decide)⟩
theorem gh {a:Rat} (h:BQ 24 a):∃ A:Nat,0 < A/\A<=2 ^ 48/\Dv A a/\Ab (2 ^ 25) a/\Ab (2 ^ 25) (a + a) :=
 ⟨a.den,a.den_pos,Nat.le_trans (Nat.le_of_lt (show a.den < 2 ^ 24 from h.2)) (by decide),.own a,(oJ h).mono (by decide),((oJ h).add (oJ h)).mono (by decide)⟩
theorem g2 {a b:Rat} (h:BQ 24 a) (h2:BQ 24 b):∃ A:Nat,0 < A/\A<=2 ^ 48/\(Dv A a/\Ab (2 ^ 25) a)/\Dv A b/\Ab (2 ^ 25) b :=
 ⟨a.den * b.den,Nat.mul_pos a.den_pos b.den_pos,Nat.le_trans (Nat.mul_le_mul (Nat.le_of_lt (show a.den < 2 ^ 24 from h.2)) (Nat.le_of_lt (show b.den < 2 ^ 24 from h2.2))) (by decide),⟨(Dv.own a).up _,(oJ h).mono (by decide)⟩,(Dv.own b).up' _,(oJ h2).mono (by decide)⟩
theorem g3 {t b:Int} (t0:0 < t) (t1:t<=12) (b0:0 < b) (b1:b<=12):plG 1 (2 ^ 25) (.grow ((t:Rat) / (b:Rat))):=by
 have c0:(b:Rat) ≠ 0:=by
  have:=aAV b0
  grind
 refine ⟨t.toNat,b.toNat,by omega,by omega,?_⟩
 rw [<- Rat.intCast_natCast,<- Rat.intCast_natCast,Int.toNat_of_nonneg (by omega),Int.toNat_of_nonneg (by omega)]
 exact Rat.div_mul_cancel c0
theorem b13:BQ 24 (1 / 3):=⟨by unfold Bd;decide +kernel,by unfold Bd;decide +kernel⟩
noncomputable def mC:DSp:=fun ds M Q=>∃ (a:Addr) (n:Nat) (L:List D),ds = [.ref a]/\M a = some L/\gX n L/\8<=n/\∀ p,plB 100 p->(∃ A:Nat,0 < A/\A<=2 ^ 48/\plG A (2 ^ 25) p)->Q (plD p) M
noncomputable abbrev kC:Stmt:=top 78
theorem gD:aT ["_law_row_here","_law_words","_law_word","_law_one"] ["_law_row_here"] (aJ kC):=⟨rfl,rfl,rfl,by decide +kernel,rfl,by decide +kernel,by decide +kernel⟩
theorem qX (hF:cZ K mg "_law_plain" kC ["_law_row_here"]) (iO:mg "int" = none) (dF:Has P w K mg base 102 "_law_drawn" ["_law_one","_law_other"] jB) (bC:Has P w K mg base 101 "_law_ratio" ["_law_top","_law_bottom"] dG) (nP:Has P w K mg base 103 "_law_bow" ["_law_row_here"] pP):Has P w K mg base 104 "_law_plain" ["_law_row_here"] mC:=by
 refine Has.mkZ hF gD (fun ds M Q ⟨_,_,_,z,_⟩=>by rw [z];rfl) fun f cdv A outer s H ds M Q E hr h=>?_
 obtain ⟨a,n,L,rfl,ha,hL,hn,q⟩:=h
 refine ⟨_,(aF (aY (i:=1) gD.nd (cB (aA aM (aA aM (aA aM (aA aM (aA aM (aA aM (aA aM (aA aM (aA aM (aA aM (aA aM (aA aM (aA aM aD)))))))))))))))
  (aF (aY (i:=2) gD.nd (aH (aI cO (aB 1) (cB (aA aM (aA aM (aA aM aD))))) (aI bZ (aH (aB 0) aC) aC)))
  (aF (aY (i:=3) gD.nd (aG dF hr (by decide) (aA (aH (aB 0) aC) (aA (aH (aB 0) aC) aD))))
  (aF (bA (aS aBG (aB 2) (cB (aA aM (aA aM aD))) rfl) (aE (aN (aK (aA (aB 2) (aA (aB 3) aD))))) aR)
  (aF (bA (aS (cE hr) (aB 2) aM) (aE (aN (aK (aA (aB 2) (aA (aB 3) (aA (aG dF hr (by decide) (aA (aH (aB 0) aC) (aA (aH (aB 0) aC) aD))) aD)))))) aR)
  (aF (bA (aS (cE hr) (aB 2) aM) (aE (aN (aK (aA (aB 2) (aA (aG bC hr (by decide) (aA (aI cO aC (aI bZ (aH (aB 0) aC) aC)) (aA (aI cO aC (aI bZ (aH (aB 0) aC) aC)) aD))) aD))))) aR)
  (aF (bA (aS aBG (aB 2) (cB (aA aM (aA aM aD))) rfl) (aE (aN (aK (aA (aB 2) (aA (aH (cB (aA (aB 3) (aA (aK (aA aC (aA aC aD))) aD))) (lR vP iO (aA (cK (cE hr) (aH (aB 3) aC) aC) aD))) aD))))) aR)
  (aF (bA (aS (cE hr) (aB 2) aM) (aE (aN (aI eR (aK (aA (aB 2) aD)) (aG nP hr (by decide) (aA (kQ (aB 0) (bX aC) (bX aC)) aD))))) aR)
  (aE (aN (aK (aA (aB 2) aD)))))))))))),?_⟩
 decreasing_tactic
 obtain ⟨z0,e0,_⟩:=hL.at (i:=0) (by omega)
 obtain ⟨z1,e1,_⟩:=hL.at (i:=1) (by omega)
 obtain ⟨z2,e2,_⟩:=hL.at (i:=2) (by omega)
 obtain ⟨z3,e3,_⟩:=hL.at (i:=3) (by omega)
 obtain ⟨z4,e4,_⟩:=hL.at (i:=4) (by omega)
 refine ⟨by decide,fun p0 hp0=>⟨by decide,fun p1 hp1=>?_⟩⟩
 obtain ⟨n10,hp1'⟩:=jU hp1
 refine ⟨_,_,by rw [mF (Ne.symm n10)];exact aL,aL,by decide,fun p2 hp2=>?_⟩
 have s1:=((bK.new hp0 [D.str "go",.str "go",.str "side",.str "quarter",.str "half",.str "arc",.str "dot",.str "skip",.str "left",.str "right",.str "round",.str "mirror",.str "grow"]).trans (bK.new hp1 [D.str "side",.str "quarter",.str "arc"])).trans (bK.new hp2 [D.str "go",.str "go",.str "side",.str "quarter",.str "half",.str "arc",.str "dot",.str "skip",.str "left",.str "right",.str "round",.str "mirror",.str "grow",.str "side",.str "quarter",.str "arc"])
 decreasing_tactic
 refine ⟨L,_,s1 _ _ ha,e0,?_⟩
 decreasing_tactic
 obtain ⟨wd,ew,hw⟩:∃ wd:Str,atI [D.str "go",.str "go",.str "side",.str "quarter",.str "half",.str "arc",.str "dot",.str "skip",.str "left",.str "right",.str "round",.str "mirror",.str "grow",.str "side",.str "quarter",.str "arc"] (z0.fmod 16) = some (.str wd)/\(((wd = "go" ∨ wd = "skip") ∨ wd = "side" ∨ wd = "grow") ∨ ((wd = "quarter" ∨ wd = "half") ∨ wd = "arc") ∨ (wd = "dot" ∨ wd = "left") ∨ wd = "right" ∨ wd = "round" ∨ wd = "mirror"):=by
  have h1:=Int.fmod_nonneg_of_pos z0 (show (0:Int) < 16 by decide)
  have h2:=Int.fmod_lt_of_pos z0 (show (0:Int) < 16 by decide)
  have:((z0.fmod 16 = 0 ∨ z0.fmod 16 = 1 ∨ z0.fmod 16 = 2 ∨ z0.fmod 16 = 3) ∨ z0.fmod 16 = 4 ∨ z0.fmod 16 = 5 ∨ z0.fmod 16 = 6 ∨ z0.fmod 16 = 7) ∨ (z0.fmod 16 = 8 ∨ z0.fmod 16 = 9 ∨ z0.fmod 16 = 10 ∨ z0.fmod 16 = 11) ∨ z0.fmod 16 = 12 ∨ z0.fmod 16 = 13 ∨ z0.fmod 16 = 14 ∨ z0.fmod 16 = 15:=by omega
  rcases this with ((e | e | e | e) | e | e | e | e) | (e | e | e | e) | e | e | e | e<;>rw [e]<;>exact ⟨_,rfl,by decide⟩
 refine ⟨by decide,_,_,aL,ew,?_⟩
 generalize cW (cW (cW M p0 _) p1 _) p2 _ = M2 at s1 ⊢
 refine ⟨L,_,s1 _ _ ha,e1,L,_,s1 _ _ ha,e2,z1,z2,rfl,fun one bone _=>?_⟩
 decreasing_tactic
 refine ⟨by decide,fun p3 hp3=>⟨["go","skip"],aL,?_⟩⟩
 have s3:=s1.trans (bK.new hp3 [D.str "go",.str "skip"])
 have ha3:=s3 _ _ ha
 decreasing_tactic
 generalize cW M2 p3 _ = M3 at s3 ha3 ⊢
 have m24 {x:Rat} (h:BQ 24 x):BQ 100 x:=h.mono (by decide)
 rcases hw with ((rfl | rfl) | rfl | rfl) | ((rfl | rfl) | rfl) | (rfl | rfl) | rfl | rfl | rfl
 ·exact ifT (by decide) ⟨by decide,M,s3,q (.go one) (m24 bone) (g1 bone)⟩
 ·exact ifT (by decide) ⟨by decide,M,s3,q (.skip one) (m24 bone) (g1 bone)⟩
 ·refine ifF (by decide) ?_
  rw [bD]
  refine ifT (by decide) ⟨L,_,ha3,e3,L,_,ha3,e4,z3,z4,rfl,fun two btwo _=>?_⟩
  decreasing_tactic
  exact ⟨by decide,M,s3,q (.side one two) ⟨m24 bone,m24 btwo⟩ (g2 bone btwo)⟩
 ·refine ifF (by decide) ?_
  rw [bD]
  refine ifF (by decide) ?_
  rw [bD]
  refine ifT (by decide) ⟨L,_,ha3,e1,?_⟩
  decreasing_tactic
  refine ⟨by decide,L,_,ha3,e2,?_⟩
  decreasing_tactic
  have h1:=Int.fmod_nonneg_of_pos z1 (show (0:Int) < 12 by decide)
  have h2:=Int.fmod_lt_of_pos z1 (show (0:Int) < 12 by decide)
  have h3:=Int.fmod_nonneg_of_pos z2 (show (0:Int) < 12 by decide)
  have h4:=Int.fmod_lt_of_pos z2 (show (0:Int) < 12 by decide)
  refine ⟨by decide,_,_,rfl,by omega,(vA (by omega) (by omega)).mono (by decide),?_⟩
  decreasing_tactic
  have sp:(0:Rat) < ((1 + z1.fmod 12:Int):Rat) / ((1 + z2.fmod 12:Int):Rat):=aA3 (aAV (by omega)) (aAV (by omega))
  exact ⟨by decide,M,s3,q (.grow _) ⟨m24 (aBv (by omega) (by omega) (by omega) (by omega)),sp⟩ ⟨1,by decide,by decide,g3 (by omega) (by omega) (by omega) (by omega)⟩⟩
 all_goals
  refine ifF (by decide) ?_
  rw [bD]
  refine ifF (by decide) ?_
  rw [bD]
  refine ifF (by decide) ?_
  refine ⟨by decide,fun p4 hp4=>⟨["quarter","half"],aL,?_⟩⟩
  have s4:=s3.trans (bK.new hp4 [D.str "quarter",.str "half"])
  have ha4:=s4 _ _ ha
  decreasing_tactic
  generalize cW M3 p4 _ = M4 at s4 ha4 ⊢
 case inr.inl.inl.inl =>
  refine ifT (by decide) ⟨by decide,by decide,fun p5 hp5=>?_⟩
  rw [bE]
  by_cases c:one.num = 0
  ·rw [decide_eq_true c]
   have fin:=q (.quarter (1 / 3)) ⟨⟨by unfold Bd;decide +kernel,by unfold Bd;decide +kernel⟩,by decide +kernel⟩ (g1 b13)
   dsimp only [plD] at fin
   rw [e13] at fin
   exact ⟨_,_,aL,rfl,by decide,M,s4.trans (bK.new hp5 _),fin⟩
  ·rw [decide_eq_false c]
   exact ⟨_,_,aL,rfl,by decide,M,s4.trans (bK.new hp5 _),q (.quarter one) ⟨m24 bone,fun z=>c (by rw [z];rfl)⟩ (g1 bone)⟩
 case inr.inl.inl.inr =>
  refine ifT (by decide) ⟨by decide,by decide,fun p5 hp5=>?_⟩
  rw [bE]
  by_cases c:one.num = 0
  ·rw [decide_eq_true c]
   have fin:=q (.half (1 / 3)) ⟨⟨by unfold Bd;decide +kernel,by unfold Bd;decide +kernel⟩,by decide +kernel⟩ (gh b13)
   dsimp only [plD] at fin
   rw [e13] at fin
   exact ⟨_,_,aL,rfl,by decide,M,s4.trans (bK.new hp5 _),fin⟩
  ·rw [decide_eq_false c]
   exact ⟨_,_,aL,rfl,by decide,M,s4.trans (bK.new hp5 _),q (.half one) ⟨m24 bone,fun z=>c (by rw [z];rfl)⟩ (gh bone)⟩
 case inr.inl.inr =>
  refine ifF (by decide) ?_
  rw [bD]
  refine ifT (by decide) ⟨by decide,L,ha4,fun p5 hp5=>?_⟩
  refine ⟨p5,5,_,rfl,aL,wT hL 3 8 (by decide) (by omega),by decide,fun x y u v b1 b2 b3 b4 k1 k2 k3 kg=>?_⟩
  decreasing_tactic
  exact ⟨by decide,M,s4.trans (bK.new hp5 _),q (.arc x y u v) ⟨b1,b2,b3,b4,k1,k2,k3⟩ kg⟩
 all_goals
  refine ifF (by decide) ?_
  rw [bD]
  refine ifF (by decide) ⟨by decide,M,s4,?_⟩
 ·exact q .dot trivial ⟨1,by decide,by decide,trivial⟩
 ·exact q .left trivial ⟨1,by decide,by decide,trivial⟩
 ·exact q .right trivial ⟨1,by decide,by decide,trivial⟩
 ·exact q .rnd trivial ⟨1,by decide,by decide,trivial⟩
 ·exact q .mirror trivial ⟨1,by decide,by decide,trivial⟩
noncomputable def aE0:D->Option Bool
 | .int _=>some true
 | .ref _=>none
 | _=>some false
noncomputable def kF:DSp:=fun ds M Q=>∃ d b,ds = [d]/\aE0 d = some b/\Q (.bl b) M
noncomputable abbrev lT:Stmt:=top 24
theorem uF:aT ["thing"] ["thing"] (aJ lT):=⟨rfl,rfl,rfl,by decide +kernel,rfl,by decide +kernel,by decide +kernel⟩
theorem sQ (hF:cZ K mg "is_whole" lT ["thing"]) (aQ:mg "isinstance" = none) (iO:mg "int" = none) (iQ:mg "bool" = none):Has P w K mg base 101 "is_whole" ["thing"] kF:=by
 refine Has.mkZ hF uF (fun ds M Q ⟨_,_,z,_⟩=>by rw [z];rfl) fun f cdv A outer s H ds M Q E hr h=>?_
 obtain ⟨d,b,rfl,h,q⟩:=h
 refine ⟨_,(aE (aN (dS (dU (aB 0) aQ iO) (eA (aCd (dU (aB 0) aQ iQ)))))),?_⟩
 decreasing_tactic
 cases d with
 | int i=>cases h;exact .inl ⟨_,_,rfl,rfl,ifT rfl (.inl ⟨_,_,rfl,rfl,aV q⟩)⟩
 | bl b=>cases h;exact .inl ⟨_,_,rfl,rfl,ifT rfl (.inl ⟨_,_,rfl,rfl,aV q⟩)⟩
 | ref a=>cases h
 | _=>cases h;exact .inl ⟨_,_,rfl,rfl,ifF rfl (aV q)⟩
noncomputable def lC:DSp:=fun ds M Q=>∃ a b,ds = [.int a,.int b]/\Q (.bl (decide (1<=b) && decide (Int.gcd a b = 1))) M
noncomputable abbrev iX:Stmt:=top 25
theorem rE:aT ["top","bottom"] ["top","bottom"] (aJ iX):=⟨rfl,rfl,rfl,by decide +kernel,rfl,by decide +kernel,by decide +kernel⟩
theorem qK (hF:cZ K mg "is_reduced" iX ["top","bottom"]) (eN:Has P w K mg base 101 "greatest_divisor" ["one","other"] fY):Has P w K mg base 102 "is_reduced" ["top","bottom"] lC:=by
 refine Has.mkZ hF rE (fun ds M Q ⟨_,_,z,_⟩=>by rw [z];rfl) fun f cdv A outer s H ds M Q E hr h=>?_
 obtain ⟨a,b,rfl,q⟩:=h
 refine ⟨_,(aE (aN (dS (cK aGX (aB 1) aC) (eA (cK (cE hr) (aG eN hr (by decide) (aA (aB 0) (aA (aB 1) aD))) aC))))),?_⟩
 decreasing_tactic
 by_cases c:1<=b
 ·rw [decide_eq_true c,Bool.true_and] at q
  refine ifT (decide_eq_true c) ⟨a,b,rfl,?_⟩
  decreasing_tactic
  rw [bE,show decide ((Int.gcd a b:Int) = 1) = decide (Int.gcd a b = 1) from decide_eq_decide.mpr ⟨fun z=>by omega,fun z=>by omega⟩]
  exact aV q
 ·rw [decide_eq_false c,Bool.false_and] at q
  exact ifF (decide_eq_false c) (aV q)
noncomputable def jO:D->Bool
 | .ref _=>false
 | .fz _=>false
 | _=>true
noncomputable def qD:D->Bool
 | .ref _=>false
 | .fz _=>false
 | .tup xs=>xs.all jO
 | _=>true
noncomputable def eF:D->Bool
 | .tup [.int a,.int b]=>decide (1<=b) && decide (Int.gcd a b = 1)
 | _=>false
theorem xD (x:Rat):eF (FQ x) = true:=by
 have h1:=x.den_pos
 have h2:Int.gcd x.num (x.den:Int) = 1:=x.reduced
 show (decide (1<=(x.den:Int)) && decide (Int.gcd x.num (x.den:Int) = 1)) = true
 rw [decide_eq_true (by omega),decide_eq_true h2];rfl
theorem sK {d:D} (h:eF d = true):∃ x:Rat,d = FQ x:=by
 unfold eF at h
 split at h
 ·rename_i a b
  rw [Bool.and_eq_true,decide_eq_true_eq,decide_eq_true_eq] at h
  obtain ⟨h1,h2⟩:=h
  refine ⟨⟨a,b.toNat,by omega,?_⟩,?_⟩
  ·show Nat.Coprime a.natAbs b.toNat
   have:b.natAbs = b.toNat:=by omega
   unfold Nat.Coprime
   rw [<- this];exact h2
  ·show D.tup [.int a,.int b] = D.tup [.int a,.int (b.toNat:Int)]
   rw [Int.toNat_of_nonneg (by omega)]
 ·cases h
theorem aAo:∀ {xs:List D},xs.all eF = true->∃ rs:List Rat,xs = rs.map FQ
 | [],_=>⟨[],rfl⟩
 | x :: xs,h=>by
  rw [List.all_cons,Bool.and_eq_true] at h
  obtain ⟨r,rfl⟩:=sK h.1
  obtain ⟨rs,rfl⟩:=aAo h.2
  exact ⟨r :: rs,rfl⟩
theorem fL {ds:List D} {M:DM} {Q:DQ}:mT [.tup ds] M Q = Q (.int (ds.length:Int)) M:=rfl
noncomputable def kG:DSp:=fun ds M Q=>∃ d,ds = [d]/\qD d = true/\Q (.bl (eF d)) M
noncomputable abbrev hZ:Stmt:=top 26
theorem pI:aT ["thing"] ["thing"] (aJ hZ):=⟨rfl,rfl,rfl,by decide +kernel,rfl,by decide +kernel,by decide +kernel⟩
theorem oO (hF:cZ K mg "is_fraction" hZ ["thing"]) (aQ:mg "isinstance" = none) (dH:mg "tuple" = none) (dE:mg "len" = none) (eL:Has P w K mg base 101 "is_whole" ["thing"] kF) (iT:Has P w K mg base 102 "is_reduced" ["top","bottom"] lC):Has P w K mg base 103 "is_fraction" ["thing"] kG:=by
 refine Has.mkZ hF pI (fun ds M Q ⟨_,z,_⟩=>by rw [z];rfl) fun f cdv A outer s H ds M Q E hr h=>?_
 obtain ⟨d,rfl,ok,q⟩:=h
 refine ⟨_,(aF (bA (fM (eZ (dR (cD (dU (aB 0) aQ dH))) (fK (aS (jP hr) (bO hJ dE (aA (aB 0) aD)) aC)))) (aE (aN eD)) aR)
  (aE (aN (dS (aG eL hr (by decide) (aA (aH (aB 0) aC) aD)) (dS (aG eL hr (by decide) (aA (aH (aB 0) aC) aD)) (eA (aG iT hr (by decide) (aA (aH (aB 0) aC) (aA (aH (aB 0) aC) aD))))))))),?_⟩
 cases d with
 | tup xs =>
  decreasing_tactic
  refine .inl ⟨_,_,rfl,rfl,ifF rfl ?_⟩
  rcases xs with _ | ⟨a,_ | ⟨b,_ | ⟨c,r⟩⟩⟩
  ·rw [fL]
   decreasing_tactic
   rw [bE]
   exact ifT (by decide) (aV q)
  ·rw [fL]
   decreasing_tactic
   rw [bE]
   exact ifT (by decide) (aV (by cases a<;>exact q))
  ·rw [fL]
   decreasing_tactic
   rw [bE]
   refine ifF (by decide) ?_
   have oka:jO a = true:=(Bool.and_eq_true_iff.mp ok).1
   have okb:jO b = true:=(Bool.and_eq_true_iff.mp (Bool.and_eq_true_iff.mp ok).2).1
   cases a with
   | ref _=>cases oka
   | fz _=>cases oka
   | int i =>
    refine ⟨_,_,rfl,rfl,ifT rfl ?_⟩
    cases b with
    | ref _=>cases okb
    | fz _=>cases okb
    | int j=>exact ⟨_,_,rfl,rfl,ifT rfl ⟨_,_,rfl,aV q⟩⟩
    | _=>exact ⟨_,_,rfl,rfl,ifF rfl (aV q)⟩
   | _=>exact ⟨_,_,rfl,rfl,ifF rfl (aV q)⟩
  ·rw [fL]
   decreasing_tactic
   rw [bE]
   exact ifT (by rw [decide_eq_false (by show ¬ ((((r.length + 1 + 1 + 1:Nat)):Int) = 2);omega)];rfl) (aV (by cases a<;>cases b<;>exact q))
 | ref _=>cases ok
 | fz _=>cases ok
 | _=>decreasing_tactic;exact .inl ⟨_,_,rfl,rfl,ifT rfl (aV q)⟩
noncomputable def oV:List (Str × Int):=[("go",1),("skip",1),("side",2),("dot",0),("left",0),("right",0),("round",0),("mirror",0),("grow",1),("quarter",1),("half",1),("arc",4)]
noncomputable def qE:List Str:=["","Go","go ","forth","end","line"]
noncomputable def gR:DSp:=fun ds M Q=>∃ k:Str,ds = [.str k]/\((∃ n,oV.lookup k = some n/\Q (.int n) M) ∨ (k ∈ qE/\Q .non M))
noncomputable abbrev fD:Stmt:=top 27
theorem mD:aT ["word"] ["word"] (aJ fD):=⟨rfl,rfl,rfl,by decide +kernel,rfl,by decide +kernel,by decide +kernel⟩
theorem lZ (hF:cZ K mg "numbers_behind" fD ["word"]) (nC:xM w K mg "NUMBERS" oV qE):Has P w K mg base 101 "numbers_behind" ["word"] gR:=by
 refine Has.mkZ hF mD (fun ds M Q ⟨_,z,_⟩=>by rw [z];rfl) fun f cdv A outer s H ds M Q E hr h=>?_
 obtain ⟨k,rfl,h⟩:=h
 refine ⟨_,(aE (aN (aAt nC (aB 0)))),?_⟩
 decreasing_tactic
 rcases h with ⟨n,hn,q⟩ | ⟨hn,q⟩
 ·exact .inl ⟨n,hn,aV q⟩
 ·exact .inr ⟨hn,aV q⟩
noncomputable def gS:D->Bool
 | .tup (.str _ :: _)=>true
 | _=>false
noncomputable def iV:DSp:=fun ds M Q=>∃ d,ds = [d]/\qD d = true/\Q (.bl (gS d)) M
noncomputable abbrev jS:Stmt:=top 30
theorem sU:aT ["thing"] ["thing"] (aJ jS):=⟨rfl,rfl,rfl,by decide +kernel,rfl,by decide +kernel,by decide +kernel⟩
theorem rB (hF:cZ K mg "is_worded" jS ["thing"]) (aQ:mg "isinstance" = none) (dH:mg "tuple" = none) (sF:mg "str" = none) (dE:mg "len" = none):Has P w K mg base 101 "is_worded" ["thing"] iV:=by
 refine Has.mkZ hF sU (fun ds M Q ⟨_,z,_⟩=>by rw [z];rfl) fun f cdv A outer s H ds M Q E hr h=>?_
 obtain ⟨d,rfl,ok,q⟩:=h
 refine ⟨_,(aE (aN (dS (dU (aB 0) aQ dH) (dS (cK rR (bO hJ dE (aA (aB 0) aD)) aC) (eA (dU (aH (aB 0) aC) aQ sF)))))),?_⟩
 cases d with
 | tup xs =>
  decreasing_tactic
  cases xs with
  | nil =>
   refine .inl ⟨_,_,rfl,rfl,ifT rfl ?_⟩
   rw [fL]
   decreasing_tactic
   exact ifF (by decide) (aV q)
  | cons x cU =>
   refine .inl ⟨_,_,rfl,rfl,ifT rfl (ifT (decide_eq_true (by show (0:Int) < ((cU.length + 1:Nat):Int);omega)) ?_)⟩
   rw [nV]
   decreasing_tactic
   have okx:jO x = true:=(Bool.and_eq_true_iff.mp ok).1
   cases x with
   | ref _=>cases okx
   | fz _=>cases okx
   | _=>exact .inl ⟨_,_,rfl,rfl,aV q⟩
 | ref _=>cases ok
 | fz _=>cases ok
 | _=>decreasing_tactic;exact .inl ⟨_,_,rfl,rfl,ifF rfl (aV q)⟩
noncomputable def gwB (s:Rat):Bool:=decide (1<=s.num/\s.num<=12) && decide ((s.den:Int)<=12)
noncomputable def oG:DSp:=fun ds M Q=>∃ s:Rat,ds = [FQ s]/\Q (.bl (gwB s)) M
noncomputable abbrev lU:Stmt:=top 28
theorem vB:aT ["number"] ["number"] (aJ lU):=⟨rfl,rfl,rfl,by decide +kernel,rfl,by decide +kernel,by decide +kernel⟩
theorem sN (hF:cZ K mg "may_grow" lU ["number"]) (eV:iB K mg "MOST_IN_GROW" (.int 12)):Has P w K mg base 101 "may_grow" ["number"] oG:=by
 refine Has.mkZ hF vB (fun ds M Q ⟨_,z,_⟩=>by rw [z];rfl) fun f cdv A outer s H ds M Q E hr h=>?_
 obtain ⟨s,rfl,q⟩:=h
 refine ⟨_,(aE (aN (dS (sC uZ uZ aC (aH (aB 0) aC) (dA eV)) (eA (cK uZ (aH (aB 0) aC) (dA eV)))))),?_⟩
 decreasing_tactic
 unfold gwB at q
 by_cases c1:1<=s.num
 ·refine ifT (decide_eq_true c1) ?_
  by_cases c2:s.num<=12
  ·rw [decide_eq_true ⟨c1,c2⟩,Bool.true_and] at q
   exact ifT (decide_eq_true c2) (aV q)
  ·rw [decide_eq_false (fun z=>c2 z.2),Bool.false_and] at q
   exact ifF (decide_eq_false c2) (aV q)
 ·rw [decide_eq_false (fun z=>c1 z.1),Bool.false_and] at q
  exact ifF (decide_eq_false c1) (ifF rfl (aV q))
noncomputable def spB (k:Str) (rs:List Rat):Bool :=
 if k = "grow" then rs.all gwB else if k = "quarter" then rs.all (fun a=>!decide (a = 0)) else if k = "half" then rs.all (fun a=>!decide (a = 0)) else
 if k = "arc" then (match rs with | [a,b,c,d]=>!decide (a = 0/\b = 0) && decide (cS a b 0 0 = cS a b c d) | _=>false) else true
noncomputable def cP (d:D):Prop:=qD d = true/\aZ 50 d = true/\∀ k xs,d = .tup (.str k :: xs)->((∃ n,oV.lookup k = some n) ∨ k ∈ qE)/\xs.length<=12/\∀ x ∈ xs,qD x = true/\∀ a b,x = .tup [.int a,.int b]->Bd 110 a/\Bd 110 b
noncomputable def cX (d:D) (b:Bool):Prop:=(gS d = false/\b = false) ∨ ∃ k xs,d = .tup (.str k :: xs) /\
 ((k ∈ qE/\b = false) ∨ ∃ n,oV.lookup k = some n/\((n ≠ (xs.length:Int)/\b = false) ∨ (n = (xs.length:Int)/\xs.all eF = false/\b = false) ∨ ∃ rs:List Rat,n = (rs.length:Int)/\xs = rs.map FQ/\b = spB k rs))
theorem zW {d:D} (h:cP d):∃ b,cX d b:=by
 cases hw:gS d with
 | false=>exact ⟨false,.inl ⟨hw,rfl⟩⟩
 | true =>
  unfold gS at hw
  split at hw
  ·rename_i k xs
   obtain ⟨hk,_⟩:=h.2.2 k xs rfl
   rcases hk with ⟨n,hn⟩ | hk
   ·by_cases c:n = (xs.length:Int)
    ·cases ha:xs.all eF with
     | false=>exact ⟨false,.inr ⟨k,xs,rfl,.inr ⟨n,hn,.inr (.inl ⟨c,ha,rfl⟩)⟩⟩⟩
     | true =>
      obtain ⟨rs,rfl⟩:=aAo ha
      exact ⟨spB k rs,.inr ⟨k,_,rfl,.inr ⟨n,hn,.inr (.inr ⟨rs,by rw [c,List.length_map],rfl,rfl⟩)⟩⟩⟩
    ·exact ⟨false,.inr ⟨k,xs,rfl,.inr ⟨n,hn,.inl ⟨c,rfl⟩⟩⟩⟩
   ·exact ⟨false,.inr ⟨k,xs,rfl,.inl ⟨hk,rfl⟩⟩⟩
  ·cases hw
theorem pB {rs:List Rat} {n:Int} (h:n = (rs.length:Int)) (e:n = 1):∃ r,rs = [r]:=by
 match rs,h with
 | [r],_=>exact ⟨r,rfl⟩
 | [],h=>rw [e] at h;cases h
 | _ :: _ :: _,h=>rw [e] at h;simp only [List.length_cons] at h;omega
theorem uD {rs:List Rat} {n:Int} (h:n = (rs.length:Int)) (e:n = 4):∃ a b c d,rs = [a,b,c,d]:=by
 match rs,h with
 | [a,b,c,d],_=>exact ⟨a,b,c,d,rfl⟩
 | [],h=>rw [e] at h;cases h
 | [_],h=>rw [e] at h;cases h
 | [_,_],h=>rw [e] at h;cases h
 | [_,_,_],h=>rw [e] at h;cases h
 | _ :: _ :: _ :: _ :: _ :: _,h=>rw [e] at h;simp only [List.length_cons] at h;omega
theorem kW {k:Str} {n:Int} (h:oV.lookup k = some n):(((k = "go" ∨ k = "skip")/\n = 1) ∨ (k = "side"/\n = 2) ∨ ((k = "dot" ∨ k = "left" ∨ k = "right" ∨ k = "round" ∨ k = "mirror")/\n = 0)) ∨ (k = "grow"/\n = 1) ∨ ((k = "quarter" ∨ k = "half")/\n = 1) ∨ (k = "arc"/\n = 4):=by
 unfold oV at h
 by_cases c1:k = "go"
 ·subst c1;cases h;exact .inl (.inl ⟨.inl rfl,rfl⟩)
 by_cases c2:k = "skip"
 ·subst c2;cases h;exact .inl (.inl ⟨.inr rfl,rfl⟩)
 by_cases c3:k = "side"
 ·subst c3;cases h;exact .inl (.inr (.inl ⟨rfl,rfl⟩))
 by_cases c4:k = "dot"
 ·subst c4;cases h;exact .inl (.inr (.inr ⟨.inl rfl,rfl⟩))
 by_cases c5:k = "left"
 ·subst c5;cases h;exact .inl (.inr (.inr ⟨.inr (.inl rfl),rfl⟩))
 by_cases c6:k = "right"
 ·subst c6;cases h;exact .inl (.inr (.inr ⟨.inr (.inr (.inl rfl)),rfl⟩))
 by_cases c7:k = "round"
 ·subst c7;cases h;exact .inl (.inr (.inr ⟨.inr (.inr (.inr (.inl rfl))),rfl⟩))
 by_cases c8:k = "mirror"
 ·subst c8;cases h;exact .inl (.inr (.inr ⟨.inr (.inr (.inr (.inr rfl))),rfl⟩))
 by_cases c9:k = "grow"
 ·subst c9;cases h;exact .inr (.inl ⟨rfl,rfl⟩)
 by_cases c10:k = "quarter"
 ·subst c10;cases h;exact .inr (.inr (.inl ⟨.inl rfl,rfl⟩))
 by_cases c11:k = "half"
 ·subst c11;cases h;exact .inr (.inr (.inl ⟨.inr rfl,rfl⟩))
 by_cases c12:k = "arc"
 ·subst c12;cases h;exact .inr (.inr (.inr ⟨rfl,rfl⟩))
 simp only [List.lookup,beq_eq_false_iff_ne.mpr c1,beq_eq_false_iff_ne.mpr c2,beq_eq_false_iff_ne.mpr c3,beq_eq_false_iff_ne.mpr c4,beq_eq_false_iff_ne.mpr c5,beq_eq_false_iff_ne.mpr c6,beq_eq_false_iff_ne.mpr c7,beq_eq_false_iff_ne.mpr c8,beq_eq_false_iff_ne.mpr c9,beq_eq_false_iff_ne.mpr c10,beq_eq_false_iff_ne.mpr c11,beq_eq_false_iff_ne.mpr c12] at h
 cases h
theorem aG5 {x:Rat}:decide (x.num = 0) = decide (x = 0):=by
 by_cases c:x = 0
 ·rw [decide_eq_true c,c];rfl
 ·rw [decide_eq_false c]
  exact decide_eq_false fun z=>c (Rat.num_eq_zero.mp z)
noncomputable def bnB (a b c d:Rat):Bool:=!decide (a = 0/\b = 0) && decide (cS a b 0 0 = cS a b c d)
noncomputable def qT:DSp:=fun ds M Q=>∃ a b c d:Rat,ds = [.tup [.str "arc",FQ a,FQ b,FQ c,FQ d]]/\BQ 110 a/\BQ 110 b/\BQ 110 c/\BQ 110 d/\Q (.bl (bnB a b c d)) M
noncomputable abbrev nJ:Stmt:=top 31
theorem qI:aT ["row","c"] ["row"] (aJ nJ):=⟨rfl,rfl,rfl,by decide +kernel,rfl,by decide +kernel,by decide +kernel⟩
theorem uV (hF:cZ K mg "is_bend" nJ ["row"]) (mH:iB K mg "MIDDLE" aEk) (mY:Has P w K mg base 103 "farther" ["c","p","q"] qR):Has P w K mg base 104 "is_bend" ["row"] qT:=by
 refine Has.mkZ hF qI (fun ds M Q ⟨_,_,_,_,z,_⟩=>by rw [z];rfl) fun f cdv A outer s H ds M Q E hr h=>?_
 obtain ⟨a,b,c,d,rfl,b1,b2,b3,b4,q⟩:=h
 refine ⟨_,(aF (aY (i:=1) qI.nd (aK (aA (aH (aB 0) aC) (aA (aH (aB 0) aC) aD))))
  (aE (aN (dS (cK (jP hr) (aB 1) (dA mH)) (eA (cK (cE hr) (aG mY hr (by decide) (aA (aB 1) (aA (dA mH) (aA (aK (aA (aH (aB 0) aC) (aA (aH (aB 0) aC) aD))) aD)))) aC)))))),?_⟩
 decreasing_tactic
 refine ⟨by decide,?_⟩
 unfold bnB at q
 rw [show (D.tup [FQ a,FQ b]) = PQ a b from rfl,show aEk = PQ 0 0 from rfl,vT]
 by_cases n0:a = 0/\b = 0
 ·rw [decide_eq_true n0] at q ⊢
  exact ifF rfl (aV q)
 rw [decide_eq_false n0] at q ⊢
 refine ifT rfl ⟨by decide,a,b,0,0,c,d,110,rfl,b1,b2,bqz.mono (by decide),bqz.mono (by decide),b3,b4,by decide,?_⟩
 decreasing_tactic
 rw [bE,show decide (zG a b 0 0 c d = 0) = decide (cS a b 0 0 = cS a b c d) from decide_eq_decide.mpr yO]
 exact aV q
noncomputable def fV:DSp:=fun ds M Q=>∃ d b,ds = [d]/\cP d/\cX d b/\Q (.bl b) M
noncomputable abbrev eU:Stmt:=top 29
theorem oS:aT ["thing"] ["thing"] (aJ eU):=⟨rfl,rfl,rfl,by decide +kernel,rfl,by decide +kernel,by decide +kernel⟩
theorem mX (hF:cZ K mg "is_plain_row" eU ["thing"]) (dE:mg "len" = none) (sB:mg "all" = none) (eP:Has P w K mg base 101 "is_worded" ["thing"] iV) (fF:Has P w K mg base 101 "numbers_behind" ["word"] gR) (iA:Has P w K mg base 103 "is_fraction" ["thing"] kG) (lQ:Has P w K mg base 101 "may_grow" ["number"] oG) (nU:Has P w K mg base 104 "is_bend" ["row"] qT):Has P w K mg base 105 "is_plain_row" ["thing"] fV:=by
 refine Has.mkZ hF oS (fun ds M Q ⟨_,_,z,_⟩=>by rw [z];rfl) fun f cdv A outer s H ds M Q E hr h=>?_
 obtain ⟨d,b,rfl,ok,pl,q⟩:=h
 refine ⟨_,(eX (bA (fM (eZ (dR (cD (aG eP hr (by decide) (aA (aB 0) aD)))) (fK (aS (jP hr) (aG fF hr (by decide) (aA (aH (aB 0) aC) aD)) (aI gK (bO hJ dE (aA (aB 0) aD)) aC))))) (aE (aN eD)) aR)
  (eX (bA (dR (cD (bO (aAp rfl) sB (aA (xE (⟨rfl,by decide +kernel,by decide +kernel,by decide +kernel,rfl,by decide +kernel⟩:yM ["thing"] (aJ eU) ["number"] [none] _) rfl (cJ (aB 0) (bX aC) dI) (fun _ _ _ _ _=>(bR (i:=0) (show List.Nodup (["number"]:List Str) by decide +kernel))) (fun _ _ _ _ _=>(aG iA hr (by decide) (aA (aB 0) aD)))) aD)))) (aE (aN eD)) aR)
  (aF (bA (aS (cE hr) (aH (aB 0) aC) aM) (aE (aN (aG lQ hr (by decide) (aA (aH (aB 0) aC) aD)))) aR)
  (aF (bA (fM (eZ (aS (cE hr) (aH (aB 0) aC) aM) (fK (aS (cE hr) (aH (aB 0) aC) aM)))) (aE (aN (cK (jP hr) (aH (aH (aB 0) aC) aC) aC))) aR)
  (aE (aN (zM (cK (jP hr) (aH (aB 0) aC) aM) (eA (aG nU hr (by decide) (aA (aB 0) aD)))))))))),?_⟩
 rcases pl with ⟨hw,rfl⟩ | ⟨k,xs,rfl,pl⟩
 ·decreasing_tactic
  refine ⟨fun _ _=>False,⟨d,rfl,ok.1,?_⟩,fun _ _ z=>z.elim⟩
  rw [hw]
  exact ifT rfl (aV q)
 obtain ⟨hk,hl,hx⟩:=ok.2.2 k xs rfl
 rcases pl with ⟨hn,rfl⟩ | ⟨n,hn,pl⟩
 ·decreasing_tactic
  refine ⟨fun _ _=>False,⟨_,rfl,ok.1,ifF rfl ?_⟩,fun _ _ z=>z.elim⟩
  rw [nV]
  decreasing_tactic
  refine ⟨k,rfl,.inr ⟨hn,?_⟩⟩
  decreasing_tactic
  exact ⟨rfl,rfl,ifT rfl (aV q)⟩
 rcases pl with ⟨ne,rfl⟩ | pl
 ·decreasing_tactic
  refine ⟨fun _ _=>False,⟨_,rfl,ok.1,ifF rfl ?_⟩,fun _ _ z=>z.elim⟩
  rw [nV]
  decreasing_tactic
  refine ⟨k,rfl,.inl ⟨n,hn,?_⟩⟩
  decreasing_tactic
  rw [fL]
  decreasing_tactic
  rw [bE]
  exact ifT (by rw [decide_eq_false (by omega)];rfl) (aV q)
 have en:n = (xs.length:Int):=by
  rcases pl with ⟨e,_⟩ | ⟨rs,e,rfl,_⟩
  ·exact e
  ·rw [List.length_map];exact e
 decreasing_tactic
 refine ⟨fun ρ M'=>M' = M/\ρ = [some (.tup (.str k :: xs))],⟨_,rfl,ok.1,ifF rfl ?_⟩,?_⟩
 ·rw [nV]
  decreasing_tactic
  refine ⟨k,rfl,.inl ⟨n,hn,?_⟩⟩
  decreasing_tactic
  rw [fL]
  decreasing_tactic
  rw [bE]
  exact ifF (by rw [decide_eq_true (by omega)];rfl) ⟨rfl,rfl⟩
 rintro ρ M' ⟨rfl,rfl⟩
 decreasing_tactic
 refine ⟨fun ρ M2=>bK M' M2/\xs.all eF = true/\ρ = [some (.tup (.str k :: xs))],?_,?_⟩
 ·rw [pQ]
  refine ⟨by omega,fun i ys M2=>M2 = M'/\ys = (xs.take i).map (fun x=>D.bl (eF x)),⟨rfl,rfl⟩,fun i ys M2 _ _ a e=>(by cases e),?_,?_⟩
  ·rintro i d ys M2 hd ⟨rfl,rfl⟩
   decreasing_tactic
   exact ⟨d,rfl,(hx d (List.mem_of_getElem? hd)).1,rfl,by rw [xB hd,List.map_append];rfl⟩
  rintro ys M2 _ ⟨rfl,rfl⟩ pa hpa
  decreasing_tactic
  rw [List.take_length]
  refine ⟨xs.map eF,by rw [aL,List.map_map];rfl,?_⟩
  have ea:(xs.map eF).all id = xs.all eF:=by rw [List.all_map];rfl
  rw [ea]
  cases ha:xs.all eF with
  | true=>exact ifF rfl ⟨bK.new hpa _,rfl,rfl⟩
  | false =>
   refine ifT rfl ⟨M2,bK.new hpa _,?_⟩
   rcases pl with ⟨_,_,e⟩ | ⟨rs,_,e,_⟩
   ·rw [<- e];exact q
   ·rw [e,List.all_map,List.all_eq_false] at ha
    obtain ⟨x,_,hx⟩:=ha
    exact absurd (xD x) hx
 rintro ρ M2 ⟨sb,ha,rfl⟩
 rcases pl with ⟨_,e,_⟩ | ⟨rs,el,rfl,rfl⟩
 ·rw [e] at ha;cases ha
 have bq:∀ r ∈ rs,BQ 110 r:=fun r hr=>(hx (FQ r) (List.mem_map_of_mem hr)).2 _ _ rfl
 unfold spB at q
 decreasing_tactic
 rw [nV]
 decreasing_tactic
 rw [bD]
 rcases kW hn with (⟨hk,en⟩ | ⟨hk,en⟩ | ⟨hk,en⟩) | ⟨hk,en⟩ | ⟨hk,en⟩ | ⟨hk,en⟩
 ·have n1:k ≠ "grow"/\k ≠ "quarter"/\k ≠ "half"/\k ≠ "arc":=by rcases hk with rfl | rfl<;>decide
  rw [if_neg n1.1,if_neg n1.2.1,if_neg n1.2.2.1,if_neg n1.2.2.2] at q
  refine ifF (decide_eq_false n1.1) ?_
  rw [bD]
  refine ifF (decide_eq_false n1.2.1) ?_
  rw [bD]
  refine ifF (decide_eq_false n1.2.2.1) ?_
  rw [bD]
  exact ifT (by rw [decide_eq_false n1.2.2.2];rfl) ⟨M',sb,q⟩
 ·have n1:k ≠ "grow"/\k ≠ "quarter"/\k ≠ "half"/\k ≠ "arc":=by rw [hk];decide
  rw [if_neg n1.1,if_neg n1.2.1,if_neg n1.2.2.1,if_neg n1.2.2.2] at q
  refine ifF (decide_eq_false n1.1) ?_
  rw [bD]
  refine ifF (decide_eq_false n1.2.1) ?_
  rw [bD]
  refine ifF (decide_eq_false n1.2.2.1) ?_
  rw [bD]
  exact ifT (by rw [decide_eq_false n1.2.2.2];rfl) ⟨M',sb,q⟩
 ·have n1:k ≠ "grow"/\k ≠ "quarter"/\k ≠ "half"/\k ≠ "arc":=by rcases hk with rfl | rfl | rfl | rfl | rfl<;>decide
  rw [if_neg n1.1,if_neg n1.2.1,if_neg n1.2.2.1,if_neg n1.2.2.2] at q
  refine ifF (decide_eq_false n1.1) ?_
  rw [bD]
  refine ifF (decide_eq_false n1.2.1) ?_
  rw [bD]
  refine ifF (decide_eq_false n1.2.2.1) ?_
  rw [bD]
  exact ifT (by rw [decide_eq_false n1.2.2.2];rfl) ⟨M',sb,q⟩
 ·subst hk
  rw [if_pos rfl] at q
  obtain ⟨r,rfl⟩:=pB el en
  decreasing_tactic
  refine ifT (by decide) ⟨r,rfl,?_⟩
  rw [List.all_cons,List.all_nil,Bool.and_true] at q
  exact ⟨M',sb,q⟩
 ·obtain ⟨r,rfl⟩:=pB el en
  decreasing_tactic
  rcases hk with rfl | rfl
  ·rw [if_neg (by decide),if_pos rfl,List.all_cons,List.all_nil,Bool.and_true] at q
   refine ifF (by decide) ?_
   rw [bD]
   refine ifT (by decide) (ifT rfl ?_)
   rw [bE,aG5]
   exact ⟨M',sb,q⟩
  ·rw [if_neg (by decide),if_neg (by decide),if_pos rfl,List.all_cons,List.all_nil,Bool.and_true] at q
   refine ifF (by decide) ?_
   rw [bD]
   refine ifF (by decide) ?_
   rw [bD]
   refine ifT (by decide) ?_
   rw [bE,aG5]
   exact ⟨M',sb,q⟩
 ·subst hk
  rw [if_neg (by decide),if_neg (by decide),if_neg (by decide),if_pos rfl] at q
  obtain ⟨a,b,c,d,rfl⟩:=uD el en
  decreasing_tactic
  refine ifF (by decide) ?_
  rw [bD]
  refine ifF (by decide) ?_
  rw [bD]
  refine ifF (by decide) ?_
  rw [bD]
  exact ifF (by decide) ⟨a,b,c,d,rfl,bq a (by simp),bq b (by simp),bq c (by simp),bq d (by simp),M',sb,q⟩
theorem aFN {g:Bool->Bool} {M:DM} {Q:DQ} {a b a' b':Int}:dEq g (.tup [.int a,.int b]) (.tup [.int a',.int b']) M Q = Q (.bl (g (decide (a = a'/\b = b')))) M:=by
 show (aZ 60 (.tup [.int a,.int b]) = true/\aZ 60 (.tup [.int a',.int b']) = true/\Q (.bl (g (eqD (.tup [.int a,.int b]) (.tup [.int a',.int b'])))) M) = _
 have e:eqD (.tup [.int a,.int b]) (.tup [.int a',.int b']) = decide (a = a'/\b = b'):=by
  by_cases h1:a = a'<;>by_cases h2:b = b'<;>simp [eqD,iM,h1,h2]
 rw [e]
 exact propext ⟨fun h=>h.2.2,fun h=>⟨rfl,rfl,h⟩⟩
theorem yL {a b:Int} (h:0 < b):decide (((a:Rat) / (b:Rat)).num = a/\((((a:Rat) / (b:Rat)).den:Nat):Int) = b) = decide (Int.gcd a b = 1):=by
 by_cases c:Int.gcd a b = 1
 ·rw [decide_eq_true c]
  obtain ⟨x,e⟩:=sK (d:=.tup [.int a,.int b]) (by show (decide (1<=b) && decide (Int.gcd a b = 1)) = true;rw [decide_eq_true (show 1<=b by omega),decide_eq_true c];rfl)
  have e0:D.tup [.int a,.int b] = D.tup [.int x.num,.int (x.den:Int)]:=e
  injection e0 with e0
  injection e0 with e1 e2
  injection e2 with e2 _
  injection e1 with e1
  injection e2 with e2
  have ex:(a:Rat) / (b:Rat) = x:=by
   rw [e1,e2];exact xS x
  rw [ex]
  exact decide_eq_true ⟨e1.symm,e2.symm⟩
 ·rw [decide_eq_false c]
  refine decide_eq_false fun ⟨z1,z2⟩=>c ?_
  have:Int.gcd ((a:Rat) / (b:Rat)).num ((((a:Rat) / (b:Rat)).den:Nat):Int) = 1:=((a:Rat) / (b:Rat)).reduced
  rw [z1,z2] at this
  exact this
noncomputable def iF:DSp:=fun ds M Q=>∃ d,ds = [d]/\qD d = true/\(∀ a b,d = .tup [.int a,.int b]->Bd 110 a/\Bd 110 b)/\Q (.bl (eF d)) M
noncomputable abbrev fX:Stmt:=top 79
theorem iE:aT ["_law_thing","_law_part"] ["_law_thing"] (aJ fX):=⟨rfl,rfl,rfl,by decide +kernel,rfl,by decide +kernel,by decide +kernel⟩
theorem mJ (hF:cZ K mg "_law_is_number" fX ["_law_thing"]) (aQ:mg "isinstance" = none) (dH:mg "tuple" = none) (iO:mg "int" = none) (iQ:mg "bool" = none) (dE:mg "len" = none) (bC:Has P w K mg base 101 "_law_ratio" ["_law_top","_law_bottom"] dG):Has P w K mg base 102 "_law_is_number" ["_law_thing"] iF:=by
 refine Has.mkZ hF iE (fun ds M Q ⟨_,z,_⟩=>by rw [z];rfl) fun f cdv A outer s H ds M Q E hr h=>?_
 obtain ⟨d,rfl,ok,bd,q⟩:=h
 refine ⟨_,(aF (bA (fM (eZ (dR (cD (dU (aB 0) aQ dH))) (fK (aS (jP hr) (bO hJ dE (aA (aB 0) aD)) aC)))) (aE (aN eD)) aR)
  (aF (mM PassesOwn.never rfl (aB 0) (bR (i:=1) iE.nd) (aE (bA (fM (eZ (dR (cD (dU (aB 1) aQ iO))) (fK (cD (dU (aB 1) aQ iQ))))) (aE (aN eD)) aR)))
  (aE (aN (dS (cK rR (aH (aB 0) aC) aC) (eA (cK (cE hr) (aG bC hr (by decide) (aA (aH (aB 0) aC) (aA (aH (aB 0) aC) aD))) (aB 0)))))))),?_⟩
 cases d with
 | tup xs =>
  decreasing_tactic
  refine .inl ⟨_,_,rfl,rfl,ifF rfl ?_⟩
  rcases xs with _ | ⟨a,_ | ⟨b,_ | ⟨c,r⟩⟩⟩
  ·rw [fL]
   decreasing_tactic
   rw [bE]
   exact ifT (by decide) (aV q)
  ·rw [fL]
   decreasing_tactic
   rw [bE]
   exact ifT (by decide) (aV (by cases a<;>exact q))
  ·rw [fL]
   decreasing_tactic
   rw [bE]
   refine ifF (by decide) ?_
   refine aGt ?_
   have oka:jO a = true:=(Bool.and_eq_true_iff.mp ok).1
   have okb:jO b = true:=(Bool.and_eq_true_iff.mp (Bool.and_eq_true_iff.mp ok).2).1
   decreasing_tactic
   cases a with
   | ref _=>cases oka
   | fz _=>cases oka
   | bl i=>exact .inl ⟨_,_,rfl,rfl,ifF rfl (.inl ⟨_,_,rfl,rfl,ifT rfl (aV q)⟩)⟩
   | int i =>
    refine .inl ⟨_,_,rfl,rfl,ifF rfl (.inl ⟨_,_,rfl,rfl,ifF rfl ?_⟩)⟩
    cases b with
    | ref _=>cases okb
    | fz _=>cases okb
    | bl j=>exact .inl ⟨_,_,rfl,rfl,ifF rfl (.inl ⟨_,_,rfl,rfl,ifT rfl (aV q)⟩)⟩
    | int j =>
     refine .inl ⟨_,_,rfl,rfl,ifF rfl (.inl ⟨_,_,rfl,rfl,ifF rfl ?_⟩)⟩
     have q:Q (.bl (decide (1<=j) && decide (Int.gcd i j = 1))) M:=q
     by_cases c:0 < j
     ·rw [decide_eq_true (show 1<=j by omega),Bool.true_and] at q
      refine ifT (decide_eq_true c) ⟨i,j,rfl,c,(bd i j rfl).2.mono (by decide),?_⟩
      decreasing_tactic
      rw [show FQ ((i:Rat) / (j:Rat)) = D.tup [.int ((i:Rat) / (j:Rat)).num,.int ((((i:Rat) / (j:Rat)).den:Nat):Int)] from rfl,aFN,yL c]
      exact aV q
     ·rw [decide_eq_false (show ¬ 1<=j by omega),Bool.false_and] at q
      exact ifF (decide_eq_false c) (aV q)
    | _=>exact .inl ⟨_,_,rfl,rfl,ifT rfl (aV q)⟩
   | _=>exact .inl ⟨_,_,rfl,rfl,ifT rfl (aV q)⟩
  ·rw [fL]
   decreasing_tactic
   rw [bE]
   exact ifT (by rw [decide_eq_false (by show ¬ ((((r.length + 1 + 1 + 1:Nat)):Int) = 2);omega)];rfl) (aV (by cases a<;>cases b<;>exact q))
 | ref _=>cases ok
 | fz _=>cases ok
 | _=>decreasing_tactic;exact .inl ⟨_,_,rfl,rfl,ifT rfl (aV q)⟩
noncomputable def pU:DSp:=fun ds M Q=>∃ x y u v:Rat,ds = [PQ x y,PQ u v]/\BQ 110 x/\BQ 110 y/\BQ 110 u/\BQ 110 v/\Q (FQ (cS x y u v)) M
noncomputable abbrev nW:Stmt:=top 80
theorem lV:aT ["_law_p","_law_q","_law_x","_law_y"] ["_law_p","_law_q"] (aJ nW):=⟨rfl,rfl,rfl,by decide +kernel,rfl,by decide +kernel,by decide +kernel⟩
theorem uI (hF:cZ K mg "_law_far" nW ["_law_p","_law_q"]) (cA:Has P w K mg base 102 "_law_plus" ["_law_one","_law_other"] fO) (bW:Has P w K mg base 102 "_law_times" ["_law_one","_law_other"] gC):Has P w K mg base 103 "_law_far" ["_law_p","_law_q"] pU:=by
 refine Has.mkZ hF lV (fun ds M Q ⟨_,_,_,_,z,_⟩=>by rw [z];rfl) fun f cdv A outer s H ds M Q E hr h=>?_
 obtain ⟨x,y,u,v,rfl,h1,h2,h3,h4,q⟩:=h
 refine ⟨_,(aF (aY (i:=2) lV.nd (aG cA hr (by decide) (aA (aH (aB 0) aC) (aA (aK (aA (aI gK aC (aH (aH (aB 1) aC) aC)) (aA (aH (aH (aB 1) aC) aC) aD))) aD))))
  (aF (aY (i:=3) lV.nd (aG cA hr (by decide) (aA (aH (aB 0) aC) (aA (aK (aA (aI gK aC (aH (aH (aB 1) aC) aC)) (aA (aH (aH (aB 1) aC) aC) aD))) aD))))
  (aE (aN (aG cA hr (by decide) (aA (aG bW hr (by decide) (aA (aB 2) (aA (aB 2) aD))) (aA (aG bW hr (by decide) (aA (aB 3) (aA (aB 3) aD))) aD))))))),?_⟩
 decreasing_tactic
 have en:∀ r:Rat,D.tup [.int (0 - r.num),.int (r.den:Int)] = FQ (-r):=fun r=>by
  show _ = D.tup [.int (-r).num,.int ((-r).den:Int)]
  rw [Rat.neg_num,Rat.neg_den,Int.zero_sub]
 have bn:∀ {r:Rat},BQ 110 r->BQ 110 (-r):=fun {r} h=>by
  unfold BQ at *
  rw [Rat.neg_num,Rat.neg_den];exact ⟨h.1.neg,h.2⟩
 refine ⟨by decide,?_⟩
 rw [en]
 have b1:=BQ.add h1 (bn h3)
 have b2:=BQ.add h2 (bn h4)
 refine oI h1 (bn h3) (by decide) ⟨by decide,?_⟩
 rw [en]
 refine oI h2 (bn h4) (by decide) ?_
 decreasing_tactic
 refine jH b1 b1 (by decide) (jH b2 b2 (by decide) (oI (b1.mul b1) (b2.mul b2) (by decide) ?_))
 unfold cS at q
 rw [show (x + -u) * (x + -u) + (y + -v) * (y + -v) = (u - x) * (u - x) + (v - y) * (v - y) by grind]
 exact aV q
noncomputable def jN:List (Str × D):=[("go",.int 1),("skip",.int 1),("side",.int 2),("grow",.int 1),("quarter",.int 1),("half",.int 1),("arc",.int 4)]
noncomputable def lG:DSp:=fun ds M Q=>∃ d b,ds = [d]/\cP d/\cX d b/\∀ M',bK M M'->Q (.bl b) M'
noncomputable abbrev gE:Stmt:=top 81
theorem hU:aT ["_law_row_here","_law_many","_law_begin"] ["_law_row_here"] (aJ gE):=⟨rfl,rfl,rfl,by decide +kernel,rfl,by decide +kernel,by decide +kernel⟩
theorem pN (hF:cZ K mg "_law_is_row" gE ["_law_row_here"]) (aQ:mg "isinstance" = none) (dH:mg "tuple" = none) (sF:mg "str" = none) (dE:mg "len" = none) (sB:mg "all" = none) (jE:mg "range" = none) (fR:Has P w K mg base 102 "_law_is_number" ["_law_thing"] iF) (kO:Has P w K mg base 103 "_law_far" ["_law_p","_law_q"] pU):Has P w K mg base 104 "_law_is_row" ["_law_row_here"] lG:=by
 refine Has.mkZ hF hU (fun ds M Q ⟨_,_,z,_⟩=>by rw [z];rfl) fun f cdv A outer s H ds M Q E hr h=>?_
 obtain ⟨d,b,rfl,ok,pl,q⟩:=h
 refine ⟨_,(eX (bA (fM (eZ (dR (cD (dU (aB 0) aQ dH))) (eZ (aS (cE hr) (bO hJ dE (aA (aB 0) aD)) aC) (fK (dR (cD (dU (aH (aB 0) aC) aQ sF))))))) (aE (aN eD)) aR)
  (aF (aY (i:=1) hU.nd (vO aM aC aM aC aM aC aM aC aM aC aM aC aM aC))
  (eX (bA (fM (iW (aS yE (aH (aB 0) aC) (aB 1) rfl) (gI (aS aBH (aH (aB 0) aC) (cB (aA aM (aA aM (aA aM (aA aM (aA aM aD)))))) rfl)))) (aE (aN eD)) aR)
  (eX (bA (fM (eZ (aS (jP hr) (bO hJ dE (aA (aB 0) aD)) (aI cO aC (zS (aB 1) (aH (aB 0) aC) aC))) (fK (dR (cD (bO (aAp rfl) sB (aA (xE (⟨rfl,by decide +kernel,by decide +kernel,by decide +kernel,rfl,by decide +kernel⟩:yM ["_law_row_here","_law_many","_law_begin"] (aJ gE) ["_law_number"] [none] _) rfl (cJ (aB 0) (bX aC) dI) (fun _ _ _ _ _=>(bR (i:=0) (show List.Nodup (["_law_number"]:List Str) by decide +kernel))) (fun _ _ _ _ _=>(aG fR hr (by decide) (aA (aB 0) aD)))) aD))))))) (aE (aN eD)) aR)
  (aF (bA (aS (cE hr) (aH (aB 0) aC) aM) (aE (aN (dS (pK (aH (aH (aB 0) aC) aC) jE (aA aC (aA aC aD))) (eA (pK (aH (aH (aB 0) aC) aC) jE (aA aC (aA aC aD))))))) aR)
  (aF (bA (aS aBG (aH (aB 0) aC) (cB (aA aM (aA aM aD))) rfl) (aE (aN (cK (jP hr) (aH (aB 0) aC) (aK (aA aC (aA aC aD)))))) aR)
  (aF (bA (aS (cE hr) (aH (aB 0) aC) aM) (aF (aY (i:=2) hU.nd (aK (aA (aK (aA aC (aA aC aD))) (aA (aK (aA aC (aA aC aD))) aD))))
  (aE (aN (dS (cK (jP hr) (cJ (aB 0) (bX aC) (bX aC)) (aB 2)) (eA (cK (cE hr) (aG kO hr (by decide) (aA (cJ (aB 0) (bX aC) (bX aC)) (aA (aB 2) aD))) (aG kO hr (by decide) (aA (cJ (aB 0) (bX aC) (bX aC)) (aA (cJ (aB 0) (bX aC) dI) aD))))))))) aR)
  (aE (aN eD))))))))),?_⟩
 rcases pl with ⟨hw,rfl⟩ | ⟨k,xs,rfl,pl⟩
 ·cases d with
  | tup xs =>
   decreasing_tactic
   refine ⟨fun _ _=>False,.inl ⟨_,_,rfl,rfl,ifF rfl ?_⟩,fun _ _ z=>z.elim⟩
   rw [fL]
   decreasing_tactic
   rw [bE]
   cases xs with
   | nil=>exact ifT (by decide) (aV (q _ (.refl _)))
   | cons x r =>
    refine ifF (decide_eq_false (by show ¬ (((r.length + 1:Nat):Int) = 0);omega)) ?_
    rw [nV]
    decreasing_tactic
    have okx:jO x = true:=(Bool.and_eq_true_iff.mp ok.1).1
    cases x with
    | ref _=>cases okx
    | fz _=>cases okx
    | str k=>cases hw
    | _=>exact .inl ⟨_,_,rfl,rfl,ifT rfl (aV (q _ (.refl _)))⟩
  | ref _=>cases ok.1
  | fz _=>cases ok.1
  | _=>decreasing_tactic;exact ⟨fun _ _=>False,.inl ⟨_,_,rfl,rfl,ifT rfl (aV (q _ (.refl _)))⟩,fun _ _ z=>z.elim⟩
 obtain ⟨hk,hl,hx⟩:=ok.2.2 k xs rfl
 decreasing_tactic
 refine ⟨fun ρ M'=>M' = M/\ρ = [some (.tup (.str k :: xs)),none,none],.inl ⟨_,_,rfl,rfl,ifF rfl ?_⟩,?_⟩
 ·rw [fL]
  decreasing_tactic
  rw [bE]
  refine ifF (decide_eq_false (by show ¬ (((xs.length + 1:Nat):Int) = 0);omega)) ?_
  rw [nV]
  decreasing_tactic
  exact .inl ⟨_,_,rfl,rfl,ifF rfl ⟨rfl,rfl⟩⟩
 rintro ρ M' ⟨rfl,rfl⟩
 decreasing_tactic
 intro pd hpd
 refine ⟨iI,jN,rfl,by decide,by decide,?_⟩
 rw [nV,sG]
 have sb1:bK M' (jM M' pd (lM w jN)):=bK.newK hpd _
 have hd1:jM M' pd (lM w jN) (.d pd) = some (lM w jN):=iI
 generalize jM M' pd (lM w jN) = M1 at sb1 hd1 ⊢
 decreasing_tactic
 refine ⟨fun ρ M2=>bK M1 M2/\(∃ n,oV.lookup k = some n)/\ρ = [some (.tup (.str k :: xs)),some (.ref pd),none],⟨jN,hd1,by decide,?_⟩,?_⟩
 ·rcases hk with ⟨n,hn⟩ | hk
  ·have:(jN.any fun kv=>decide (kv.1 = k)) = true ∨ ((jN.any fun kv=>decide (kv.1 = k)) = false/\(([("dot":Str),"left","right","round","mirror"].any fun x=>x == k) = true)):=by
    rcases kW hn with (⟨hk | hk,_⟩ | ⟨hk,_⟩ | ⟨hk | hk | hk | hk | hk,_⟩) | ⟨hk,_⟩ | ⟨hk | hk,_⟩ | ⟨hk,_⟩<;>subst hk<;>first | exact .inl (by decide) | exact .inr (by decide)
   rcases this with z | ⟨z,y⟩
   ·rw [z]
    exact ifF rfl ⟨.refl _,⟨n,hn⟩,rfl⟩
   ·rw [z]
    refine ifT rfl ⟨by decide,fun p hp=>⟨[("dot":Str),"left","right","round","mirror"],aL,?_⟩⟩
    rw [y]
    exact ifF rfl ⟨bK.new hp _,⟨n,hn⟩,rfl⟩
  ·have:(jN.any fun kv=>decide (kv.1 = k)) = false/\(([("dot":Str),"left","right","round","mirror"].any fun x=>x == k) = false):=by
    unfold qE at hk
    simp only [List.mem_cons,List.not_mem_nil,or_false] at hk
    rcases hk with hk | hk | hk | hk | hk | hk<;>subst hk<;>exact by decide
   rw [this.1]
   refine ifT rfl ⟨by decide,fun p hp=>⟨[("dot":Str),"left","right","round","mirror"],aL,?_⟩⟩
   rw [this.2]
   refine ifT rfl (aV ?_)
   rcases pl with ⟨_,rfl⟩ | ⟨n,hn,_⟩
   ·exact q _ (sb1.trans (bK.new hp _))
   ·exfalso
    unfold qE at hk
    simp only [List.mem_cons,List.not_mem_nil,or_false] at hk
    rcases hk with hk | hk | hk | hk | hk | hk<;>subst hk<;>cases hn
 rintro ρ M2 ⟨sb2,⟨n,hn⟩,rfl⟩
 have pl':(n ≠ (xs.length:Int)/\b = false) ∨ (n = (xs.length:Int)/\xs.all eF = false/\b = false) ∨ ∃ rs:List Rat,n = (rs.length:Int)/\xs = rs.map FQ/\b = spB k rs:=by
  rcases pl with ⟨hk,_⟩ | ⟨n',hn',pl⟩
  ·exfalso
   unfold qE at hk
   simp only [List.mem_cons,List.not_mem_nil,or_false] at hk
   rcases hk with hk | hk | hk | hk | hk | hk<;>subst hk<;>cases hn
  ·have:n' = n:=by rw [hn] at hn';exact (Option.some.inj hn').symm
   rw [this] at pl;exact pl
 clear pl hk
 have hd2:=sb2 _ _ hd1
 have sb:=sb1.trans sb2
 clear sb1 sb2 hd1
 have gt:(((jN.find? fun p=>decide (p.1 = k)).map (·.2)).getD (.int 0)) = .int n:=by
  rcases kW hn with (⟨hk | hk,e⟩ | ⟨hk,e⟩ | ⟨hk | hk | hk | hk | hk,e⟩) | ⟨hk,e⟩ | ⟨hk | hk,e⟩ | ⟨hk,e⟩<;>subst hk<;>subst e<;>rfl
 decreasing_tactic
 refine ⟨fun ρ M3=>bK M2 M3/\xs.all eF = true/\n = (xs.length:Int)/\ρ = [some (.tup (.str k :: xs)),some (.ref pd),none],?_,?_⟩
 ·rw [fL]
  decreasing_tactic
  rw [nV]
  decreasing_tactic
  refine ⟨⟨jN,hd2,by decide⟩,jN,hd2,by decide,?_⟩
  rw [gt]
  decreasing_tactic
  rw [bE]
  rcases pl' with ⟨ne,rfl⟩ | pl'
  ·exact ifT (by rw [decide_eq_false (by omega)];rfl) (ifT rfl (aV (q _ sb)))
  have en:n = (xs.length:Int):=by
   rcases pl' with ⟨e,_⟩ | ⟨rs,e,rfl,_⟩
   ·exact e
   ·rw [List.length_map];exact e
  refine ifF (by rw [decide_eq_true (by omega)];rfl) ?_
  rw [pQ]
  refine ⟨by omega,fun i ys M3=>M3 = M2/\ys = (xs.take i).map (fun x=>D.bl (eF x)),⟨rfl,rfl⟩,fun i ys M2 _ _ a e=>(by cases e),?_,?_⟩
  ·rintro i d ys M3 hd ⟨rfl,rfl⟩
   decreasing_tactic
   have hxd:=hx d (List.mem_of_getElem? hd)
   exact ⟨d,rfl,hxd.1,hxd.2,rfl,by rw [xB hd,List.map_append];rfl⟩
  rintro ys M3 _ ⟨rfl,rfl⟩ pa hpa
  decreasing_tactic
  rw [List.take_length]
  refine ⟨xs.map eF,by rw [aL,List.map_map];rfl,?_⟩
  have ea:(xs.map eF).all id = xs.all eF:=by rw [List.all_map];rfl
  rw [ea]
  cases ha:xs.all eF with
  | true=>exact ifF rfl ⟨bK.new hpa _,rfl,en,rfl⟩
  | false =>
   refine ifT rfl (aV ?_)
   rcases pl' with ⟨_,_,e⟩ | ⟨rs,_,e,_⟩
   ·rw [e] at q;exact q _ (sb.trans (bK.new hpa _))
   ·rw [e,List.all_map,List.all_eq_false] at ha
    obtain ⟨x,_,hx⟩:=ha
    exact absurd (xD x) hx
 rintro ρ M3 ⟨sb3,ha,en,rfl⟩
 rcases pl' with ⟨ne,_⟩ | ⟨_,e,_⟩ | ⟨rs,el,rfl,rfl⟩
 ·exact absurd en ne
 ·rw [e] at ha;cases ha
 have bq:∀ r ∈ rs,BQ 110 r:=fun r hr=>(hx (FQ r) (List.mem_map_of_mem hr)).2 _ _ rfl
 replace q:∀ M',bK M3 M'->Q (.bl (spB k rs)) M':=fun M' z=>q _ ((sb.trans sb3).trans z)
 clear sb sb3 hd2 ha gt hpd ok hl hx M1 M2
 decreasing_tactic
 rw [nV]
 decreasing_tactic
 rw [bD]
 have qh:∀ {x:Str},(x = "quarter" ∨ x = "half")->([("quarter":Str),"half"].any fun y=>y == x) = true:=fun {x} h=>by rcases h with rfl | rfl<;>decide
 rcases kW hn with hk | ⟨hk,en⟩ | ⟨hk,en⟩ | ⟨hk,en⟩
 ·have n1:(k ≠ "grow"/\k ≠ "quarter")/\k ≠ "half"/\k ≠ "arc":=by rcases hk with ⟨hk | hk,_⟩ | ⟨hk,_⟩ | ⟨hk | hk | hk | hk | hk,_⟩<;>subst hk<;>decide
  have n2:([("quarter":Str),"half"].any fun y=>y == k) = false:=by rcases hk with ⟨hk | hk,_⟩ | ⟨hk,_⟩ | ⟨hk | hk | hk | hk | hk,_⟩<;>subst hk<;>decide
  unfold spB at q
  rw [if_neg n1.1.1,if_neg n1.1.2,if_neg n1.2.1,if_neg n1.2.2] at q
  refine ifF (decide_eq_false n1.1.1) ⟨by decide,fun p hp=>⟨[("quarter":Str),"half"],aL,?_⟩⟩
  rw [n2]
  refine ifF rfl ?_
  rw [bD]
  exact ifF (decide_eq_false n1.2.2) (aV (q _ (bK.new hp _)))
 ·subst hk
  unfold spB at q
  rw [if_pos rfl] at q
  obtain ⟨r,rfl⟩:=pB el en
  decreasing_tactic
  refine ifT (by decide) ?_
  rw [List.all_cons,List.all_nil,Bool.and_true] at q
  unfold gwB at q
  have dp:=r.den_pos
  have q:=q _ (.refl _)
  by_cases c1:1<=r.num/\r.num<=12
  ·rw [decide_eq_true c1,Bool.true_and] at q
   refine ifT (decide_eq_true (by omega)) ?_
   rw [show decide (1<=(r.den:Int)/\(r.den:Int) < 13) = decide ((r.den:Int)<=12) from decide_eq_decide.mpr ⟨fun z=>by omega,fun z=>by omega⟩]
   exact aV q
  ·rw [decide_eq_false c1,Bool.false_and] at q
   exact ifF (decide_eq_false (by omega)) (aV q)
 ·obtain ⟨r,rfl⟩:=pB el en
  replace q:∀ M',bK M3 M'->Q (.bl (!decide (r = 0))) M':=fun M' z=>by
   have q:=q M' z
   unfold spB at q
   rcases hk with rfl | rfl
   ·rw [if_neg (by decide),if_pos rfl,List.all_cons,List.all_nil,Bool.and_true] at q;exact q
   ·rw [if_neg (by decide),if_neg (by decide),if_pos rfl,List.all_cons,List.all_nil,Bool.and_true] at q;exact q
  decreasing_tactic
  refine ifF (by rcases hk with rfl | rfl<;>decide) ⟨by decide,fun p hp=>⟨[("quarter":Str),"half"],aL,?_⟩⟩
  rw [qh hk]
  refine ifT rfl ⟨by decide,?_⟩
  rw [show D.tup [.int 0,.int 1] = FQ 0 from rfl,wH]
  exact aV (q _ (bK.new hp _))
 ·subst hk
  obtain ⟨a,b,c,d,rfl⟩:=uD el en
  replace q:∀ M',bK M3 M'->Q (.bl (!decide (a = 0/\b = 0) && decide (cS a b 0 0 = cS a b c d))) M':=q
  decreasing_tactic
  refine ifF (by decide) ⟨by decide,fun p hp=>⟨[("quarter":Str),"half"],aL,?_⟩⟩
  refine ifF (by decide) ?_
  rw [bD]
  refine ifT (by decide) ?_
  have q:=q _ (bK.new hp [D.str "quarter",.str "half"])
  generalize cW M3 p _ = M4 at q ⊢
  have b1:=bq a (by simp)
  have b2:=bq b (by simp)
  have b3:=bq c (by simp)
  have b4:=bq d (by simp)
  have z0:BQ 110 0:=bqz.mono (by decide)
  decreasing_tactic
  refine ⟨by decide,by decide,by decide,?_⟩
  rw [show D.tup (Dd.cutD [D.str "arc",FQ a,FQ b,FQ c,FQ d] (some 1) (some 3)) = PQ a b from rfl,show D.tup (Dd.cutD [D.str "arc",FQ a,FQ b,FQ c,FQ d] (some 3) none) = PQ c d from rfl,show D.tup [D.tup [.int 0,.int 1],D.tup [.int 0,.int 1]] = PQ 0 0 from rfl,vT]
  by_cases n0:a = 0/\b = 0
  ·rw [decide_eq_true n0] at q ⊢
   exact ifF rfl (aV q)
  rw [decide_eq_false n0] at q ⊢
  refine ifT rfl ⟨a,b,0,0,rfl,b1,b2,z0,z0,a,b,c,d,rfl,b1,b2,b3,b4,?_⟩
  show dEq id (FQ (cS a b 0 0)) (FQ (cS a b c d)) M4 (Dn Q)
  rw [wH]
  exact aV q
noncomputable def aFV (d:D):Prop:=∀ k xs,d = .tup (.str k :: xs)->k ≠ "again"/\k ≠ "keep"/\k ≠ "ever"
theorem cP.noBlk {d:D} (h:cP d):aFV d:=fun k xs e=>by
 obtain ⟨hk,_⟩:=h.2.2 k xs e
 rcases hk with ⟨n,hn⟩ | hk
 ·refine ⟨?_,?_,?_⟩<;>intro z<;>subst z<;>cases hn
 ·unfold qE at hk
  simp only [List.mem_cons,List.not_mem_nil,or_false] at hk
  rcases hk with rfl | rfl | rfl | rfl | rfl | rfl<;>decide
theorem uG {xs:List D} (h:xs ≠ []):∃ d,d ∈ xs/\atI xs (-1) = some d:=by
 have hl:0 < xs.length:=List.length_pos_iff.mpr h
 refine ⟨xs[xs.length - 1],List.getElem_mem _,?_⟩
 unfold atI ixN
 rw [if_neg (by decide),if_pos (by omega)]
 show xs[((-1:Int) + (xs.length:Int)).toNat]? = _
 rw [show ((-1:Int) + (xs.length:Int)).toNat = xs.length - 1 by omega]
 exact List.getElem?_eq_getElem _
theorem aCT {x:D} {xs:List D}:∃ y,atI (x :: xs) (-1) = some y/\y ∈ x :: xs:=let ⟨d,h1,h2⟩:=uG (xs:=x :: xs) (fun e=>nomatch e);⟨d,h2,h1⟩
noncomputable def kB:DSp:=fun ds M Q=>∃ d,ds = [d]/\cP d/\Q (.bl false) M
noncomputable abbrev mB:Stmt:=top 32
theorem uO:aT ["thing"] ["thing"] (aJ mB):=⟨rfl,rfl,rfl,by decide +kernel,rfl,by decide +kernel,by decide +kernel⟩
theorem tJ (hF:cZ K mg "is_block" mB ["thing"]) (aQ:mg "isinstance" = none) (dH:mg "tuple" = none) (dE:mg "len" = none) (iR:iB K mg "MOST_AGAIN" (.int 12)) (eP:Has P w K mg base 101 "is_worded" ["thing"] iV) (eL:Has P w K mg base 101 "is_whole" ["thing"] kF):Has P w K mg base 102 "is_block" ["thing"] kB:=by
 refine Has.mkZ hF uO (fun ds M Q ⟨_,z,_⟩=>by rw [z];rfl) fun f cdv A outer s H ds M Q E hr h=>?_
 obtain ⟨d,rfl,ok,q⟩:=h
 refine ⟨_,(aF (bA (fM (eZ (dR (cD (aG eP hr (by decide) (aA (aB 0) aD)))) (fK (dR (cD (dU (aH (aB 0) (kS aC)) aQ dH)))))) (aE (aN eD)) aR)
  (aF (bA (aS (cE hr) (aH (aB 0) aC) aM) (aE (aN (dS (cK (cE hr) (bO hJ dE (aA (aB 0) aD)) aC) (dS (aG eL hr (by decide) (aA (aH (aB 0) aC) aD)) (eA (sC uZ uZ aC (aH (aB 0) aC) (dA iR))))))) aR)
  (aE (aN (dS (cK (cE hr) (bO hJ dE (aA (aB 0) aD)) aC) (eA (zM (cK (cE hr) (aH (aB 0) aC) aM) (eA (cK (cE hr) (aH (aB 0) aC) aM))))))))),?_⟩
 cases hw:gS d with
 | false =>
  decreasing_tactic
  refine ⟨d,rfl,ok.1,?_⟩
  rw [hw]
  exact ifT rfl (aV q)
 | true =>
  unfold gS at hw
  split at hw
  ·rename_i k xs
   obtain ⟨n1,n2,n3⟩:=ok.noBlk k xs rfl
   obtain ⟨y,ey,hy⟩:=aCT (x:=D.str k) (xs:=xs)
   have oy:jO y = true:=List.all_eq_true.mp ok.1 y hy
   decreasing_tactic
   refine ⟨_,rfl,ok.1,ifF rfl ?_⟩
   rw [ey]
   decreasing_tactic
   have fin:∀ Z:DM->Prop,(match atI (D.str k :: xs) 0 with | some d=>True | none=>True)->True:=fun _ _=>trivial
   clear fin
   cases y with
   | ref _=>cases oy
   | fz _=>cases oy
   | tup zs =>
    refine .inl ⟨_,_,rfl,rfl,ifF rfl ?_⟩
    rw [nV]
    decreasing_tactic
    rw [bD]
    refine ifF (decide_eq_false n1) ?_
    rw [fL]
    decreasing_tactic
    rw [bE]
    by_cases c:(((xs.length + 1:Nat):Int)) = 2
    ·refine ifT (decide_eq_true c) ?_
     rw [bD]
     refine ifF (decide_eq_false n2) ?_
     rw [bD,decide_eq_false n3]
     exact aV q
    ·exact ifF (decide_eq_false c) (aV q)
   | _=>exact .inl ⟨_,_,rfl,rfl,ifT rfl (aV q)⟩
  ·cases hw
noncomputable def Wd (d:D):Prop:=∃ k xs,d = .tup (.str k :: xs)/\k ≠ "again"/\k ≠ "keep"/\k ≠ "ever"
noncomputable def eW:DSp:=fun ds M Q=>∃ d,ds = [d]/\Wd d/\Q .non M
noncomputable abbrev iC:Stmt:=top 52
theorem pO:aT ["row"] ["row"] (aJ iC):=⟨rfl,rfl,rfl,by decide +kernel,rfl,by decide +kernel,by decide +kernel⟩
theorem oW (hF:cZ K mg "rows_within" iC ["row"]):Has P w K mg base 101 "rows_within" ["row"] eW:=by
 refine Has.mkZ hF pO (fun ds M Q ⟨_,z,_⟩=>by rw [z];rfl) fun f cdv A outer s H ds M Q E hr h=>?_
 obtain ⟨d,rfl,⟨k,xs,rfl,n1,n2,n3⟩,q⟩:=h
 refine ⟨_,(aF (bA (aS (cE hr) (aH (aB 0) aC) aM) (aE (aN (aH (aB 0) aC))) aR)
  (aE (aN (rN (fM (eZ (aS (cE hr) (aH (aB 0) aC) aM) (fK (aS (cE hr) (aH (aB 0) aC) aM)))) (aH (aB 0) aC) wX)))),?_⟩
 decreasing_tactic
 rw [nV]
 decreasing_tactic
 rw [bD]
 refine ifF (decide_eq_false n1) ?_
 rw [bD]
 refine ifF (decide_eq_false n2) ?_
 rw [bD]
 exact ifF (decide_eq_false n3) (aV q)
noncomputable def iD:DSp:=fun ds M Q=>∃ xs,ds = [.tup xs]/\(∀ x ∈ xs,Wd x)/\Q (.int (xs.length:Int)) M
noncomputable abbrev fW:Stmt:=top 53
theorem cM:aT ["rows","many","row","within"] ["rows"] (aJ fW):=⟨rfl,rfl,rfl,by decide +kernel,rfl,by decide +kernel,by decide +kernel⟩
theorem mS (hF:cZ K mg "how_many_rows" fW ["rows"]) (dE:mg "len" = none) (bY:Has P w K mg base 101 "rows_within" ["row"] eW):Has P w K mg base 103 "how_many_rows" ["rows"] iD:=by
 have dL:=Has.never (P:=P) (w:=w) (base:=base) hF cM 101
 refine Has.mkZ (k:=102) hF cM (fun ds M Q ⟨a,z,_⟩=>by rw [z];rfl) fun f cdv A outer s H ds M Q E hr h=>?_
 obtain ⟨xs,rfl,hx,q⟩:=h
 refine ⟨_,(aF (aY (i:=1) cM.nd (bO hJ dE (aA (aB 0) aD)))
  (aF (mM PassesOwn.never rfl (aB 0) (bR (i:=2) cM.nd) (aF (aY (i:=3) cM.nd (aG bY hr (by omega) (aA (aB 2) aD)))
  (aE (bA (aS aAa (aB 3) wX) (aE (qW (i:=1) wB cM.nd (aG dL hr (by omega) (aA (aB 3) aD)))) aR))))
  (aE (aN (aB 1))))),?_⟩
 decreasing_tactic
 rw [fL]
 decreasing_tactic
 refine ⟨fun i ρ M'=>M' = M/\∃ o1 o2,ρ = [some (.tup xs),some (.int (xs.length:Int)),o1,o2],⟨rfl,none,none,rfl⟩,fun i ρ M' _ _ a e=>(by cases e),?_,?_⟩
 ·rintro i d1 ρ M' hd ⟨rfl,o1,o2,rfl⟩
  decreasing_tactic
  refine ⟨d1,rfl,hx d1 (List.mem_of_getElem? hd),?_⟩
  decreasing_tactic
  exact ifF rfl ⟨rfl,_,_,rfl⟩
 ·rintro ρ M' ⟨rfl,o1,o2,rfl⟩
  exact aV q
noncomputable def fQ:DSp:=fun ds M Q=>∃ xs,ds = [.tup xs]/\(∀ x ∈ xs,Wd x)/\xs.length<=60/\Q (.tup xs) M
noncomputable abbrev gJ:Stmt:=top 65
theorem oM:aT ["program"] ["program"] (aJ gJ):=⟨rfl,rfl,rfl,by decide +kernel,rfl,by decide +kernel,by decide +kernel⟩
theorem nK (hF:cZ K mg "not_too_long" gJ ["program"]) (kJ:iB K mg "MOST_ROWS" (.int 60)) (dL:Has P w K mg base 103 "how_many_rows" ["rows"] iD):Has P w K mg base 104 "not_too_long" ["program"] fQ:=by
 refine Has.mkZ hF oM (fun ds M Q ⟨_,z,_⟩=>by rw [z];rfl) fun f cdv A outer s H ds M Q E hr h=>?_
 obtain ⟨xs,rfl,hx,l,q⟩:=h
 refine ⟨_,(aF (bA (aS rR (aG dL hr (by decide) (aA (aB 0) aD)) (dA kJ)) (aE nG) aR)
  (aE (aN (aB 0)))),?_⟩
 decreasing_tactic
 refine ⟨xs,rfl,hx,?_⟩
 decreasing_tactic
 exact ifF (decide_eq_false (by omega)) (aV q)
noncomputable def iK:DSp:=fun _ _ _=>False
noncomputable abbrev lY:Stmt:=top 67
theorem uB:aT ["block","around"] ["block","around"] (aJ lY):=⟨rfl,rfl,rfl,by decide +kernel,rfl,by decide +kernel,by decide +kernel⟩
theorem sX (hF:cZ K mg "has_room" lY ["block","around"]):Has P w K mg base 101 "has_room" ["block","around"] iK:=by
 exact Has.never hF uB 100
noncomputable abbrev jV:Stmt:=top 68
theorem tU:aT ["rows","size"] ["rows"] (aJ jV):=⟨rfl,rfl,rfl,by decide +kernel,rfl,by decide +kernel,by decide +kernel⟩
theorem rC (hF:cZ K mg "can_go_on" jV ["rows"]):Has P w K mg base 101 "can_go_on" ["rows"] iK:=by
 exact Has.never hF tU 100
noncomputable def sR:DSp:=fun ds M Q=>∃ xs a,ds = [.tup xs,.int a,.tup []]/\(∀ x ∈ xs,cP x/\cX x true)/\Q (.int (a + (xs.length:Int))) M
noncomputable abbrev eT:Stmt:=top 66
theorem aU:aT ["rows","number","around","at","row","behind"] ["rows","number","around"] (aJ eT):=⟨rfl,rfl,rfl,by decide +kernel,rfl,by decide +kernel,by decide +kernel⟩
theorem nO (hF:cZ K mg "look_at_rows" eT ["rows","number","around"]) (fA:Has P w K mg base 101 "has_room" ["block","around"] iK) (eO:Has P w K mg base 101 "can_go_on" ["rows"] iK) (bY:Has P w K mg base 101 "rows_within" ["row"] eW) (cY:Has P w K mg base 105 "is_plain_row" ["thing"] fV) (fE:Has P w K mg base 102 "is_block" ["thing"] kB):Has P w K mg base 121 "look_at_rows" ["rows","number","around"] sR:=by
 have bT:=Has.never (P:=P) (w:=w) (base:=base) hF aU 118
 refine Has.mkZ (k:=120) hF aU (fun ds M Q ⟨a,b,z,_⟩=>by rw [z];rfl) fun f cdv A outer s H ds M Q E hr h=>?_
 obtain ⟨xs,a,rfl,hx,q⟩:=h
 refine ⟨_,(aF (aY (i:=3) aU.nd (aB 1))
  (aF (mM PassesOwn.never rfl (aB 0) (bR (i:=4) aU.nd) (aE (bA (cD (aG cY hr (by omega) (aA (aB 4) aD))) (aE (qW (i:=3) wB aU.nd aC)) (aE (bA (fM (iW (cD (aG fE hr (by omega) (aA (aB 4) aD))) (gI (cD (aG fA hr (by omega) (aA (aB 4) (aA (aB 2) aD))))))) (aF (aY (i:=5) aU.nd (aG bT hr (by omega) (aA (aG bY hr (by omega) (aA (aB 4) aD)) (aA (aI cO (aB 3) aC) (aA (aI eR (aB 2) (aK (aA (aH (aB 4) aC) aD))) aD)))))
  (aF (bA (fM (iW (aS (cE hr) (aH (aB 4) aC) aM) (gI (dR (cD (aG eO hr (by omega) (aA (aH (aB 4) aC) aD))))))) (aE nG) aR)
  (aE (aY (i:=3) aU.nd (aI cO (aB 5) aC))))) (aE nG))))))
  (aE (aN (aB 3))))),?_⟩
 decreasing_tactic
 refine ⟨fun i ρ M'=>M' = M/\∃ o1 o2,ρ = [some (.tup xs),some (.int a),some (.tup []),some (.int (a + (i:Int))),o1,o2],⟨rfl,none,none,by rw [show a + ((0:Nat):Int) = a by omega]⟩,fun i ρ M' _ _ a e=>(by cases e),?_,?_⟩
 ·rintro i d1 ρ M' hd ⟨rfl,o1,o2,rfl⟩
  obtain ⟨ok,pl⟩:=hx d1 (List.mem_of_getElem? hd)
  decreasing_tactic
  refine ⟨d1,true,rfl,ok,pl,?_⟩
  decreasing_tactic
  exact ifT rfl ⟨rfl,_,_,by rw [show a + (i:Int) + 1 = a + ((i + 1:Nat):Int) by omega]⟩
 ·rintro ρ M' ⟨rfl,o1,o2,rfl⟩
  exact aV q
noncomputable def aDl:List D->DM->Int->Prop:=fun ds M i=>∃ xs d a,ds = [.tup (xs ++ [d]),.int a,.tup []]/\(∀ x ∈ xs,cP x/\cX x true)/\cP d/\cX d false/\i = a + (xs.length:Int)
theorem nQ {C_NoRow:Addr} (hF:cZ K mg "look_at_rows" eT ["rows","number","around"]) (fJ:kZ P w K mg base "NoRow" C_NoRow "row") (fA:Has P w K mg base 101 "has_room" ["block","around"] iK) (eO:Has P w K mg base 101 "can_go_on" ["rows"] iK) (bY:Has P w K mg base 101 "rows_within" ["row"] eW) (cY:Has P w K mg base 105 "is_plain_row" ["thing"] fV) (fE:Has P w K mg base 102 "is_block" ["thing"] kB):fN P w K mg base 121 "look_at_rows" ["rows","number","around"] C_NoRow "row" aDl:=by
 have bT:=Has.never (P:=P) (w:=w) (base:=base) hF aU 118
 have dW:=fN.never hF fJ aU 118
 refine fN.mkZ (k:=120) hF fJ aU (fun ds M i ⟨a,b,c,z,_⟩=>by rw [z];rfl) fun f cdv A outer s H ds M iw E hr h hRO hPO=>?_
 obtain ⟨xs,d,a,rfl,hx,ok,pl,rfl⟩:=h
 refine ⟨_,(aF (aY (i:=3) aU.nd (aB 1))
  (aF (mM PassesOwn.leaving rfl (aB 0) (bR (i:=4) aU.nd) (aE (bA (cD (aG cY hr (by omega) (aA (aB 4) aD))) (aE (qW (i:=3) wB aU.nd aC)) (aE (bA (fM (iW (cD (aG fE hr (by omega) (aA (aB 4) aD))) (gI (cD (aG fA hr (by omega) (aA (aB 4) (aA (aB 2) aD))))))) (aF (aAJ (aY (i:=5) aU.nd (rY dW hr (by omega) hPO (aA (aG bY hr (by omega) (aA (aB 4) aD)) (aA (aI cO (aB 3) aC) (aA (aI eR (aB 2) (aK (aA (aH (aB 4) aC) aD))) aD)))))
  (aY (i:=5) aU.nd (aG bT hr (by omega) (aA (aG bY hr (by omega) (aA (aB 4) aD)) (aA (aI cO (aB 3) aC) (aA (aI eR (aB 2) (aK (aA (aH (aB 4) aC) aD))) aD))))))
  (aF (bA (fM (iW (aS (cE hr) (aH (aB 4) aC) aM) (gI (dR (cD (aG eO hr (by omega) (aA (aH (aB 4) aC) aD))))))) (aE (qH hRO hr (by first | decide | omega) (aB 3))) aR)
  (aE (aY (i:=3) aU.nd (aI cO (aB 5) aC))))) (aE (qH hRO hr (by first | decide | omega) (aB 3))))))))
  (aE (aN (aB 3))))),?_⟩
 decreasing_tactic
 refine ⟨fun i ρ M'=>M' = M/\i<=xs.length/\∃ o1 o2,ρ = [some (.tup (xs ++ [d])),some (.int a),some (.tup []),some (.int (a + (i:Int))),o1,o2],⟨rfl,Nat.zero_le _,none,none,by rw [show a + ((0:Nat):Int) = a by omega]⟩,fun i ρ M' _ _ a e=>(by cases e),?_,?_⟩
 ·rintro i d1 ρ M' hd ⟨rfl,li,o1,o2,rfl⟩
  by_cases c:i < xs.length
  ·rw [List.getElem?_append_left c] at hd
   obtain ⟨ok1,pl1⟩:=hx d1 (List.mem_of_getElem? hd)
   decreasing_tactic
   refine ⟨d1,true,rfl,ok1,pl1,?_⟩
   decreasing_tactic
   exact ifT rfl ⟨rfl,c,_,_,by rw [show a + (i:Int) + 1 = a + ((i + 1:Nat):Int) by omega]⟩
  ·have ei:i = xs.length:=by omega
   subst ei
   rw [List.getElem?_append_right (Nat.le_refl _),Nat.sub_self] at hd
   cases hd
   decreasing_tactic
   refine ⟨d,false,rfl,ok,pl,?_⟩
   decreasing_tactic
   refine ifF rfl ⟨d,rfl,ok,?_⟩
   decreasing_tactic
   exact ifF rfl ⟨rfl,.refl _⟩
 ·rintro ρ M' ⟨rfl,li,o1,o2,rfl⟩
  rw [List.length_append,List.length_cons,List.length_nil] at li
  omega
theorem zV {d:D} (h:cP d) (p:cX d true):Wd d:=by
 rcases p with ⟨_,z⟩ | ⟨k,xs,rfl,_⟩
 ·cases z
 ·obtain ⟨n1,n2,n3⟩:=h.noBlk k xs rfl
  exact ⟨k,xs,rfl,n1,n2,n3⟩
noncomputable def lF:DSp:=fun ds M Q=>∃ xs,ds = [.tup xs]/\(∀ x ∈ xs,cP x/\cX x true)/\xs.length<=60/\Q (.tup xs) M
noncomputable abbrev gA:Stmt:=top 64
theorem lA:aT ["rows"] ["rows"] (aJ gA):=⟨rfl,rfl,rfl,by decide +kernel,rfl,by decide +kernel,by decide +kernel⟩
theorem qC (hF:cZ K mg "program_of" gA ["rows"]) (bT:Has P w K mg base 121 "look_at_rows" ["rows","number","around"] sR) (dD:Has P w K mg base 104 "not_too_long" ["program"] fQ):Has P w K mg base 122 "program_of" ["rows"] lF:=by
 refine Has.mkZ hF lA (fun ds M Q ⟨_,z,_⟩=>by rw [z];rfl) fun f cdv A outer s H ds M Q E hr h=>?_
 obtain ⟨xs,rfl,hx,l,q⟩:=h
 refine ⟨_,(aF (kH (aG bT hr (by decide) (aA (aB 0) (aA aC (aA (aK aD) aD)))))
  (aE (aN (aG dD hr (by decide) (aA (aB 0) aD))))),?_⟩
 decreasing_tactic
 refine ⟨by decide,xs,0,rfl,hx,xs,rfl,fun x hx'=>zV (hx x hx').1 (hx x hx').2,l,aV q⟩
noncomputable def aDp:List D->DM->Int->Prop:=fun ds M i=>∃ xs d,ds = [.tup (xs ++ [d])]/\(∀ x ∈ xs,cP x/\cX x true)/\cP d/\cX d false/\i = (xs.length:Int)
theorem qM {C_NoRow:Addr} (hF:cZ K mg "program_of" gA ["rows"]) (fJ:kZ P w K mg base "NoRow" C_NoRow "row") (dW:fN P w K mg base 121 "look_at_rows" ["rows","number","around"] C_NoRow "row" aDl) (bT:Has P w K mg base 121 "look_at_rows" ["rows","number","around"] sR) (dD:Has P w K mg base 104 "not_too_long" ["program"] fQ):fN P w K mg base 122 "program_of" ["rows"] C_NoRow "row" aDp:=by
 refine fN.mkZ hF fJ lA (fun ds M i ⟨_,_,z,_⟩=>by rw [z];rfl) fun f cdv A outer s H ds M iw E hr h hRO hPO=>?_
 obtain ⟨xs,d,rfl,hx,ok,pl,rfl⟩:=h
 refine ⟨_,(aF (aAJ (kH (rY dW hr (by decide) hPO (aA (aB 0) (aA aC (aA (aK aD) aD)))))
  (kH (aG bT hr (by decide) (aA (aB 0) (aA aC (aA (aK aD) aD))))))
  (aE (aN (aG dD hr (by decide) (aA (aB 0) aD))))),?_⟩
 decreasing_tactic
 exact .inl ⟨by decide,_,⟨xs,d,0,rfl,hx,ok,pl,by omega⟩,fun M' sb=>⟨rfl,sb⟩⟩
noncomputable def nY:DSp:=fun ds M Q=>∃ xs,ds = [.tup xs]/\xs.length<=60/\(((∀ x ∈ xs,cP x/\cX x true)/\∀ p,M (.l p) = none->Q (.ref p) (cW M p [.tup xs])) ∨ (∃ ys d,xs = ys ++ [d]/\(∀ x ∈ ys,cP x/\cX x true)/\cP d/\cX d false/\Q (.int (ys.length:Int)) M))
noncomputable abbrev lK:Stmt:=top 83
theorem kK:aT ["_law_rows","_law_found","e","_law_others"] ["_law_rows"] (aJ lK):=⟨rfl,rfl,rfl,by decide +kernel,rfl,by decide +kernel,by decide +kernel⟩
theorem tE {C_NoRow C_MillError C_NoKin C_NoNumber C_NoPiece C_NoText C_TooMuch:Addr} (hF:cZ K mg "_law_told" lK ["_law_rows"]) (aQ:mg "isinstance" = none) (iY:mg "ValueError" = none) (iQ:mg "bool" = none) (fJ:kZ P w K mg base "NoRow" C_NoRow "row") (kL:aC3 K mg "MillError" C_MillError) (tM:iB K mg "NoKin" (.ref C_NoKin)) (lS:iB K mg "NoNumber" (.ref C_NoNumber)) (nB:iB K mg "NoPiece" (.ref C_NoPiece)) (pS:iB K mg "NoText" (.ref C_NoText)) (nS:iB K mg "TooMuch" (.ref C_TooMuch)) (kP:nE K C_NoRow) (f_NoRow:oR K C_NoRow "row") (fP:PySem.W.exmOne K (.ref C_NoRow) (.ref C_MillError) = some true) (sO:PySem.W.kitOne K (.ref C_NoRow) (.ref C_NoRow) = some true) (eS:PySem.W.kitOne K (.ref C_NoRow) (.type "ValueError") = some true) (kI:PySem.W.kitAny K (.ref C_NoRow) [.ref C_NoKin,.ref C_NoNumber,.ref C_NoPiece,.ref C_NoText,.ref C_TooMuch] = some false) (jF:Has P w K mg base 122 "program_of" ["rows"] lF) (iU:fN P w K mg base 122 "program_of" ["rows"] C_NoRow "row" aDp):Has P w K mg base 130 "_law_told" ["_law_rows"] nY:=by
 refine Has.mkZ hF kK (fun ds M Q ⟨_,z,_⟩=>by rw [z];rfl) fun f cdv A outer s H ds M Q E hr h=>?_
 obtain ⟨xs,rfl,hl,q⟩:=h
 refine ⟨_,(aF (yX (i:=1) (j:=2) iU jF hr (by decide) (by decide) kK.nd kL.nm fP (aA (aB 0) aD) (fun _ _ _ _ _ _ ho hl=>(aF (aY (i:=3) kK.nd (bO (aAQ ho kP) aQ (aA (aB 2) (aA (aK (aA (dA tM) (aA (dA lS) (aA (dA nB) (aA (dA pS) (aA (dA nS) aD)))))) aD))))
  (aF (bA (fM (eZ (cD (aB 3)) (eZ (dR (cD (aAU (j:=2) ho kP fJ.nm sO aQ))) (eZ (dR (cD (zE (j:=2) ho eS aQ iY))) (fK (cD (yF (j:=2) ho hl kP f_NoRow aQ iQ))))))) (aE (aN aM)) aR)
  (aE (aN (aCu (j:=2) ho hl kP f_NoRow)))))))
  (aE (aN (cB (aA (aB 1) aD))))),?_⟩
 decreasing_tactic
 rcases q with ⟨hx,q⟩ | ⟨ys,d,rfl,hy,ok,pl,q⟩
 ·refine .inr ⟨xs,rfl,hx,hl,?_⟩
  decreasing_tactic
  refine ⟨by decide,fun p hp=>aV (q p hp)⟩
 ·refine .inl ⟨_,⟨ys,d,rfl,hy,ok,pl,rfl⟩,fun a=>?_⟩
  refine ⟨by decide,[C_NoKin,C_NoNumber,C_NoPiece,C_NoText,C_TooMuch],false,rfl,kI,ifF rfl ⟨rfl,ifF rfl ⟨rfl,ifF rfl ⟨rfl,.inl ⟨_,_,rfl,rfl,ifF rfl ⟨rfl,aV q⟩⟩⟩⟩⟩⟩
noncomputable def Nm (x:D):Prop:=qD x = true/\jO x = true/\aZ 49 x = true/\∀ a b,x = .tup [.int a,.int b]->Bd 110 a/\Bd 110 b
theorem cP.of {k:Str} {xs:List D} (hk:(∃ n,oV.lookup k = some n) ∨ k ∈ qE) (hl:xs.length<=12) (h:∀ x ∈ xs,Nm x):cP (.tup (.str k :: xs)):=by
 refine ⟨?_,?_,fun k' xs' e=>?_⟩
 ·show (D.str k :: xs).all jO = true
  rw [List.all_cons,List.all_eq_true.mpr fun x hx=>(h x hx).2.1];rfl
 ·show (D.str k :: xs).all (aZ 49) = true
  rw [List.all_cons,List.all_eq_true.mpr fun x hx=>(h x hx).2.2.1];rfl
 ·injection e with e
  injection e with e1 e2
  injection e1 with e1
  rw [<- e1,<- e2]
  exact ⟨hk,hl,fun x hx=>⟨(h x hx).1,(h x hx).2.2.2⟩⟩
theorem cP.no {d:D} (h:qD d = true) (p:aZ 50 d = true) (w:gS d = false):cP d:=⟨h,p,fun k xs e=>by rw [e] at w;cases w⟩
theorem Nm.fq {x:Rat} (h:BQ 110 x):Nm (FQ x):=by
 refine ⟨rfl,rfl,rfl,fun a b e=>?_⟩
 have e:D.tup [.int x.num,.int (x.den:Int)] = .tup [.int a,.int b]:=e
 injection e with e
 injection e with e1 e2
 injection e2 with e2 _
 injection e1 with e1
 injection e2 with e2
 rw [<- e1,<- e2];exact h
theorem Nm.ii {a b:Int} (h1:Bd 110 a) (h2:Bd 110 b):Nm (.tup [.int a,.int b]):=by
 refine ⟨rfl,rfl,rfl,fun a' b' e=>?_⟩
 injection e with e
 injection e with e1 e2
 injection e2 with e2 _
 injection e1 with e1
 injection e2 with e2
 rw [<- e1,<- e2];exact ⟨h1,h2⟩
noncomputable def wd:Pl->Str
 | .go _=>"go" | .side _ _=>"side" | .skip _=>"skip" | .dot=>"dot" | .left=>"left" | .right=>"right" | .rnd=>"round" | .mirror=>"mirror" | .grow _=>"grow" | .quarter _=>"quarter" | .half _=>"half" | .arc _ _ _ _=>"arc"
noncomputable def nu:Pl->List Rat
 | .go a=>[a] | .side a b=>[a,b] | .skip a=>[a] | .grow a=>[a] | .quarter a=>[a] | .half a=>[a] | .arc a b c d=>[a,b,c,d] | _=>[]
theorem aEB (p:Pl):plD p = .tup (.str (wd p) :: (nu p).map FQ):=by cases p<;>rfl
theorem aAR (p:Pl):∃ n,oV.lookup (wd p) = some n:=by cases p<;>exact ⟨_,rfl⟩
theorem aGB (p:Pl):(nu p).length<=4:=by cases p<;>exact Nat.le_of_ble_eq_true rfl
theorem aGm {p:Pl} (h:plB 100 p):∀ x ∈ nu p,BQ 100 x:=by
 intro x hx
 cases p with
 | go a=>exact List.mem_singleton.mp hx ▸ h
 | skip a=>exact List.mem_singleton.mp hx ▸ h
 | grow a=>exact List.mem_singleton.mp hx ▸ h.1
 | quarter a=>exact List.mem_singleton.mp hx ▸ h.1
 | half a=>exact List.mem_singleton.mp hx ▸ h.1
 | side a b =>
  simp only [nu,List.mem_cons,List.not_mem_nil,or_false] at hx
  rcases hx with rfl | rfl
  ·exact h.1
  ·exact h.2
 | arc a b c d =>
  simp only [nu,List.mem_cons,List.not_mem_nil,or_false] at hx
  obtain ⟨b1,b2,b3,b4,_⟩:=h
  rcases hx with rfl | rfl | rfl | rfl
  ·exact b1
  ·exact b2
  ·exact b3
  ·exact b4
 | _=>cases hx
noncomputable def Ns (xs:List D):Prop:=xs.length<=4/\∀ x ∈ xs,Nm x
theorem aFY {p:Pl} (h:plB 100 p):Ns ((nu p).map FQ):=⟨by rw [List.length_map];exact aGB p,fun x hx=>by
 obtain ⟨r,hr,rfl⟩:=List.mem_map.mp hx
 exact .fq ((aGm h r hr).mono (by decide))⟩
theorem aAB {x:D} {xs:List D} {n:Int} (h:1<=n):∃ k:Nat,Dd.cutD (x :: xs) none (some n) = x :: xs.take k:=by
 refine ⟨(n - 1).toNat,?_⟩
 obtain ⟨m,rfl⟩:∃ m:Nat,n = ((m + 1:Nat):Int):=⟨(n - 1).toNat,by omega⟩
 unfold Dd.cutD
 rw [HT.sIx_nat,HT.sIx_none,List.drop_zero,Nat.sub_zero,show ((((m + 1:Nat):Int)) - 1).toNat = m by omega,List.length_cons]
 rcases Nat.le_total m xs.length with c | c
 ·rw [Nat.min_eq_left (by omega),List.take_succ_cons]
 ·rw [Nat.min_eq_right (by omega),List.take_succ_cons,List.take_of_length_le (Nat.le_refl _),List.take_of_length_le c]
theorem aAI {x:D} {xs:List D} {n:Int} (h:1<=n):∃ k:Nat,Dd.cutD (x :: xs) (some n) none = xs.drop k:=by
 refine ⟨(n - 1).toNat,?_⟩
 obtain ⟨m,rfl⟩:∃ m:Nat,n = ((m + 1:Nat):Int):=⟨(n - 1).toNat,by omega⟩
 unfold Dd.cutD
 rw [HT.sIx_nat,HT.sIx_none,show ((((m + 1:Nat):Int)) - 1).toNat = m by omega,List.length_cons]
 rcases Nat.le_total m xs.length with c | c
 ·rw [Nat.min_eq_left (by omega),List.drop_succ_cons,List.take_of_length_le (by rw [List.length_drop];omega)]
 ·rw [Nat.min_eq_right (by omega),List.drop_succ_cons,List.drop_of_length_le (Nat.le_refl _),List.drop_of_length_le c,List.take_nil]
theorem aCM {xs:List D}:Dd.cutD xs none (some (-1)) = xs.dropLast:=by
 unfold Dd.cutD
 rw [HT.sIx_none,List.drop_zero,Nat.sub_zero]
 have:HT.sIx xs.length xs.length (some (-1)) = xs.length - 1:=by
  unfold HT.sIx
  simp
  omega
 rw [this,<- List.dropLast_eq_take]
noncomputable def rH:List D:=[.tup [.int 2,.int 4],.tup [.int 1,.int 0],.tup [.int 1,.int (-1)],.tup [.int 0,.int 5],.tup [.bl true,.int 1],.tup [.int 1,.bl true],.str "1",.int 5,.tup [.int 1],.tup [.int 1,.int 2,.int 3],.tup [],.tup [.str "1",.int 1]]
theorem fm {z m:Int} (h:0 < m):0<=z.fmod m/\z.fmod m < m:=⟨Int.fmod_nonneg_of_pos z h,Int.fmod_lt_of_pos z h⟩
theorem aFl (z:Int):∃ d,atI rH (z.fmod 12) = some d/\Nm d:=by
 obtain ⟨h1,h2⟩:=fm (z:=z) (show (0:Int) < 12 by decide)
 have:((z.fmod 12 = 0 ∨ z.fmod 12 = 1 ∨ z.fmod 12 = 2 ∨ z.fmod 12 = 3) ∨ z.fmod 12 = 4 ∨ z.fmod 12 = 5 ∨ z.fmod 12 = 6 ∨ z.fmod 12 = 7) ∨ z.fmod 12 = 8 ∨ z.fmod 12 = 9 ∨ z.fmod 12 = 10 ∨ z.fmod 12 = 11:=by omega
 rcases this with ((e | e | e | e) | e | e | e | e) | e | e | e | e<;>rw [e]<;>refine ⟨_,rfl,?_⟩
 case inl.inl.inl=>exact .ii (by unfold Bd;decide) (by unfold Bd;decide)
 case inl.inl.inr.inl=>exact .ii (by unfold Bd;decide) (by unfold Bd;decide)
 case inl.inl.inr.inr.inl=>exact .ii (by unfold Bd;decide) (by unfold Bd;decide)
 case inl.inl.inr.inr.inr=>exact .ii (by unfold Bd;decide) (by unfold Bd;decide)
 all_goals exact ⟨rfl,rfl,rfl,fun a b e=>by injections⟩
noncomputable def aAm:List D:=[.str "",.str "Go",.str "go ",.str "forth",.str "end",.str "line",.int 5,.bl true,.tup [.str "go"]]
theorem aCg (z:Int):∃ d,atI aAm (z.fmod 9) = some d/\∀ xs,xs.length<=12->(∀ x ∈ xs,Nm x)->cP (.tup (d :: xs)):=by
 obtain ⟨h1,h2⟩:=fm (z:=z) (show (0:Int) < 9 by decide)
 have tk:∀ {d:D} {xs:List D},jO d = true->aZ 49 d = true->gS (.tup [d]) = false->(∀ x ∈ xs,Nm x)->cP (.tup (d :: xs)):=fun {d xs} n1 n2 n3 h=>by
  refine .no ?_ ?_ ?_
  ·show (d :: xs).all jO = true
   rw [List.all_cons,n1,List.all_eq_true.mpr fun x hx=>(h x hx).2.1];rfl
  ·show (d :: xs).all (aZ 49) = true
   rw [List.all_cons,n2,List.all_eq_true.mpr fun x hx=>(h x hx).2.2.1];rfl
  ·cases d<;>first | rfl | cases n3
 have:((z.fmod 9 = 0 ∨ z.fmod 9 = 1 ∨ z.fmod 9 = 2 ∨ z.fmod 9 = 3) ∨ z.fmod 9 = 4 ∨ z.fmod 9 = 5) ∨ z.fmod 9 = 6 ∨ z.fmod 9 = 7 ∨ z.fmod 9 = 8:=by omega
 rcases this with ((e | e | e | e) | e | e) | e | e | e<;>rw [e]<;>refine ⟨_,rfl,fun xs hl h=>?_⟩
 case inr.inl=>exact tk rfl rfl rfl h
 case inr.inr.inl=>exact tk rfl rfl rfl h
 case inr.inr.inr=>exact tk rfl rfl rfl h
 all_goals exact .of (.inr (by decide)) hl h
noncomputable def aAX:List D:=[.tup [.int 13,.int 1],.tup [.int 1,.int 13],.tup [.int 0,.int 1],.tup [.int (-1),.int 2],.tup [.int 12,.int 13],.tup [.int 24,.int 2]]
theorem aCB (z:Int):∃ d,atI aAX (z.fmod 6) = some d/\Nm d:=by
 obtain ⟨h1,h2⟩:=fm (z:=z) (show (0:Int) < 6 by decide)
 have:(z.fmod 6 = 0 ∨ z.fmod 6 = 1 ∨ z.fmod 6 = 2) ∨ z.fmod 6 = 3 ∨ z.fmod 6 = 4 ∨ z.fmod 6 = 5:=by omega
 rcases this with (e | e | e) | e | e | e<;>rw [e]<;>exact ⟨_,rfl,.ii (by unfold Bd;decide) (by unfold Bd;decide)⟩
noncomputable def aDf:List D:=[.str "go",.str "",.int 5,.bl true,.tup [],.tup [.int 5],.tup [.tup []],.tup [.tup [.str "go",.tup [.int 1,.int 1]]]]
theorem vY (z:Int):∃ d,atI aDf (z.fmod 8) = some d/\cP d:=by
 obtain ⟨h1,h2⟩:=fm (z:=z) (show (0:Int) < 8 by decide)
 have:(z.fmod 8 = 0 ∨ z.fmod 8 = 1 ∨ z.fmod 8 = 2 ∨ z.fmod 8 = 3) ∨ z.fmod 8 = 4 ∨ z.fmod 8 = 5 ∨ z.fmod 8 = 6 ∨ z.fmod 8 = 7:=by omega
 rcases this with (e | e | e | e) | e | e | e | e<;>rw [e]<;>exact ⟨_,rfl,.no rfl rfl rfl⟩
theorem aBC (z:Int):z.fmod 2 = 0 ∨ z.fmod 2 = 1:=by
 obtain ⟨h1,h2⟩:=fm (z:=z) (show (0:Int) < 2 by decide)
 omega
noncomputable def nX:DSp:=fun ds M Q=>∃ (k:Str) (xs:List D) (a:Addr) (L:List D),ds = [.tup (.str k :: xs),.ref a]/\(∃ n,oV.lookup k = some n)/\Ns xs/\(k = "arc"->∃ b c d e:Rat,xs = [FQ b,FQ c,FQ d,FQ e]/\BQ 100 d)/\M a = some L/\gX 5 L/\∀ d M',cP d->bK M M'->Q d M'
noncomputable abbrev lW:Stmt:=top 82
theorem gZ:aT ["_law_row_here","_law_numbers","_law_way","_law_at","_law_odd"] ["_law_row_here","_law_numbers"] (aJ lW):=⟨rfl,rfl,rfl,by decide +kernel,rfl,by decide +kernel,by decide +kernel⟩
theorem tX (hF:cZ K mg "_law_bent" lW ["_law_row_here","_law_numbers"]) (aAF:mg "max" = none) (dE:mg "len" = none) (cA:Has P w K mg base 102 "_law_plus" ["_law_one","_law_other"] fO):Has P w K mg base 103 "_law_bent" ["_law_row_here","_law_numbers"] nX:=by
 refine Has.mkZ hF gZ (fun ds M Q ⟨_,_,_,_,z,_⟩=>by rw [z];rfl) fun f cdv A outer s H ds M Q E hr h=>?_
 obtain ⟨k,xs,a,L,rfl,hk,ns,ha,hL,iL,q⟩:=h
 refine ⟨_,(aF (aY (i:=2) gZ.nd (aI bZ (aH (aB 1) aC) aC))
  (aF (aY (i:=3) gZ.nd (aI cO aC (aI bZ (aH (aB 1) aC) (bO (aFj rfl) aAF (aA aC (aA (aI gK (bO hJ dE (aA (aB 0) aD)) aC) aD))))))
  (aF (aY (i:=4) gZ.nd (cB (aA (aK (aA aC (aA aC aD))) (aA (aK (aA aC (aA aC aD))) (aA (aK (aA aC (aA (kS aC) aD))) (aA (aK (aA aC (aA aC aD))) (aA (aK (aA eD (aA aC aD))) (aA (aK (aA aC (aA eD aD))) (aA aM (aA aC (aA (aK (aA aC aD)) (aA (aK (aA aC (aA aC (aA aC aD)))) (aA (aK aD) (aA (aK (aA aM (aA aC aD))) aD))))))))))))))
  (aF (bA (aS aAM (aB 2) aC) (aE (aN (aI eR (aI eR (cJ (aB 0) dI (bX (aB 3))) (aK (aA (aH (aB 4) (aI bZ (aH (aB 1) aC) aC)) aD))) (cJ (aB 0) (bX (aI cO (aB 3) aC)) dI)))) aR)
  (aF (bA (aS (cE hr) (aB 2) aC) (aE (aN (aI eR (aB 0) (aK (aA (aK (aA aC (aA aC aD))) aD))))) aR)
  (aF (bA (aS (cE hr) (aB 2) aC) (aE (aN (cJ (aB 0) dI (bX (kS aC))))) aR)
  (aF (bA (aS (cE hr) (aB 2) aC) (aE (aN (aI eR (aK (aA (aH (cB (aA aM (aA aM (aA aM (aA aM (aA aM (aA aM (aA aC (aA eD (aA (aK (aA aM aD)) aD)))))))))) (aI bZ (aH (aB 1) aC) aC)) aD)) (cJ (aB 0) (bX aC) dI)))) aR)
  (aF (bA (aS (cE hr) (aB 2) aC) (aE (aN (aK (aA aM (aA (aH (cB (aA (aK (aA aC (aA aC aD))) (aA (aK (aA aC (aA aC aD))) (aA (aK (aA aC (aA aC aD))) (aA (aK (aA (kS aC) (aA aC aD))) (aA (aK (aA aC (aA aC aD))) (aA (aK (aA aC (aA aC aD))) aD))))))) (aI bZ (aH (aB 1) aC) aC)) aD))))) aR)
  (aF (bA (aS (cE hr) (aB 2) aC) (aE (aN (aK (aA (aH (cB (aA aM (aA aM aD))) (aI bZ (aH (aB 1) aC) aC)) (aA (aK (aA aC (aA aC aD))) aD))))) aR)
  (eX (bA (fM (iW (aS (cE hr) (aB 2) aC) (gI (aS (cE hr) (aH (aB 0) aC) aM)))) (aE (aN (aI eR (aI eR (cJ (aB 0) dI (bX aC)) (aK (aA (aG cA hr (by decide) (aA (aH (aB 0) aC) (aA (aK (aA aC (aA (aI cO aC (aI bZ (aH (aB 1) aC) aC)) aD))) aD))) aD))) (cJ (aB 0) (bX aC) dI)))) aR)
  (aF (bA (aS (cE hr) (aB 2) aC) (aE (aN (aI eR (aK (aA aM (aA (aK (aA aC (aA aC aD))) (aA (aK (aA aC (aA aC aD))) aD)))) (aH (cB (aA (aK (aA (aK (aA aC (aA aC aD))) (aA (aK (aA aC (aA aC aD))) aD))) (aA (aK (aA (aK (aA aC (aA aC aD))) (aA (aK (aA aC (aA aC aD))) aD))) aD))) (aI bZ (aH (aB 1) aC) aC))))) aR)
  (aE (aN (aH (cB (aA aM (aA aM (aA aC (aA eD (aA (aK aD) (aA (aK (aA aC aD)) (aA (aK (aA (aK aD) aD)) (aA (aK (aA (aK (aA aM (aA (aK (aA aC (aA aC aD))) aD))) aD)) aD))))))))) (aI bZ (aH (aB 1) aC) aC))))))))))))))),?_⟩
 obtain ⟨z0,e0,_⟩:=iL.at (i:=0) (by decide)
 obtain ⟨z1,e1,_⟩:=iL.at (i:=1) (by decide)
 obtain ⟨z2,e2,_⟩:=iL.at (i:=2) (by decide)
 decreasing_tactic
 refine ⟨L,_,hL,e0,?_⟩
 decreasing_tactic
 refine ⟨by decide,L,_,hL,e1,?_⟩
 rw [fL]
 decreasing_tactic
 generalize hm:(if (((xs.length + 1:Nat):Int)) - 1 > 1 then (((xs.length + 1:Nat):Int)) - 1 else 1) = m
 have m1:1<=m:=by rw [<- hm];split<;>omega
 refine ⟨by omega,by decide,by decide,by decide,by decide,by decide,by decide,by decide,by decide,by decide,by decide,by decide,fun p hp=>?_⟩
 have at1:1<=1 + z1.fmod m:=by have:=(fm (z:=z1) (show 0 < m by omega)).1;omega
 generalize 1 + z1.fmod m = t at at1 ⊢
 have hO:cW M p rH p = some rH:=aL
 have sb:=bK.new hp rH
 rw [show [D.tup [D.int 2,D.int 4],D.tup [D.int 1,D.int 0],D.tup [D.int 1,D.int (-1)],D.tup [D.int 0,D.int 5],D.tup [D.bl true,D.int 1],D.tup [D.int 1,D.bl true],D.str "1",D.int 5,D.tup [D.int 1],D.tup [D.int 1,D.int 2,D.int 3],D.tup [],D.tup [D.str "1",D.int 1]] = rH from rfl]
 generalize cW M p rH = M1 at hO sb ⊢
 have hL1:=sb _ _ hL
 have q:∀ d M',cP d->bK M1 M'->Q d M':=fun d M' h1 h2=>q d M' h1 (sb.trans h2)
 clear hm m1 hp sb e0 e1 hL
 by_cases c4:z0.fmod 12 < 4
 ·refine ifT (decide_eq_true c4) ⟨L,_,hL1,e2,?_⟩
  decreasing_tactic
  obtain ⟨d,ed,hd⟩:=aFl z2
  obtain ⟨k1,ek1⟩:=aAB (x:=D.str k) (xs:=xs) at1
  obtain ⟨k2,ek2⟩:=aAI (x:=D.str k) (xs:=xs) (show 1<=t + 1 by omega)
  rw [ek1,ek2]
  have l1:(xs.take k1).length<=4:=by rw [List.length_take];have:=ns.1;omega
  have l2:(xs.drop k2).length<=4:=by rw [List.length_drop];have:=ns.1;omega
  refine ⟨by decide,_,_,hO,ed,by decide,by rw [List.length_cons];omega,by rw [List.length_append,List.length_cons,List.length_cons,List.length_nil];omega,aV (q _ _ (.of (xs:=xs.take k1 ++ [d] ++ xs.drop k2) (.inl hk) ?_ ?_) (.refl _))⟩
  ·rw [List.length_append,List.length_append,List.length_cons,List.length_nil];omega
  ·intro x hx
   rcases List.mem_append.mp hx with hx | hx
   ·rcases List.mem_append.mp hx with hx | hx
    ·exact ns.2 x (List.mem_of_mem_take hx)
    ·exact List.mem_singleton.mp hx ▸ hd
   ·exact ns.2 x (List.mem_of_mem_drop hx)
 refine ifF (decide_eq_false c4) ?_
 rw [bE]
 refine dif (fun c=>?_) (fun c5=>?_)
 ·refine ⟨by decide,by decide,by have:=ns.1;show xs.length + 1 + 1<=1000;omega,aV (q _ _ (.of (xs:=xs ++ [.tup [.int 1,.int 1]]) (.inl hk) ?_ ?_) (.refl _))⟩
  ·rw [List.length_append,List.length_cons,List.length_nil];have:=ns.1;omega
  ·intro x hx
   rcases List.mem_append.mp hx with hx | hx
   ·exact ns.2 x hx
   ·exact List.mem_singleton.mp hx ▸ .ii (by unfold Bd;decide) (by unfold Bd;decide)
 rw [bE]
 refine dif (fun c=>?_) (fun c6=>?_)
 ·rw [aCM]
  refine aV (q _ _ ?_ (.refl _))
  cases xs with
  | nil=>exact .no rfl rfl rfl
  | cons y ys=>exact .of (xs:=(y :: ys).dropLast) (.inl hk) (by rw [List.length_dropLast];have:=ns.1;omega) fun x hx=>ns.2 x (List.dropLast_subset _ hx)
 rw [bE]
 refine dif (fun c=>?_) (fun c7=>?_)
 ·obtain ⟨d,ed,hd⟩:=aCg z2
  refine ⟨by decide,by decide,fun p2 hp2=>?_⟩
  have s2:=bK.new hp2 aAm
  refine ⟨L,_,s2 _ _ hL1,e2,?_⟩
  decreasing_tactic
  rw [pQ]
  exact ⟨by decide,_,_,aL,ed,by decide,by have:=ns.1;show 1 + xs.length<=1000;omega,aV (q _ _ (hd xs (by have:=ns.1;omega) ns.2) s2)⟩
 rw [bE]
 refine dif (fun c=>?_) (fun c8=>?_)
 ·obtain ⟨d,ed,hd⟩:=aCB z2
  refine ⟨by decide,by decide,by decide,by decide,by decide,by decide,by decide,fun p2 hp2=>?_⟩
  have s2:=bK.new hp2 aAX
  refine ⟨L,_,s2 _ _ hL1,e2,?_⟩
  decreasing_tactic
  exact ⟨by decide,_,_,aL,ed,by decide,aV (q _ _ (.of (xs:=[d]) (.inl ⟨_,rfl⟩) (Nat.le_of_ble_eq_true rfl) fun x hx=>List.mem_singleton.mp hx ▸ hd) s2)⟩
 rw [bE]
 refine dif (fun c=>?_) (fun c9=>?_)
 ·refine ⟨by decide,fun p2 hp2=>?_⟩
  have s2:=bK.new hp2 [D.str "quarter",.str "half"]
  refine ⟨L,_,s2 _ _ hL1,e2,?_⟩
  decreasing_tactic
  refine ⟨by decide,?_⟩
  have fin:∀ x,x ∈ [D.tup [.int 0,.int 1]]->Nm x:=fun x hx=>List.mem_singleton.mp hx ▸ .ii (by unfold Bd;decide) (by unfold Bd;decide)
  rcases aBC z2 with e | e
  ·rw [e]
   exact ⟨_,_,aL,rfl,by decide,by decide,aV (q _ _ (.of (xs:=[D.tup [.int 0,.int 1]]) (.inl ⟨_,rfl⟩) (by decide) fin) s2)⟩
  ·rw [e]
   exact ⟨_,_,aL,rfl,by decide,by decide,aV (q _ _ (.of (xs:=[D.tup [.int 0,.int 1]]) (.inl ⟨_,rfl⟩) (by decide) fin) s2)⟩
 refine ⟨fun ρ M'=>M' = M1/\ρ = [some (.tup (.str k :: xs)),some (.ref a),some (.int (z0.fmod 12)),some (.int t),some (.ref p)],?_,?_⟩
 ·rw [bE]
  refine dif (fun c=>?_) (fun c=>⟨rfl,rfl⟩)
  rw [nV]
  decreasing_tactic
  rw [bD]
  refine dif (fun ck=>?_) (fun ck=>⟨rfl,rfl⟩)
  obtain ⟨xb,xc,xd,xe,rfl,bd⟩:=ha ck
  rw [ck] at hk ⊢
  decreasing_tactic
  refine ⟨L,_,hL1,e2,?_⟩
  decreasing_tactic
  refine ⟨by decide,by decide,?_⟩
  obtain ⟨f1,f2⟩:=fm (z:=z2) (show (0:Int) < 7 by decide)
  generalize z2.fmod 7 = y at f1 f2 ⊢
  obtain ⟨r,er⟩:=sK (d:=.tup [.int 1,.int (1 + y)]) (by show (decide (1<=1 + y) && decide (Int.gcd 1 (1 + y) = 1)) = true;rw [decide_eq_true (show 1<=1 + y by omega),Int.gcd_one_left];rfl)
  have br:BQ 3 r:=by
   have e0:D.tup [.int 1,.int (1 + y)] = D.tup [.int r.num,.int (r.den:Int)]:=er
   injection e0 with e0
   injection e0 with e1 e2
   injection e2 with e2 _
   injection e1 with e1
   injection e2 with e2
   unfold BQ Bd
   rw [<- e1,<- e2]
   exact ⟨by decide,by show (1 + y).natAbs < 8;omega⟩
  rw [er]
  refine oI bd br (by decide) ⟨by decide,Nat.le_of_ble_eq_true rfl,Nat.le_of_ble_eq_true rfl,aV (q _ _ (.of (xs:=[FQ xb,FQ xc,FQ (xd + r),FQ xe]) (.inl hk) (Nat.le_of_ble_eq_true rfl) fun x hx=>?_) (.refl _))⟩
  simp only [List.mem_cons,List.not_mem_nil,or_false] at hx
  rcases hx with rfl | rfl | rfl | rfl
  ·exact ns.2 _ (by simp)
  ·exact ns.2 _ (by simp)
  ·exact .fq ((bd.add br).mono (by decide))
  ·exact ns.2 _ (by simp)
 rintro ρ M2 ⟨rfl,rfl⟩
 decreasing_tactic
 rw [bE]
 refine dif (fun c=>?_) (fun c10=>?_)
 ·refine ⟨by decide,by decide,by decide,by decide,by decide,by decide,by decide,by decide,by decide,by decide,fun p2 hp2=>?_⟩
  have s2:=bK.new hp2 [D.tup [D.tup [.int 0,.int 1],D.tup [.int 0,.int 1]],D.tup [D.tup [.int 1,.int 1],D.tup [.int 0,.int 1]]]
  refine ⟨L,_,s2 _ _ hL1,e2,?_⟩
  decreasing_tactic
  refine ⟨by decide,?_⟩
  have z01:Nm (D.tup [.int 0,.int 1]):=.ii (by unfold Bd;decide) (by unfold Bd;decide)
  have z11:Nm (D.tup [.int 1,.int 1]):=.ii (by unfold Bd;decide) (by unfold Bd;decide)
  rcases aBC z2 with e | e
  ·rw [e]
   refine ⟨_,_,aL,rfl,by decide,aV (q _ _ (.of (xs:=[D.tup [.int 0,.int 1],D.tup [.int 0,.int 1],D.tup [.int 0,.int 1],D.tup [.int 0,.int 1]]) (.inl ⟨_,rfl⟩) (by decide) fun x hx=>?_) s2)⟩
   simp only [List.mem_cons,List.not_mem_nil,or_false] at hx
   rcases hx with rfl | rfl | rfl | rfl<;>exact z01
  ·rw [e]
   refine ⟨_,_,aL,rfl,by decide,aV (q _ _ (.of (xs:=[D.tup [.int 0,.int 1],D.tup [.int 0,.int 1],D.tup [.int 1,.int 1],D.tup [.int 0,.int 1]]) (.inl ⟨_,rfl⟩) (by decide) fun x hx=>?_) s2)⟩
   simp only [List.mem_cons,List.not_mem_nil,or_false] at hx
   rcases hx with rfl | rfl | rfl | rfl<;>first | exact z01 | exact z11
 obtain ⟨d,ed,hd⟩:=vY z2
 refine ⟨by decide,by decide,by decide,by decide,by decide,by decide,by decide,by decide,fun p2 hp2=>?_⟩
 have s2:=bK.new hp2 aDf
 refine ⟨L,_,s2 _ _ hL1,e2,?_⟩
 decreasing_tactic
 exact ⟨by decide,_,_,aL,ed,aV (q _ _ hd s2)⟩
theorem qV:∀ (n:Nat) (d:D) (m:Nat),n<=m->aZ n d = true->aZ m d = true
 | 0,.tup _,_,_,h=>by cases h
 | n + 1,.tup ds,m,l,h=>by
  obtain ⟨m',rfl⟩:∃ m',m = m' + 1:=⟨m - 1,by omega⟩
  have h:ds.all (aZ n) = true:=h
  show ds.all (aZ m') = true
  rw [List.all_eq_true] at h ⊢
  exact fun x hx=>qV n x m' (by omega) (h x hx)
 | n,.ref _,_,_,h=>by cases n<;>cases h
 | n,.fz _,_,_,h=>by cases n<;>cases h
 | _,.int _,m,_,_=>by cases m<;>rfl
 | _,.bl _,m,_,_=>by cases m<;>rfl
 | _,.str _,m,_,_=>by cases m<;>rfl
 | _,.non,m,_,_=>by cases m<;>rfl
theorem aAE:cP (.tup [.str "left"])/\cX (.tup [.str "left"]) true:=⟨.of (xs:=[]) (.inl ⟨0,rfl⟩) (by decide) (fun x hx=>by cases hx),.inr ⟨_,[],rfl,.inr ⟨0,rfl,.inr (.inr ⟨[],rfl,rfl,by decide⟩)⟩⟩⟩
theorem p59 {d:D} (h:cP d) (ys:List D) (hy:ys.all (aZ 50) = true):aZ 59 (.tup (ys ++ [d])) = true:=by
 show (ys ++ [d]).all (aZ 58) = true
 rw [List.all_append,List.all_cons,List.all_nil,Bool.and_true,Bool.and_eq_true]
 refine ⟨List.all_eq_true.mpr fun x hx=>qV 50 x 58 (by decide) (List.all_eq_true.mp hy x hx),qV 50 d 58 (by decide) h.2.1⟩
theorem uJ:∀ {L:List D},(∀ d ∈ L,∃ c,d = .int c)->∃ cs:List Int,L = cs.map D.int
 | [],_=>⟨[],rfl⟩
 | d :: L,h=>by
  obtain ⟨c,rfl⟩:=h d (List.mem_cons_self ..)
  obtain ⟨cs,e⟩:=uJ fun x hx=>h x (List.mem_cons_of_mem _ hx)
  exact ⟨c :: cs,by rw [e];rfl⟩
theorem aCW (ns:List Int) (lo hi:Option Int):∃ cs:List Int,Dd.cutD (ns.map D.int) lo hi = cs.map D.int/\cs.length<=ns.length:=by
 obtain ⟨cs,e⟩:=uJ (L:=Dd.cutD (ns.map D.int) lo hi) fun d hd=>by
  obtain ⟨c,_,e⟩:=List.mem_map.mp (aCf hd)
  exact ⟨c,e.symm⟩
 have l:(Dd.cutD (ns.map D.int) lo hi).length<=ns.length:=by
  unfold Dd.cutD
  rw [List.length_take,List.length_drop,List.length_map]
  omega
 rw [e,List.length_map] at l
 exact ⟨cs,e,l⟩
noncomputable def sp_law:DSp:=fun ds M Q=>∃ ns:List Int,ds = [.fz (ns.map D.int)]/\ns.length<=63/\∀ M',Q (.bl true) M'
noncomputable abbrev mG:Stmt:=top 84
theorem nM:aT ["_law_script","_law_cell","_law_numbers","_law_row_here","_law_good"] ["_law_script"] (aJ mG):=⟨rfl,rfl,rfl,by decide +kernel,rfl,by decide +kernel,by decide +kernel⟩
theorem aB6 {f0:Addr} {fd0:FuncData} (hF:L2.Fun K "law" "law" mG f0 fd0) (iO:mg "int" = none) (nR:Has P w K mg base 101 "_law_row" ["_law_cell","_law_many"] qF) (jT:Has P w K mg base 104 "_law_plain" ["_law_row_here"] mC) (lN:Has P w K mg base 103 "_law_bent" ["_law_row_here","_law_numbers"] nX) (jJ:Has P w K mg base 104 "_law_is_row" ["_law_row_here"] lG) (gP:Has P w K mg base 130 "_law_told" ["_law_rows"] nY) :
  jD P w K mg base CX0 151 f0 fd0 ["_law_script"] (oF K sp_law):=by
 refine Fun.okZ hF nM (fun ds M Q ⟨ns,e,_⟩=>by rw [e];rfl) fun cdv A outer s H ds M Q E hr h=>?_
 obtain ⟨ns,rfl,hl,fin⟩:=h
 refine ⟨_,(eX (aAw PassesOwn.never rfl (aI cO (kQ (aB 0) dI (bX aC)) (cB (aA aC aD))) (bR (i:=1) nM.nd) (aF (aY (i:=2) nM.nd (aG nR hr (by decide) (aA (aB 1) (aA aC aD))))
  (aF (aY (i:=3) nM.nd (aG jT hr (by decide) (aA (kQ (aB 2) dI (bX aC)) aD)))
  (eX (bA (aS rR (aI bZ (aH (aB 2) aC) aC) aC) (aE (aY (i:=3) nM.nd (aG lN hr (by decide) (aA (aB 3) (aA (kQ (aB 2) (bX aC) dI) aD))))) aR)
  (aF (aY (i:=4) nM.nd (aG jJ hr (by decide) (aA (aB 3) aD)))
  (aF (bA (aS (jP hr) (aG gP hr (by decide) (aA (aK (aA (aB 3) aD)) aD)) (aH (cB (aA aC (aA (cB (aA (aK (aA (aB 3) aD)) aD)) aD))) (lR vP iO (aA (aB 4) aD)))) (aE (aN eD)) aR)
  (aE (bA (aS (jP hr) (aG gP hr (by decide) (aA (aK (aA (aK (aA aM aD)) (aA (aB 3) aD))) aD)) (aH (cB (aA aC (aA (cB (aA (aK (aA (aK (aA aM aD)) (aA (aB 3) aD))) aD)) aD))) (lR vP iO (aA (aB 4) aD)))) (aE (aN eD)) aR))))))))
  (aE (aN (cK (cE hr) (aG gP hr (by decide) (aA (aK aD) aD)) (cB (aA (aK aD) aD)))))),?_⟩
 decreasing_tactic
 refine ⟨fun ρ M'=>True,?_,?_⟩
 ·intro p1 hp1
  obtain ⟨cs,ec,lc⟩:=aCW ns none (some 50)
  rw [ec]
  rw [ec] at *
  refine ⟨by decide,fun p2 hp2=>?_⟩
  obtain ⟨n21,_⟩:=jU hp2
  refine ⟨_,_,(bK.new hp2 _) _ _ aL,aL,by rw [List.length_map];show _ + 1<=1000;omega,fun p3 hp3=>⟨_,aL,?_⟩⟩
  generalize eM:cW (cW (cW M p1 _) p2 _) p3 _ = M4
  have hh:M4 p3 = some (cs.map D.int ++ [D.int 0]):=by rw [<- eM];exact aL
  have isI:∀ d ∈ cs.map D.int ++ [D.int 0],∃ c,d = .int c:=fun d hd=>by
   simp only [List.mem_append,List.mem_map,List.mem_cons,List.not_mem_nil,or_false] at hd
   rcases hd with ⟨c,_,rfl⟩ | rfl<;>exact ⟨_,rfl⟩
  generalize cs.map D.int ++ [D.int 0] = Lc at hh isI ⊢
  clear eM hp1 hp2 hp3 n21 ec lc
  refine ⟨fun i ρ M'=>bK M4 M'/\∃ o1 o2 o3 o4,ρ = [some (.fz (ns.map D.int)),o1,o2,o3,o4],⟨.refl _,_,_,_,_,rfl⟩,fun i ρ M' _ h a e=>by cases e;exact h.1 _ _ hh,?_,fun _ _ _=>trivial⟩
  rintro i d ρ M5 hd ⟨sb,o1,o2,o3,o4,rfl⟩
  obtain ⟨c,rfl⟩:=isI d (List.mem_of_getElem? hd)
  decreasing_tactic
  refine ⟨c,14,rfl,by decide,by decide,fun pn Ln hpn hLn=>?_⟩
  have hLn:gX 14 Ln:=hLn
  have hn:cW M5 pn Ln pn = some Ln:=aL
  have sn:=sb.trans (bK.new hpn Ln)
  generalize cW M5 pn Ln = M6 at hn sn ⊢
  clear sb hpn
  decreasing_tactic
  refine ⟨Ln,hn,fun p4 hp4=>?_⟩
  have s4:=bK.new hp4 (Dd.cutD Ln none (some 8))
  refine ⟨p4,8,_,rfl,aL,wT hLn 0 8 (by decide) (by decide),by decide,fun p pb _=>?_⟩
  have hn:=s4 _ _ hn
  have sn:=sn.trans s4
  generalize cW M6 p4 _ = M7 at hn sn ⊢
  clear s4 hp4
  rw [aEB]
  have np:=aFY pb
  have pa:wd p = "arc"->∃ b c d e:Rat,(nu p).map FQ = [FQ b,FQ c,FQ d,FQ e]/\BQ 100 d:=fun e=>by
   cases p with
   | arc a b c d=>exact ⟨a,b,c,d,rfl,aGm pb c (by simp [nu])⟩
   | _=>cases e
  have r0:cP (.tup (.str (wd p) :: (nu p).map FQ)):=.of (.inl (aAR p)) (by have:=np.1;omega) np.2
  obtain ⟨z8,e8,_⟩:=hLn.at (i:=8) (by decide)
  decreasing_tactic
  refine ⟨fun ρ M'=>bK M7 M'/\∃ d,cP d/\ρ = [some (.fz (ns.map D.int)),some (.int c),some (.ref pn),some d,o4],⟨Ln,_,hn,e8,?_⟩,?_⟩
  ·decreasing_tactic
   refine ⟨by decide,?_⟩
   by_cases c0:0 < z8.fmod 4
   ·exact ifT (decide_eq_true c0) ⟨Ln,hn,fun p5 hp5=>⟨_,_,p5,_,rfl,aAR p,np,pa,aL,aBr hLn 9 (by decide),fun d M' rd sub=>⟨(bK.new hp5 _).trans sub,d,rd,rfl⟩⟩⟩
   ·exact ifF (decide_eq_false c0) ⟨.refl _,_,r0,rfl⟩
  clear r0 pa np pb
  rintro ρ M8 ⟨s8,d,rd,rfl⟩
  obtain ⟨b,hb⟩:=zW rd
  have s8:=sn.trans s8
  clear sn hn
  decreasing_tactic
  refine ⟨d,b,rfl,rd,hb,fun M9 s9=>?_⟩
  have s9:=s8.trans s9
  clear s8
  decreasing_tactic
  refine ⟨by decide,[d],rfl,Nat.le_of_ble_eq_true rfl,?_⟩
  cases b with
  | true =>
   have one:∀ x ∈ [d],cP x/\cX x true:=fun x hx=>List.mem_singleton.mp hx ▸ ⟨rd,hb⟩
   have two:∀ x ∈ [.tup [.str "left"],d],cP x/\cX x true:=fun x hx=>by
    rcases List.mem_cons.mp hx with rfl | hx
    ·exact aAE
    ·exact one x hx
   refine .inl ⟨one,fun pt hpt=>?_⟩
   decreasing_tactic
   refine ⟨by decide,by decide,fun p hp=>⟨by decide,fun p' hp'=>⟨_,_,aL,rfl,?_⟩⟩⟩
   obtain ⟨n1,hp1⟩:=jU hp
   have s1:=bK.new hp [D.tup [d]]
   have s2:=bK.new hp' [D.int 0,.ref p]
   refine qP (s2 _ _ (s1 _ _ aL)) (s2 _ _ aL) (Ne.symm n1) rfl (by rw [List.all_cons,List.all_nil,Bool.and_true];exact p59 rd [] rfl) (ifF rfl ?_)
   have s9:=s9.trans ((bK.new hpt [D.tup [d]]).trans (s1.trans s2))
   generalize cW (cW (cW M9 pt _) p _) p' _ = Mx at s9 ⊢
   clear hp hp' n1 hp1 s1 s2 hpt
   refine ⟨by decide,by decide,[.tup [.str "left"],d],rfl,Nat.le_of_ble_eq_true rfl,.inl ⟨two,fun pt hpt=>?_⟩⟩
   decreasing_tactic
   refine ⟨by decide,by decide,by decide,fun p hp=>⟨by decide,fun p' hp'=>⟨_,_,aL,rfl,?_⟩⟩⟩
   obtain ⟨n1,hp1⟩:=jU hp
   have s1:=bK.new hp [D.tup [.tup [.str "left"],d]]
   have s2:=bK.new hp' [D.int 1,.ref p]
   exact qP (s2 _ _ (s1 _ _ aL)) (s2 _ _ aL) (Ne.symm n1) rfl (by rw [List.all_cons,List.all_nil,Bool.and_true];exact p59 rd [.tup [.str "left"]] rfl) (ifF rfl ⟨s9.trans ((bK.new hpt _).trans (s1.trans s2)),_,_,_,_,rfl⟩)
  | false =>
   refine .inr ⟨[],d,rfl,(fun x hx=>by cases hx),rd,hb,?_⟩
   decreasing_tactic
   refine ⟨by decide,by decide,fun p hp=>⟨by decide,fun p' hp'=>⟨_,_,aL,rfl,?_⟩⟩⟩
   rw [bE]
   refine ifF (by decide) ?_
   have s9:=s9.trans ((bK.new hp [D.tup [d]]).trans (bK.new hp' [D.int 0,.ref p]))
   generalize cW (cW M9 p _) p' _ = Mx at s9 ⊢
   clear hp hp'
   refine ⟨by decide,by decide,[.tup [.str "left"],d],rfl,Nat.le_of_ble_eq_true rfl,.inr ⟨[.tup [.str "left"]],d,rfl,(fun x hx=>List.mem_singleton.mp hx ▸ aAE),rd,hb,?_⟩⟩
   decreasing_tactic
   refine ⟨by decide,by decide,by decide,fun p hp=>⟨by decide,fun p' hp'=>⟨_,_,aL,rfl,?_⟩⟩⟩
   rw [bE]
   exact ifF (by decide) ⟨s9.trans ((bK.new hp _).trans (bK.new hp' _)),_,_,_,_,rfl⟩
 ·intro ρ M' _
  decreasing_tactic
  refine ⟨by decide,[],rfl,by decide,.inl ⟨(fun x hx=>by cases hx),fun pt hpt=>?_⟩⟩
  decreasing_tactic
  refine ⟨by decide,by decide,fun p hp=>?_⟩
  obtain ⟨n1,hp1⟩:=jU hp
  exact qP ((bK.new hp _) _ _ aL) aL (Ne.symm n1) rfl rfl (aV (fin _))
theorem law_here (ns:List Int) (hl:ns.length<=63) (M:DM):sp_law [.fz (ns.map D.int)] M fun d _=>d = .bl true:=⟨ns,rfl,hl,fun _=>rfl⟩
end
noncomputable def aD8:Stmt->Stmt
 | .ClassDef _ _ _ body _ _ _ _ _ _ _=>body.getD 0 (.Pass ⟨0,0,0,0⟩)
 | s=>s
noncomputable abbrev mL:Stmt:=aD8 (top 6)
theorem qZ:aT ["self","row"] ["self","row"] (aJ mL):=⟨rfl,rfl,rfl,by decide +kernel,rfl,by decide +kernel,by decide +kernel⟩
theorem all_mk {l:PySem.W.OpenLaw} {w:World} {K:PySem.W.Frag} {h:Heap} {mg:Str->Option Value} {fa f0 f1 f2 f3 f4 f5 f6 f7 f8 f9 f10 f11 f12 f13 f14 f15 f16 f17 f18 f19 f20 f21 f22 f23 f24 f25 f26 f27 f28 f29 f30 f31 f32 f33:Addr} (X:K.In h) (G:h.Ns mainGlobals mg) (hfa:mg "law" = some (.ref fa))
  {od33 an33:Option Addr} {sl33:Array (Option Value)} {oc33 kV33 dc33 pm33 cd33 ct33:Value}
  (b0:FK K "greatest_divisor" f0 eJ)
  (b1:FK K "on_one_bottom" f1 fU)
  (b2:FK K "sign" f2 wJ)
  (b3:FK K "scaled_far" f3 jL)
  (b4:FK K "farther" f4 nN)
  (b5:FK K "_law_ratio" f5 kA)
  (b6:FK K "_law_plus" f6 lP)
  (b7:FK K "_law_times" f7 kM)
  (b8:FK K "_law_drawn" f8 kD)
  (b9:FK K "_law_row" f9 mV)
  (b10:FK K "_law_bow" f10 nA)
  (b11:FK K "_law_plain" f11 kC)
  (b12:FK K "is_whole" f12 lT)
  (b13:FK K "is_reduced" f13 iX)
  (b14:FK K "is_fraction" f14 hZ)
  (b15:FK K "numbers_behind" f15 fD)
  (b16:FK K "is_worded" f16 jS)
  (b17:FK K "may_grow" f17 lU)
  (b18:FK K "is_bend" f18 nJ)
  (b19:FK K "is_plain_row" f19 eU)
  (b20:FK K "_law_is_number" f20 fX)
  (b21:FK K "_law_far" f21 nW)
  (b22:FK K "_law_is_row" f22 gE)
  (b23:FK K "is_block" f23 mB)
  (b24:FK K "rows_within" f24 iC)
  (b25:FK K "how_many_rows" f25 fW)
  (b26:FK K "not_too_long" f26 gJ)
  (b27:FK K "has_room" f27 lY)
  (b28:FK K "can_go_on" f28 jV)
  (b29:FK K "look_at_rows" f29 eT)
  (b30:FK K "program_of" f30 gA)
  (b31:FK K "_law_told" f31 lK)
  (b32:FK K "_law_bent" f32 lW)
  (a33:PySem.W.nsIn K mainGlobals "law" = some (some (.ref f33))) (l33:K.lookup f33 = some ⟨oc33,od33,.func (PySem.W.fnOf "law" "law" (jG mG) (dO mG) (aJ mG) .none kV33 dc33 pm33 an33 cd33 ct33),sl33⟩) (c33:PySem.W.codeIn K cd33 "law" = true) (k33:PySem.W.keepIn K (.ref f33) = true)
  (z_ValueError:PySem.W.nsIn K mainGlobals "ValueError" = some none)
  (z_abs:PySem.W.nsIn K mainGlobals "abs" = some none)
  (z_all:PySem.W.nsIn K mainGlobals "all" = some none)
  (z_bool:PySem.W.nsIn K mainGlobals "bool" = some none)
  (z_int:PySem.W.nsIn K mainGlobals "int" = some none)
  (z_isinstance:PySem.W.nsIn K mainGlobals "isinstance" = some none)
  (z_len:PySem.W.nsIn K mainGlobals "len" = some none)
  (z_max:PySem.W.nsIn K mainGlobals "max" = some none)
  (z_min:PySem.W.nsIn K mainGlobals "min" = some none)
  (z_range:PySem.W.nsIn K mainGlobals "range" = some none)
  (z_str:PySem.W.nsIn K mainGlobals "str" = some none)
  (z_tuple:PySem.W.nsIn K mainGlobals "tuple" = some none)
  {GNUMBERS:Addr} {esGNUMBERS:Array DictEntry} {epGNUMBERS:Nat} (at_NUMBERS:PySem.W.nsIn K mainGlobals "NUMBERS" = some (some (.ref GNUMBERS))) (am_NUMBERS:(GNUMBERS == sysModules) = false) (lt_NUMBERS:K.lookup GNUMBERS = some ⟨.type "dict",none,.dict esGNUMBERS epGNUMBERS,#[]⟩) (kt_NUMBERS:PySem.W.KeysLit w.params esGNUMBERS.toList)
  {tk_NUMBERS_go:Tok} (et_NUMBERS_go:PySem.W.nsIn K GNUMBERS "go" = some (some (.int 1 tk_NUMBERS_go)))
  {tk_NUMBERS_skip:Tok} (et_NUMBERS_skip:PySem.W.nsIn K GNUMBERS "skip" = some (some (.int 1 tk_NUMBERS_skip)))
  {tk_NUMBERS_side:Tok} (et_NUMBERS_side:PySem.W.nsIn K GNUMBERS "side" = some (some (.int 2 tk_NUMBERS_side)))
  {tk_NUMBERS_dot:Tok} (et_NUMBERS_dot:PySem.W.nsIn K GNUMBERS "dot" = some (some (.int 0 tk_NUMBERS_dot)))
  {tk_NUMBERS_left:Tok} (et_NUMBERS_left:PySem.W.nsIn K GNUMBERS "left" = some (some (.int 0 tk_NUMBERS_left)))
  {tk_NUMBERS_right:Tok} (et_NUMBERS_right:PySem.W.nsIn K GNUMBERS "right" = some (some (.int 0 tk_NUMBERS_right)))
  {tk_NUMBERS_round:Tok} (et_NUMBERS_round:PySem.W.nsIn K GNUMBERS "round" = some (some (.int 0 tk_NUMBERS_round)))
  {tk_NUMBERS_mirror:Tok} (et_NUMBERS_mirror:PySem.W.nsIn K GNUMBERS "mirror" = some (some (.int 0 tk_NUMBERS_mirror)))
  {tk_NUMBERS_grow:Tok} (et_NUMBERS_grow:PySem.W.nsIn K GNUMBERS "grow" = some (some (.int 1 tk_NUMBERS_grow)))
  {tk_NUMBERS_quarter:Tok} (et_NUMBERS_quarter:PySem.W.nsIn K GNUMBERS "quarter" = some (some (.int 1 tk_NUMBERS_quarter)))
  {tk_NUMBERS_half:Tok} (et_NUMBERS_half:PySem.W.nsIn K GNUMBERS "half" = some (some (.int 1 tk_NUMBERS_half)))
  {tk_NUMBERS_arc:Tok} (et_NUMBERS_arc:PySem.W.nsIn K GNUMBERS "arc" = some (some (.int 4 tk_NUMBERS_arc)))
  (en_NUMBERS_0:PySem.W.nsIn K GNUMBERS "" = some none)
  (en_NUMBERS_1:PySem.W.nsIn K GNUMBERS "Go" = some none)
  (en_NUMBERS_2:PySem.W.nsIn K GNUMBERS "go " = some none)
  (en_NUMBERS_3:PySem.W.nsIn K GNUMBERS "forth" = some none)
  (en_NUMBERS_4:PySem.W.nsIn K GNUMBERS "end" = some none)
  (en_NUMBERS_5:PySem.W.nsIn K GNUMBERS "line" = some none)
  {GMIDDLE:Addr} {odGMIDDLE:Option Addr} {nGMIDDLE:Nat} {slGMIDDLE:Array (Option Value)}
  {GMIDDLE_0:Addr} {odGMIDDLE_0:Option Addr} {nGMIDDLE_0:Nat} {slGMIDDLE_0:Array (Option Value)} {tGMIDDLE_0_0:Tok} {tGMIDDLE_0_1:Tok}
  {GMIDDLE_1:Addr} {odGMIDDLE_1:Option Addr} {nGMIDDLE_1:Nat} {slGMIDDLE_1:Array (Option Value)} {tGMIDDLE_1_0:Tok} {tGMIDDLE_1_1:Tok}
  (ag_MIDDLE:PySem.W.nsIn K mainGlobals "MIDDLE" = some (some (.ref GMIDDLE)))
  (lGMIDDLE:K.lookup GMIDDLE = some ⟨.type "tuple",odGMIDDLE,.seq #[.ref GMIDDLE_0,.ref GMIDDLE_1] nGMIDDLE,slGMIDDLE⟩)
  (lGMIDDLE_0:K.lookup GMIDDLE_0 = some ⟨.type "tuple",odGMIDDLE_0,.seq #[.int 0 tGMIDDLE_0_0,.int 1 tGMIDDLE_0_1] nGMIDDLE_0,slGMIDDLE_0⟩)
  (lGMIDDLE_1:K.lookup GMIDDLE_1 = some ⟨.type "tuple",odGMIDDLE_1,.seq #[.int 0 tGMIDDLE_1_0,.int 1 tGMIDDLE_1_1] nGMIDDLE_1,slGMIDDLE_1⟩)
  {tGMOST_AGAIN:Tok} (ag_MOST_AGAIN:PySem.W.nsIn K mainGlobals "MOST_AGAIN" = some (some (.int 12 tGMOST_AGAIN)))
  {tGMOST_IN_GROW:Tok} (ag_MOST_IN_GROW:PySem.W.nsIn K mainGlobals "MOST_IN_GROW" = some (some (.int 12 tGMOST_IN_GROW)))
  {tGMOST_ROWS:Tok} (ag_MOST_ROWS:PySem.W.nsIn K mainGlobals "MOST_ROWS" = some (some (.int 60 tGMOST_ROWS)))
  {GONE:Addr} {odGONE:Option Addr} {nGONE:Nat} {slGONE:Array (Option Value)} {tGONE_0:Tok} {tGONE_1:Tok}
  (ag_ONE:PySem.W.nsIn K mainGlobals "ONE" = some (some (.ref GONE)))
  (lGONE:K.lookup GONE = some ⟨.type "tuple",odGONE,.seq #[.int 1 tGONE_0,.int 1 tGONE_1] nGONE,slGONE⟩)
  {C_NoRow:Addr}
  (ac_NoRow:PySem.W.nsIn K mainGlobals "NoRow" = some (some (.ref C_NoRow))) (kc_NoRow:PySem.W.keepIn K (.ref C_NoRow) = true)
  (ob_NoRow:∃ M nm qn N bs hdct sn sub ab col dd k0 k1 k2 k3 k5,K.lookup C_NoRow = some (excClassObj nm qn C_NoRow N bs (.ref M :: bmV) hdct sn sub ab col dd k0 k1 k2 k3 k5 "ValueError.__new__")/\PySem.W.excIn K M bmV "ValueError.__new__" = true/\∃ cdM,PySem.W.clsIn K M = some cdM/\cdM.mro = .ref M :: bmV)
  (in_NoRow:∃ fI fd,PySem.W.findIn K (.ref C_NoRow) "__init__" = some (some (.ref fI))/\PySem.W.typeIn K (.ref fI) = some (.type "function")/\L2.Fun K "__init__" "NoRow.__init__" mL fI fd)
  (fa_NoRow:PySem.W.findIn K (.ref C_NoRow) "__setattr__" = some (some (.builtin "object.__setattr__"))) (fc_NoRow:∃ cd,PySem.W.clsIn K C_NoRow = some cd/\aCO cd.mro = true/\cd.hasDict = true) (fm_NoRow:PySem.W.mroIn K C_NoRow (.type "object") = some true) (fn_NoRow:PySem.W.findIn K (.ref C_NoRow) "row" = some none)
  {C_MillError C_NoKin C_NoNumber C_NoPiece C_NoText C_TooMuch:Addr}
  (ac_NoKin:PySem.W.nsIn K mainGlobals "NoKin" = some (some (.ref C_NoKin)))
  (ac_NoNumber:PySem.W.nsIn K mainGlobals "NoNumber" = some (some (.ref C_NoNumber)))
  (ac_NoPiece:PySem.W.nsIn K mainGlobals "NoPiece" = some (some (.ref C_NoPiece)))
  (ac_NoText:PySem.W.nsIn K mainGlobals "NoText" = some (some (.ref C_NoText)))
  (ac_TooMuch:PySem.W.nsIn K mainGlobals "TooMuch" = some (some (.ref C_TooMuch)))
  (ac_MillError:PySem.W.nsIn K mainGlobals "MillError" = some (some (.ref C_MillError))) (xc_MillError:PySem.W.excIn K C_MillError bmV "ValueError.__new__" = true)
  (ex0_NoRow:PySem.W.findIn K (.ref C_NoRow) "__getattribute__" = some (some (.builtin "BaseException.__getattribute__")))
  (ex1_NoRow:PySem.W.findIn K (.ref C_NoRow) "__getattr__" = some none)
  (ex2_NoRow:PySem.W.findIn K (.ref C_NoRow) "__class__" = some (some (.builtin "object.__class__")))
  (ex3_NoRow:PySem.W.specialIn K (.builtin "object.__class__") "__get__" = some (some (.builtin "getset_descriptor.__get__")))
  (ex4_NoRow:PySem.W.takesIn K (.builtin "object.__class__") = some true)
  (ex5_NoRow:PySem.W.mroIn K C_NoRow (.type "object") = some true)
  (ex6_NoRow:PySem.W.mroIn K C_NoRow (.type "BaseException") = some true)
  (fP:PySem.W.exmOne K (.ref C_NoRow) (.ref C_MillError) = some true)
  (eS:PySem.W.kitOne K (.ref C_NoRow) (.type "ValueError") = some true)
  (kI:PySem.W.kitAny K (.ref C_NoRow) [.ref C_NoKin,.ref C_NoNumber,.ref C_NoPiece,.ref C_NoText,.ref C_TooMuch] = some false)
 :∃ fd:FuncData,(∀ (s:Shared) (v:Value),BindsTo s fd ⟨[v],[]⟩ [("_law_script",v)])/\∀ base:Heap,K.In base->base.Ns mainGlobals mg->jD l.prog w K mg base CX0 151 fa fd ["_law_script"] (oF K sp_law):=by
 have e:=hfa.symm.trans (PySem.W.mg_of X G a33)
 cases e
 have H0:=b0.has X G (ps:=["one","other"]) fun _ _ _ _ _ _ us hl=>by obtain ⟨_,_,rfl⟩:=us2 hl;rfl
 have H1:=b1.has X G (ps:=["p"]) fun _ _ _ _ _ _ us hl=>by obtain ⟨_,rfl⟩:=us1 hl;rfl
 have H2:=b2.has X G (ps:=["number"]) fun _ _ _ _ _ _ us hl=>by obtain ⟨_,rfl⟩:=us1 hl;rfl
 have H3:=b3.has X G (ps:=["c","p"]) fun _ _ _ _ _ _ us hl=>by obtain ⟨_,_,rfl⟩:=us2 hl;rfl
 have H4:=b4.has X G (ps:=["c","p","q"]) fun _ _ _ _ _ _ us hl=>by obtain ⟨_,_,_,rfl⟩:=us3 hl;rfl
 have H5:=b5.has X G (ps:=["_law_top","_law_bottom"]) fun _ _ _ _ _ _ us hl=>by obtain ⟨_,_,rfl⟩:=us2 hl;rfl
 have H6:=b6.has X G (ps:=["_law_one","_law_other"]) fun _ _ _ _ _ _ us hl=>by obtain ⟨_,_,rfl⟩:=us2 hl;rfl
 have H7:=b7.has X G (ps:=["_law_one","_law_other"]) fun _ _ _ _ _ _ us hl=>by obtain ⟨_,_,rfl⟩:=us2 hl;rfl
 have H8:=b8.has X G (ps:=["_law_one","_law_other"]) fun _ _ _ _ _ _ us hl=>by obtain ⟨_,_,rfl⟩:=us2 hl;rfl
 have H9:=b9.has X G (ps:=["_law_cell","_law_many"]) fun _ _ _ _ _ _ us hl=>by obtain ⟨_,_,rfl⟩:=us2 hl;rfl
 have H10:=b10.has X G (ps:=["_law_row_here"]) fun _ _ _ _ _ _ us hl=>by obtain ⟨_,rfl⟩:=us1 hl;rfl
 have H11:=b11.has X G (ps:=["_law_row_here"]) fun _ _ _ _ _ _ us hl=>by obtain ⟨_,rfl⟩:=us1 hl;rfl
 have H12:=b12.has X G (ps:=["thing"]) fun _ _ _ _ _ _ us hl=>by obtain ⟨_,rfl⟩:=us1 hl;rfl
 have H13:=b13.has X G (ps:=["top","bottom"]) fun _ _ _ _ _ _ us hl=>by obtain ⟨_,_,rfl⟩:=us2 hl;rfl
 have H14:=b14.has X G (ps:=["thing"]) fun _ _ _ _ _ _ us hl=>by obtain ⟨_,rfl⟩:=us1 hl;rfl
 have H15:=b15.has X G (ps:=["word"]) fun _ _ _ _ _ _ us hl=>by obtain ⟨_,rfl⟩:=us1 hl;rfl
 have H16:=b16.has X G (ps:=["thing"]) fun _ _ _ _ _ _ us hl=>by obtain ⟨_,rfl⟩:=us1 hl;rfl
 have H17:=b17.has X G (ps:=["number"]) fun _ _ _ _ _ _ us hl=>by obtain ⟨_,rfl⟩:=us1 hl;rfl
 have H18:=b18.has X G (ps:=["row"]) fun _ _ _ _ _ _ us hl=>by obtain ⟨_,rfl⟩:=us1 hl;rfl
 have H19:=b19.has X G (ps:=["thing"]) fun _ _ _ _ _ _ us hl=>by obtain ⟨_,rfl⟩:=us1 hl;rfl
 have H20:=b20.has X G (ps:=["_law_thing"]) fun _ _ _ _ _ _ us hl=>by obtain ⟨_,rfl⟩:=us1 hl;rfl
 have H21:=b21.has X G (ps:=["_law_p","_law_q"]) fun _ _ _ _ _ _ us hl=>by obtain ⟨_,_,rfl⟩:=us2 hl;rfl
 have H22:=b22.has X G (ps:=["_law_row_here"]) fun _ _ _ _ _ _ us hl=>by obtain ⟨_,rfl⟩:=us1 hl;rfl
 have H23:=b23.has X G (ps:=["thing"]) fun _ _ _ _ _ _ us hl=>by obtain ⟨_,rfl⟩:=us1 hl;rfl
 have H24:=b24.has X G (ps:=["row"]) fun _ _ _ _ _ _ us hl=>by obtain ⟨_,rfl⟩:=us1 hl;rfl
 have H25:=b25.has X G (ps:=["rows"]) fun _ _ _ _ _ _ us hl=>by obtain ⟨_,rfl⟩:=us1 hl;rfl
 have H26:=b26.has X G (ps:=["program"]) fun _ _ _ _ _ _ us hl=>by obtain ⟨_,rfl⟩:=us1 hl;rfl
 have H27:=b27.has X G (ps:=["block","around"]) fun _ _ _ _ _ _ us hl=>by obtain ⟨_,_,rfl⟩:=us2 hl;rfl
 have H28:=b28.has X G (ps:=["rows"]) fun _ _ _ _ _ _ us hl=>by obtain ⟨_,rfl⟩:=us1 hl;rfl
 have H29:=b29.has X G (ps:=["rows","number","around"]) fun _ _ _ _ _ _ us hl=>by obtain ⟨_,_,_,rfl⟩:=us3 hl;rfl
 have H30:=b30.has X G (ps:=["rows"]) fun _ _ _ _ _ _ us hl=>by obtain ⟨_,rfl⟩:=us1 hl;rfl
 have H31:=b31.has X G (ps:=["_law_rows"]) fun _ _ _ _ _ _ us hl=>by obtain ⟨_,rfl⟩:=us1 hl;rfl
 have H32:=b32.has X G (ps:=["_law_row_here","_law_numbers"]) fun _ _ _ _ _ _ us hl=>by obtain ⟨_,_,rfl⟩:=us2 hl;rfl
 have F33:=fun_mk (st:=mG) l33 c33 k33
 have iY:=PySem.W.mg_none_of X G z_ValueError
 have lD:=PySem.W.mg_none_of X G z_abs
 have sB:=PySem.W.mg_none_of X G z_all
 have iQ:=PySem.W.mg_none_of X G z_bool
 have iO:=PySem.W.mg_none_of X G z_int
 have aQ:=PySem.W.mg_none_of X G z_isinstance
 have dE:=PySem.W.mg_none_of X G z_len
 have aAF:=PySem.W.mg_none_of X G z_max
 have aAy:=PySem.W.mg_none_of X G z_min
 have jE:=PySem.W.mg_none_of X G z_range
 have sF:=PySem.W.mg_none_of X G z_str
 have dH:=PySem.W.mg_none_of X G z_tuple
 have nC:xM w K mg "NUMBERS" oV qE:=by
  refine ⟨_,_,_,PySem.W.mg_of X G at_NUMBERS,am_NUMBERS,lt_NUMBERS,kt_NUMBERS,?_,?_⟩
  ·intro k n e
   unfold oV at e
   by_cases c_go:k = "go"
   ·subst c_go;cases e;exact ⟨_,et_NUMBERS_go⟩
   by_cases c_skip:k = "skip"
   ·subst c_skip;cases e;exact ⟨_,et_NUMBERS_skip⟩
   by_cases c_side:k = "side"
   ·subst c_side;cases e;exact ⟨_,et_NUMBERS_side⟩
   by_cases c_dot:k = "dot"
   ·subst c_dot;cases e;exact ⟨_,et_NUMBERS_dot⟩
   by_cases c_left:k = "left"
   ·subst c_left;cases e;exact ⟨_,et_NUMBERS_left⟩
   by_cases c_right:k = "right"
   ·subst c_right;cases e;exact ⟨_,et_NUMBERS_right⟩
   by_cases c_round:k = "round"
   ·subst c_round;cases e;exact ⟨_,et_NUMBERS_round⟩
   by_cases c_mirror:k = "mirror"
   ·subst c_mirror;cases e;exact ⟨_,et_NUMBERS_mirror⟩
   by_cases c_grow:k = "grow"
   ·subst c_grow;cases e;exact ⟨_,et_NUMBERS_grow⟩
   by_cases c_quarter:k = "quarter"
   ·subst c_quarter;cases e;exact ⟨_,et_NUMBERS_quarter⟩
   by_cases c_half:k = "half"
   ·subst c_half;cases e;exact ⟨_,et_NUMBERS_half⟩
   by_cases c_arc:k = "arc"
   ·subst c_arc;cases e;exact ⟨_,et_NUMBERS_arc⟩
   simp only [List.lookup,beq_eq_false_iff_ne.mpr c_go,beq_eq_false_iff_ne.mpr c_skip,beq_eq_false_iff_ne.mpr c_side,beq_eq_false_iff_ne.mpr c_dot,beq_eq_false_iff_ne.mpr c_left,beq_eq_false_iff_ne.mpr c_right,beq_eq_false_iff_ne.mpr c_round,beq_eq_false_iff_ne.mpr c_mirror,beq_eq_false_iff_ne.mpr c_grow,beq_eq_false_iff_ne.mpr c_quarter,beq_eq_false_iff_ne.mpr c_half,beq_eq_false_iff_ne.mpr c_arc] at e;cases e
  ·intro k hk
   unfold qE at hk
   simp only [List.mem_cons,List.not_mem_nil,or_false] at hk
   rcases hk with rfl | rfl | rfl | rfl | rfl | rfl
   ·exact en_NUMBERS_0
   ·exact en_NUMBERS_1
   ·exact en_NUMBERS_2
   ·exact en_NUMBERS_3
   ·exact en_NUMBERS_4
   ·exact en_NUMBERS_5
 have f_NoRow:oR K C_NoRow "row":=⟨fa_NoRow,fc_NoRow,fm_NoRow,fn_NoRow⟩
 have tM:iB K mg "NoKin" (.ref C_NoKin):=⟨_,.ref C_NoKin,PySem.W.mg_of X G ac_NoKin,rfl,fun H=>eB⟩
 have lS:iB K mg "NoNumber" (.ref C_NoNumber):=⟨_,.ref C_NoNumber,PySem.W.mg_of X G ac_NoNumber,rfl,fun H=>eB⟩
 have nB:iB K mg "NoPiece" (.ref C_NoPiece):=⟨_,.ref C_NoPiece,PySem.W.mg_of X G ac_NoPiece,rfl,fun H=>eB⟩
 have pS:iB K mg "NoText" (.ref C_NoText):=⟨_,.ref C_NoText,PySem.W.mg_of X G ac_NoText,rfl,fun H=>eB⟩
 have nS:iB K mg "TooMuch" (.ref C_TooMuch):=⟨_,.ref C_TooMuch,PySem.W.mg_of X G ac_TooMuch,rfl,fun H=>eB⟩
 have kP:nE K C_NoRow:=⟨ex0_NoRow,ex1_NoRow,ex2_NoRow,ex3_NoRow,ex4_NoRow,ex5_NoRow,ex6_NoRow⟩
 have sO:PySem.W.kitOne K (.ref C_NoRow) (.ref C_NoRow) = some true:=aAv
 have kL:aC3 K mg "MillError" C_MillError:=⟨PySem.W.mg_of X G ac_MillError,xc_MillError⟩
 have mH:iB K mg "MIDDLE" aEk:=⟨_,.ref GMIDDLE,PySem.W.mg_of X G ag_MIDDLE,rfl,fun H=>(cN (xs:=[.ref GMIDDLE_0,.ref GMIDDLE_1]) (.inr ⟨_,_,_,lGMIDDLE,rfl,rfl,by show (2:Nat)<=sizeLine;decide,(.cons rfl (.cons rfl .nil))⟩) (cG (cN (xs:=[.int (0),.int (1)]) (.inr ⟨_,_,_,lGMIDDLE_0,rfl,rfl,by show (2:Nat)<=sizeLine;decide,(.cons ⟨_,rfl⟩ (.cons ⟨_,rfl⟩ .nil))⟩) (cG bL (cG bL dB))) (cG (cN (xs:=[.int (0),.int (1)]) (.inr ⟨_,_,_,lGMIDDLE_1,rfl,rfl,by show (2:Nat)<=sizeLine;decide,(.cons ⟨_,rfl⟩ (.cons ⟨_,rfl⟩ .nil))⟩) (cG bL (cG bL dB))) dB)))⟩
 have iR:iB K mg "MOST_AGAIN" (.int 12):=⟨_,.int 12,PySem.W.mg_of X G ag_MOST_AGAIN,⟨_,rfl⟩,fun H=>bL⟩
 have eV:iB K mg "MOST_IN_GROW" (.int 12):=⟨_,.int 12,PySem.W.mg_of X G ag_MOST_IN_GROW,⟨_,rfl⟩,fun H=>bL⟩
 have kJ:iB K mg "MOST_ROWS" (.int 60):=⟨_,.int 60,PySem.W.mg_of X G ag_MOST_ROWS,⟨_,rfl⟩,fun H=>bL⟩
 have g_ONE:iB K mg "ONE" aHz:=⟨_,.ref GONE,PySem.W.mg_of X G ag_ONE,rfl,fun H=>(cN (xs:=[.int (1),.int (1)]) (.inr ⟨_,_,_,lGONE,rfl,rfl,by show (2:Nat)<=sizeLine;decide,(.cons ⟨_,rfl⟩ (.cons ⟨_,rfl⟩ .nil))⟩) (cG bL (cG bL dB)))⟩
 refine ⟨PySem.W.fnOf "law" "law" (jG mG) (dO mG) (aJ mG) .none kV33 dc33 pm33 an33 cd33 ct33,fun s v=>.of_eq rfl,fun base _ _=>?_⟩
 have fJ:kZ l.prog w K mg base "NoRow" C_NoRow "row":=by
  obtain ⟨fI,fdI,i1,i2,FI⟩:=in_NoRow
  exact ⟨PySem.W.mg_of X G ac_NoRow,kc_NoRow,ob_NoRow,fI,fdI,"self","row",i1,i2,aBR FI qZ f_NoRow rfl (by first | exact Or.inl rfl | exact Or.inr (Or.inl rfl) | exact Or.inr (Or.inr rfl)) (by first | exact Or.inl rfl | exact Or.inr (Or.inl rfl) | exact Or.inr (Or.inr rfl)) (by decide) (by decide) (by decide) (by decide) (fun _=>rfl) 0,FI.binds (ps:=["self","row"]) fun _ _ _ _ _ _ us hl=>by obtain ⟨_,_,rfl⟩:=us2 hl;rfl⟩
 have eN:=kN (P:=l.prog) (w:=w) (base:=base) H0 lD
 have eG:=mK (P:=l.prog) (w:=w) (base:=base) H1
 have vW:=zZ (P:=l.prog) (w:=w) (base:=base) H2
 have gB:=qU (P:=l.prog) (w:=w) (base:=base) H3 eG
 have mY:=vF (P:=l.prog) (w:=w) (base:=base) H4 gB vW
 have bC:=rG (P:=l.prog) (w:=w) (base:=base) H5 lD
 have cA:=tI (P:=l.prog) (w:=w) (base:=base) H6 bC
 have bW:=rA (P:=l.prog) (w:=w) (base:=base) H7 bC
 have dF:=rD (P:=l.prog) (w:=w) (base:=base) H8 bC
 have nR:=uP (P:=l.prog) (w:=w) (base:=base) H9 lD jE
 have nP:=uL (P:=l.prog) (w:=w) (base:=base) H10 dF bC cA bW aAy
 have jT:=qX (P:=l.prog) (w:=w) (base:=base) H11 iO dF bC nP
 have eL:=sQ (P:=l.prog) (w:=w) (base:=base) H12 aQ iO iQ
 have iT:=qK (P:=l.prog) (w:=w) (base:=base) H13 eN
 have iA:=oO (P:=l.prog) (w:=w) (base:=base) H14 aQ dH dE eL iT
 have fF:=lZ (P:=l.prog) (w:=w) (base:=base) H15 nC
 have eP:=rB (P:=l.prog) (w:=w) (base:=base) H16 aQ dH sF dE
 have lQ:=sN (P:=l.prog) (w:=w) (base:=base) H17 eV
 have nU:=uV (P:=l.prog) (w:=w) (base:=base) H18 mH mY
 have cY:=mX (P:=l.prog) (w:=w) (base:=base) H19 dE sB eP fF iA lQ nU
 have fR:=mJ (P:=l.prog) (w:=w) (base:=base) H20 aQ dH iO iQ dE bC
 have kO:=uI (P:=l.prog) (w:=w) (base:=base) H21 cA bW
 have jJ:=pN (P:=l.prog) (w:=w) (base:=base) H22 aQ dH sF dE sB jE fR kO
 have fE:=tJ (P:=l.prog) (w:=w) (base:=base) H23 aQ dH dE iR eP eL
 have bY:=oW (P:=l.prog) (w:=w) (base:=base) H24
 have dL:=mS (P:=l.prog) (w:=w) (base:=base) H25 dE bY
 have dD:=nK (P:=l.prog) (w:=w) (base:=base) H26 kJ dL
 have fA:=sX (P:=l.prog) (w:=w) (base:=base) H27
 have eO:=rC (P:=l.prog) (w:=w) (base:=base) H28
 have bT:=nO (P:=l.prog) (w:=w) (base:=base) H29 fA eO bY cY fE
 have dW:=nQ (P:=l.prog) (w:=w) (base:=base) H29 fJ fA eO bY cY fE
 have jF:=qC (P:=l.prog) (w:=w) (base:=base) H30 bT dD
 have iU:=qM (P:=l.prog) (w:=w) (base:=base) H30 fJ dW bT dD
 have gP:=tE (P:=l.prog) (w:=w) (base:=base) H31 aQ iY iQ fJ kL tM lS nB pS nS kP f_NoRow fP sO eS kI jF iU
 have lN:=tX (P:=l.prog) (w:=w) (base:=base) H32 aAF dE cA
 exact aB6 (P:=l.prog) (w:=w) (base:=base) F33 iO nR jT lN jJ gP
end Lw
def PySem.W.Fast.tw9250767511364143360:Unit:=()
def PySem.W.Fast.tw18020261180486505152:Unit:=()
def PySem.W.Fast.tw9308000233156494112:Unit:=()
def PySem.W.Fast.tw11466211288219094145:Unit:=()
def PySem.W.Fast.tw16794727796318444229:Unit:=()
def PySem.W.Fast.tw8012100050623799751:Unit:=()
def PySem.W.Fast.tw2358033505817274504:Unit:=()
def PySem.W.Fast.tw1218167424124096968:Unit:=()
def PySem.W.Fast.tw16760382532291444393:Unit:=()
def PySem.W.Fast.tw13163002823459626347:Unit:=()
def PySem.W.Fast.tw10172698016518562316:Unit:=()
def PySem.W.Fast.tw8392571658036074959:Unit:=()
def PySem.W.Fast.tw8488224848650599023:Unit:=()
def PySem.W.Fast.tw10280593679086661776:Unit:=()
def PySem.W.Fast.tw10069233153142672880:Unit:=()
def PySem.W.Fast.tw9095611702119195120:Unit:=()
def PySem.W.Fast.tw11278449376158842865:Unit:=()
def PySem.W.Fast.tw7696412250428220658:Unit:=()
def PySem.W.Fast.tw5137675590809217907:Unit:=()
def PySem.W.Fast.tw14721621181476748179:Unit:=()
def PySem.W.Fast.tw3569783041794280085:Unit:=()
def PySem.W.Fast.tw15374977937736074551:Unit:=()
def PySem.W.Fast.tw155987997197251865:Unit:=()
def PySem.W.Fast.tw14875889051543944729:Unit:=()
def PySem.W.Fast.tw6486446184914575065:Unit:=()
def PySem.W.Fast.tw18026031095664185882:Unit:=()
def PySem.W.Fast.tw11507921050253967930:Unit:=()
def PySem.W.Fast.tw315571445757661820:Unit:=()
def PySem.W.Fast.tw14810067293703049084:Unit:=()
def PySem.W.Fast.tw11621237769074518045:Unit:=()
def PySem.W.Fast.tw11433312789305323807:Unit:=()
def PySem.W.Fast.tw3362389617904952487:Unit:=()
def PySem.W.Fast.tw18290807433584829307:Unit:=()
def PySem.W.Fast.tw2284016144802171814:Unit:=()
def PySem.W.Fast.tw365635204336105651:Unit:=()
def PySem.W.Fast.tw14565657333978894286:Unit:=()
def PySem.W.Fast.tw15571167903578149407:Unit:=()
def PySem.W.Fast.tw12119324964904608934:Unit:=()
def PySem.W.Fast.tw16947831110551531720:Unit:=()
def PySem.W.Fast.tw15292232663632257026:Unit:=()
def PySem.W.Fast.tw7075835025039610087:Unit:=()
def PySem.W.Fast.tw7673871645907995559:Unit:=()
def PySem.W.Fast.tw12219764287545643759:Unit:=()
def PySem.W.Fast.tw7601741748825444038:Unit:=()
def PySem.W.Fast.tw2292206954918901796:Unit:=()
def PySem.W.Fast.tw13053677162850588408:Unit:=()
def PySem.W.Fast.tw18369259461395572998:Unit:=()
def PySem.W.Fast.tw11049287184539059575:Unit:=()
def PySem.W.Fast.tw5587980688719801749:Unit:=()
def PySem.W.Fast.tw10773899806755872520:Unit:=()
def PySem.W.Fast.tw9535434263515733403:Unit:=()
def PySem.W.Fast.tw2171640324105917639:Unit:=()
def PySem.W.Fast.tw3258615657687426186:Unit:=()
def PySem.W.Fast.tw5407128016990694864:Unit:=()
def PySem.W.Fast.tw14310629696887784282:Unit:=()
def PySem.W.Fast.tw15095643475534291692:Unit:=()
def PySem.W.Fast.tw12919171015729279992:Unit:=()
def PySem.W.Fast.tw3130987316700974151:Unit:=()
def PySem.W.Fast.tw17932413239077223392:Unit:=()
def PySem.W.Fast.tw13049447031606031391:Unit:=()
def PySem.W.Fast.tw16090092279898113373:Unit:=()
def PySem.W.Fast.tw9310563648844042799:Unit:=()
def PySem.W.Fast.tw3954916173527831755:Unit:=()
def PySem.W.Fast.tw4008353086459498852:Unit:=()
def PySem.W.Fast.tw14255874418293861453:Unit:=()
def PySem.W.Fast.tw559859941964180562:Unit:=()
def PySem.W.Fast.tw13176367716885496156:Unit:=()
def PySem.W.Fast.tw1857575713488120464:Unit:=()
def PySem.W.Fast.tw10996932188405318546:Unit:=()
def PySem.W.Fast.tw10220464731009983410:Unit:=()
def PySem.W.Fast.tw11727127964612813044:Unit:=()
def PySem.W.Fast.tw5383087861968351709:Unit:=()
def PySem.W.Fast.tw13604045827737910801:Unit:=()
def PySem.W.Fast.tw1304413637457196828:Unit:=()
def PySem.W.Fast.tw4133498409476005127:Unit:=()
def PySem.W.Fast.tw16336872153658113807:Unit:=()
open PySem PySem.W PyProof.Rows
set_option maxRecDepth 100000 in
set_option maxHeartbeats 0 in
theorem PySem.Challenge.cw_arcmill_k20_rows_without_blocks_holds : PySem.Challenge.rw_arcmill_k20_rows_without_blocks.Holds := by
 w_on;o_law;k_head;(case hw=>w_witness2)
 k_fill
 refine Dd.walk_ofD (l:=PySem.Challenge.rw_arcmill_k20_rows_without_blocks) (n:=63) (k:=151) (x:="_law_script") (sp:=Lw.sp_law) rfl (by decide) rfl ⟨rfl,by decide,by decide⟩ (fun w h Y=>PySem.W.kIn_of Y) ?F Lw.law_here
 case F =>
  intro w mg fa h KX G hmg
  refine' Lw.all_mk KX G hmg ?b0 ?b1 ?b2 ?b3 ?b4 ?b5 ?b6 ?b7 ?b8 ?b9 ?b10 ?b11 ?b12 ?b13 ?b14 ?b15 ?b16 ?b17 ?b18 ?b19 ?b20 ?b21 ?b22 ?b23 ?b24 ?b25 ?b26 ?b27 ?b28 ?b29 ?b30 ?b31 ?b32 ?a33 ?l33 ?c33 ?k33 ?z_ValueError ?z_abs ?z_all ?z_bool ?z_int ?z_isinstance ?z_len ?z_max ?z_min ?z_range ?z_str ?z_tuple ?at_NUMBERS ?am_NUMBERS ?lt_NUMBERS ?kt_NUMBERS ?et_NUMBERS_go ?et_NUMBERS_skip ?et_NUMBERS_side ?et_NUMBERS_dot ?et_NUMBERS_left ?et_NUMBERS_right ?et_NUMBERS_round ?et_NUMBERS_mirror ?et_NUMBERS_grow ?et_NUMBERS_quarter ?et_NUMBERS_half ?et_NUMBERS_arc ?en_NUMBERS_0 ?en_NUMBERS_1 ?en_NUMBERS_2 ?en_NUMBERS_3 ?en_NUMBERS_4 ?en_NUMBERS_5 ?ag_MIDDLE ?lGMIDDLE ?lGMIDDLE_0 ?lGMIDDLE_1 ?ag_MOST_AGAIN ?ag_MOST_IN_GROW ?ag_MOST_ROWS ?ag_ONE ?lGONE ?ac_NoRow ?kc_NoRow ?ob_NoRow ?in_NoRow ?fa_NoRow ?fc_NoRow ?fm_NoRow ?fn_NoRow ?ac_NoKin ?ac_NoNumber ?ac_NoPiece ?ac_NoText ?ac_TooMuch ?ac_MillError ?xc_MillError ?ex0_NoRow ?ex1_NoRow ?ex2_NoRow ?ex3_NoRow ?ex4_NoRow ?ex5_NoRow ?ex6_NoRow ?fP ?eS ?kI
  (case b0 | b1 | b2 | b3 | b4 | b5 | b6 | b7 | b8 | b9 | b10 | b11 | b12 | b13 | b14 | b15 | b16 | b17 | b18 | b19 | b20 | b21 | b22 | b23 | b24 | b25 | b26 | b27 | b28 | b29 | b30 | b31 | b32 =>exact ⟨by k_is,_,L2.fun_mk (by k_is) (by k_is) (by k_is)⟩)
  (case a33 | l33 | c33 | k33 | z_ValueError | z_abs | z_all | z_bool | z_int | z_isinstance | z_len | z_max | z_min | z_range | z_str | z_tuple | at_NUMBERS =>k_is)
  (case am_NUMBERS=>decide)
  (case lt_NUMBERS=>k_is)
  (case kt_NUMBERS=>k_keys)
  (case et_NUMBERS_go | et_NUMBERS_skip | et_NUMBERS_side | et_NUMBERS_dot | et_NUMBERS_left | et_NUMBERS_right | et_NUMBERS_round | et_NUMBERS_mirror | et_NUMBERS_grow | et_NUMBERS_quarter | et_NUMBERS_half | et_NUMBERS_arc | en_NUMBERS_0 | en_NUMBERS_1 | en_NUMBERS_2 | en_NUMBERS_3 | en_NUMBERS_4 | en_NUMBERS_5 | ag_MIDDLE | lGMIDDLE | lGMIDDLE_0 | lGMIDDLE_1 | ag_MOST_AGAIN | ag_MOST_IN_GROW | ag_MOST_ROWS | ag_ONE | lGONE | ac_NoRow | kc_NoRow =>k_is)
  (case ob_NoRow=>exact ⟨_,_,_,_,_,_,_,_,_,_,_,_,_,_,_,_,by k_is,by (unfold Dd.bmV;k_exc),_,by k_is,rfl⟩)
  (case in_NoRow=>exact ⟨_,_,by k_is,by k_is,L2.fun_mk (by k_is) (by k_is) (by k_is)⟩)
  (case fa_NoRow=>k_is)
  (case fc_NoRow=>exact ⟨_,by k_is,rfl,rfl⟩)
  (case fm_NoRow | fn_NoRow | ac_NoKin | ac_NoNumber | ac_NoPiece | ac_NoText | ac_TooMuch | ac_MillError =>k_is)
  (case xc_MillError=>unfold Dd.bmV;k_exc)
  (case ex0_NoRow | ex1_NoRow | ex2_NoRow | ex3_NoRow | ex4_NoRow | ex5_NoRow | ex6_NoRow =>k_is)
  (case fP=>kts_exm)
  (case eS=>kit_is)
  (case kI=>kit_is)
