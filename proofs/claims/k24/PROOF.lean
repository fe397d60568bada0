import PyProof.Rows.All
import Wide.All
import OpenK.AllK
import Wide.FinOn
import Lean
import PyProof.EqAt
import PyProof.EqKinds
import PyProof.TupleCall
import PyProof.NeKinds
import PyProof.IsRules
import PyProof.CompFree
import KE.LcSums
import PyProof.FactsAll.range_1
import PyProof.SeqRoads2
import KE.KRevSl
import PyProof.ZipIter
import PyProof.TupleIter
import PyProof.FitsBits
import PyProof.NoPylong
import KE.IntBitsLaws
import PyProof.CompMap
import PyProof.AutoSeq1
import PyProof.SeqInW
import KE.KDictList
import PyProof.Rows.TupDisplay
import KE.KSortTup
import PyProof.ListMulRoad
import PyProof.Rows.SumAny
import PyProof.StrLawsOcc
import PyProof.FitsReplace
import PyProof.CollectIter
import PySem.Challenge.RW_arcmill_k24_programs_written
set_option Elab.async false
set_option linter.all false
set_option bootstrap.genMatcherCode false
set_option maxRecDepth 100000
namespace L2
open PySem PySem.Spec PyProof.Rows
noncomputable abbrev Key:=Sum Int Str
noncomputable def aJe:Key->Value->Bool
 | .inl k,v=>Value.isInt k v
 | .inr x,v=>Value.isStrOf x v
noncomputable def aN8 (w:World):Key->Int
 | .inl k=>hashInt k
 | .inr x=>hashStr w x
theorem eO:∀ {k:Key} {v:Value},aJe k v = true->(∃ i t,k = Sum.inl i/\v = Value.int i t) ∨ (∃ x t,k = Sum.inr x/\v = Value.str x t)
 | .inl i,v,h=>by
  obtain ⟨t,e⟩:=Value.isInt_shape (k:=i) (v:=v) h
  exact .inl ⟨i,t,rfl,e⟩
 | .inr x,v,h=>by
  obtain ⟨t,e⟩:=Value.isStrOf_shape (x:=x) (v:=v) h
  exact .inr ⟨x,t,rfl,e⟩
theorem aKK (a b:Int):decide ((Sum.inl a:Key) = Sum.inl b) = (a == b):=by
 by_cases e:a = b
 ·subst e;simp
 ·have h:¬ (Sum.inl a:Key) = Sum.inl b:=fun q=>e (Sum.inl.inj q)
  rw [decide_eq_false h]
  exact (beq_eq_false_iff_ne.mpr e).symm
theorem aJT (a b:Str):decide ((Sum.inr a:Key) = Sum.inr b) = decide (a = b):=by
 by_cases e:a = b
 ·subst e;simp
 ·have h:¬ (Sum.inr a:Key) = Sum.inr b:=fun q=>e (Sum.inr.inj q)
  rw [decide_eq_false h,decide_eq_false e]
theorem aKA (a:Int) (b:Str):decide ((Sum.inl a:Key) = Sum.inr b) = false:=decide_eq_false (fun q=>nomatch q)
theorem aLi (a:Str) (b:Int):decide ((Sum.inr a:Key) = Sum.inl b) = false:=decide_eq_false (fun q=>nomatch q)
noncomputable def aDD (prog:Program) (w:World):PySem.KeyKind prog w Key where
 is:=aJe
 hash:=aN8 w
 inj:=fun v a b ha hb=>by
  rcases eO ha with ⟨i,t,rfl,rfl⟩ | ⟨x,t,rfl,rfl⟩
  ·rcases eO hb with ⟨j,u,rfl,e⟩ | ⟨y,u,rfl,e⟩
   ·injection e with e1 _;rw [e1]
   ·exact nomatch e
  ·rcases eO hb with ⟨j,u,rfl,e⟩ | ⟨y,u,rfl,e⟩
   ·exact nomatch e
   ·injection e with e1 _;rw [e1]
 byValue:=fun k v h=>by
  rcases eO h with ⟨i,t,rfl,rfl⟩ | ⟨x,t,rfl,rfl⟩<;>rfl
 pyHash:=fun hv h=>by
  rcases eO hv with ⟨i,t,rfl,rfl⟩ | ⟨x,t,rfl,rfl⟩
  ·exact wpAny_pyHash_int h
  ·exact wpAny_pyHash_str h
 eqBool:=fun hu hv h=>by
  rcases eO hu with ⟨i,t,rfl,rfl⟩ | ⟨x,t,rfl,rfl⟩
  ·rcases eO hv with ⟨j,u,rfl,rfl⟩ | ⟨y,u,rfl,rfl⟩
   ·rw [aKK] at h;exact wpAny_eqBool_int h
   ·rw [aKA] at h;exact SeqAt.EqAt.int_str i t y u _ _ _ _ h
  ·rcases eO hv with ⟨j,u,rfl,rfl⟩ | ⟨y,u,rfl,rfl⟩
   ·rw [aLi] at h;exact SeqAt.EqAt.str_int x t j u _ _ _ _ h
   ·rw [aJT] at h;exact wpAny_eqBool_str h
 «strs»:=fun k x t v h=>by
  rcases eO h with ⟨i,u,rfl,e⟩ | ⟨y,u,rfl,e⟩
  ·exact nomatch e
  ·injection e with e1 _
   subst e1
   cases v<;>rfl
end L2
namespace L2
open PySem PySem.Spec PyProof.Rows
inductive V where
 | non | bl (b:Bool) | int (i:Int) | str (x:Str) | byt (b:Array UInt8) | flt (b:UInt64) | ref (a:Addr) | ty (n:String)
 deriving DecidableEq
noncomputable def cR:V->Value->Prop
 | .non,u=>u = Value.none
 | .bl b,u=>u = Value.bool b
 | .int i,u=>∃ t,u = Value.int i t
 | .str x,u=>∃ t,u = Value.str x t
 | .byt b,u=>∃ t,u = Value.bytes b t
 | .flt b,u=>∃ t,u = Value.float b t
 | .ref a,u=>u = Value.ref a
 | .ty n,u=>u = Value.type n
noncomputable abbrev cA:List V->List Value->Prop:=Paired cR
theorem cA.length {xs:List V} {us:List Value} (r:cA xs us):xs.length = us.length:=Paired.length r
theorem cA.get:∀ {xs:List V} {us:List Value} {i:Nat} {x:V},cA xs us->xs[i]? = some x->∃ u,us[i]? = some u/\cR x u
 | _,_,_,_,.nil,e=>by simp at e
 | _,_,0,_,.cons r _,e=>by simp at e;subst e;exact ⟨_,rfl,r⟩
 | _,_,i + 1,x,.cons _ t,e=>by
  obtain ⟨u,h1,h2⟩:=cA.get (i:=i) (x:=x) t (by simpa using e)
  exact ⟨u,by simpa using h1,h2⟩
theorem cA.append:∀ {xs ys:List V} {us ws:List Value},cA xs us->cA ys ws->cA (xs ++ ys) (us ++ ws)
 | _,_,_,_,.nil,s=>s
 | _,_,_,_,.cons r t,s=>.cons r (cA.append t s)
theorem cA.take:∀ {xs:List V} {us:List Value} (n:Nat),cA xs us->cA (xs.take n) (us.take n)
 | _,_,0,_=>.nil
 | _,_,_ + 1,.nil=>.nil
 | _,_,n + 1,.cons r t=>.cons r (cA.take n t)
theorem cA.drop:∀ {xs:List V} {us:List Value} (n:Nat),cA xs us->cA (xs.drop n) (us.drop n)
 | _,_,0,r=>r
 | _,_,_ + 1,.nil=>.nil
 | _,_,n + 1,.cons _ t=>cA.drop n t
noncomputable def aIu:Option V->Option Value->Prop
 | some v,some u=>cR v u
 | none,none=>True
 | _,_=>False
noncomputable def KV {κ:Type}:List (κ × V)->List (κ × Value)->Prop:=Paired fun (p:κ × V) (q:κ × Value)=>p.1 = q.1/\cR p.2 q.2
noncomputable def kV:Key->V
 | .inl i=>.int i
 | .inr x=>.str x
inductive HO where
  | lst (xs:List V)
  | tup (xs:List V)
  | dK (kvs:List (Key × V)) | dT (kvs:List (List Key × V))
  | set (S:Int->Bool) (n:Nat)
  | ins (C dx:Addr) (fs:List (Str × V))
  | own (x:Addr)
  | xd (fs:List (Str × V))
  | met (f x:Addr)
  | rng (lo hi:Int)
  | frz (o:Obj) (u:HO)
  | tbl (ps:Array Value)
  | ext (φ:Heap->Prop)
noncomputable abbrev Hp:=Addr->Option HO
noncomputable def upd (H:Hp) (a:Addr) (o:HO):Hp:=fun b=>if b = a then some o else H b
theorem dE {H:Hp} {a:Addr} {o:HO}:upd H a o a = some o:=by unfold upd;rw [if_pos rfl]
theorem bN {H:Hp} {a b:Addr} {o:HO} (h:b ≠ a):upd H a o b = H b:=by unfold upd;rw [if_neg h]
theorem aGr {H:Hp} {a b:Addr} {o u:HO} (h:H a = some o) (h':H b = some u) (d:o ≠ u):a ≠ b:=by
 intro e;subst e;rw [h] at h';exact d (Option.some.inj h')
theorem bU {H:Hp} {a b:Addr} {o:HO} (h:H a = some o) (h':H b = none):a ≠ b:=by
 intro e;subst e;rw [h] at h';cases h'
section
variable (P:Program) (w:World)
noncomputable def fH (H:Hp) (h:Heap) (a:Addr):HO->Prop
 | .lst xs=>xs.length<=sizeLine/\∃ (its:List Value) (n:Nat),cA xs its/\h.get? a = some { cls:=.type "list",data:=.seq its.toArray n }
 | .tup xs=>xs.length<=sizeLine/\∃ its:List Value,cA xs its/\IsTup h a its.toArray
 | .dK kvs=>kvs.length<=sizeLine/\(a == sysModules) = false/\∃ vs,KV kvs vs/\h.DictOf (aDD P w) a vs
 | .dT kvs=>kvs.length<=sizeLine/\(a == sysModules) = false/\∃ xs:List (List Key × Addr × Value),
   Paired (fun (p:List Key × V) (q:List Key × Addr × Value)=>p.1 = q.1/\H q.2.1 = some (.tup (p.1.map kV))/\cR p.2 q.2.2) kvs xs /\
   ∃ o es ep,h.get? a = some o/\o.ExactDict/\o.data = .dict es ep/\es.toList = xs.map (entryOfKey (tupleKind (aDD P w)))/\(xs.map (·.1)).Nodup
 | .set S n=>h.SetOf (intKind P w) a S n
 | .ins C dx fs=>H dx = some (.own a)/\fs.length<=1000/\dx ≠ a/\h.get? a = some (PySem.W.instObj C dx) /\
   ∃ mA,h.Ns1 dx mA/\(∀ f,aIu (fs.lookup f) (mA f))/\PySem.Within mA (fs.map (·.1))
 | .own _=>∃ o,h.get? a = some o
 | .xd fs=>∃ mA,h.Ns1 a mA/\∀ f,aIu (fs.lookup f) (mA f)
 | .rng lo hi=>∃ t u v,h.get? a = some { cls:=.type "range",data:=.fields #[.int lo t,.int hi u,.int 1 v] }
 | .frz o u=>h.get? a = some o/\fH H h a u
 | .tbl ps=>h.get? a = some { cls:=.none,data:=.fields ps }
 | .met f x=>h.get? a = some (PySem.W.methodObj (.ref f) (.ref x))
 | .ext φ=>φ h/\(∃ o,h.get? a = some o)/\∀ h1 h2:Heap,φ h1->(∀ o,h1.get? a = some o->h2.get? a = some o)->φ h2
noncomputable def HOk (H:Hp) (h:Heap):Prop:=∀ a o,H a = some o->fH P w H h a o
end
section
variable {P:Program} {w:World} {H H':Hp} {h h':Heap} {a:Addr} {o:HO}
theorem fH.lt (x:fH P w H h a o):a < h.objs.size:=by
 cases o with
 | lst xs=>obtain ⟨_,_,_,_,e⟩:=x;exact Heap.lt_size e
 | tup xs=>obtain ⟨_,_,_,p⟩:=x;exact p.lt
 | dK kvs=>obtain ⟨_,_,_,_,o,_,_,e,_⟩:=x;exact Heap.lt_size e
 | dT kvs=>obtain ⟨_,_,_,_,o,_,_,e,_⟩:=x;exact Heap.lt_size e
 | set S n=>obtain ⟨o,_,_,_,e,_⟩:=x;exact Heap.lt_size e
 | ins C dx fs=>obtain ⟨_,_,_,e,_⟩:=x;exact Heap.lt_size e
 | own y=>obtain ⟨_,e⟩:=x;exact Heap.lt_size e
 | xd fs=>obtain ⟨_,⟨_,_,_,e,_⟩,_⟩:=x;exact Heap.lt_size e
 | rng lo hi=>obtain ⟨_,_,_,e⟩:=x;exact Heap.lt_size e
 | frz ob u=>obtain ⟨e,_⟩:=x;exact Heap.lt_size e
 | tbl ps=>exact Heap.lt_size (show h.get? a = some _ from x)
 | met f y=>exact Heap.lt_size (show h.get? a = some _ from x)
 | ext φ=>obtain ⟨_,⟨_,e⟩,_⟩:=x;exact Heap.lt_size e
theorem Paired.mapP {α β:Type} {F G:α->β->Prop}:∀ {l₁:List α} {l₂:List β},Paired F l₁ l₂->(∀ a b,F a b->G a b)->Paired G l₁ l₂
 | _,_,.nil,_=>.nil
 | _,_,.cons r t,f=>.cons (f _ _ r) (Paired.mapP t f)
theorem fH.stay (x:fH P w H h a o) (k:∀ b u,(b = a ∨ H b = some (.own a))->h.get? b = some u->h'.get? b = some u)
  (ho:∀ b,H b = some (.own a)->H' b = some (.own a)) (ht:∀ b xs,H b = some (.tup xs)->H' b = some (.tup xs)):fH P w H' h' a o:=by
 induction o with
 | lst xs=>obtain ⟨z,its,n,r,e⟩:=x;exact ⟨z,its,n,r,k _ _ (.inl rfl) e⟩
 | tup xs=>obtain ⟨z,its,r,ob,e,c⟩:=x;exact ⟨z,its,r,ob,k _ _ (.inl rfl) e,c⟩
 | dK kvs=>obtain ⟨z,y,vs,r,ob,es,ep,e,c⟩:=x;exact ⟨z,y,vs,r,ob,es,ep,k _ _ (.inl rfl) e,c⟩
 | dT kvs =>
  obtain ⟨z,y,xs,r,ob,es,ep,e,c⟩:=x
  exact ⟨z,y,xs,Paired.mapP r fun p q z=>⟨z.1,ht _ _ z.2.1,z.2.2⟩,ob,es,ep,k _ _ (.inl rfl) e,c⟩
 | set S n=>obtain ⟨ob,es,ep,t,e,c⟩:=x;exact ⟨ob,es,ep,t,k _ _ (.inl rfl) e,c⟩
 | ins C dx fs =>
  obtain ⟨d,z,ne,e,mA,⟨od,es,ep,e2,c⟩,r⟩:=x
  exact ⟨ho _ d,z,ne,k _ _ (.inl rfl) e,mA,⟨od,es,ep,k _ _ (.inr d) e2,c⟩,r⟩
 | own y=>obtain ⟨ob,e⟩:=x;exact ⟨ob,k _ _ (.inl rfl) e⟩
 | xd fs=>obtain ⟨mA,⟨od,es,ep,e,c⟩,r⟩:=x;exact ⟨mA,⟨od,es,ep,k _ _ (.inl rfl) e,c⟩,r⟩
 | rng lo hi=>obtain ⟨t,u,v,e⟩:=x;exact ⟨t,u,v,k _ _ (.inl rfl) e⟩
 | frz ob u ih=>obtain ⟨e,q⟩:=x;exact ⟨k _ _ (.inl rfl) e,ih q⟩
 | tbl ps =>
  have e:h.get? a = some { cls:=.none,data:=.fields ps }:=x
  show h'.get? a = some { cls:=.none,data:=.fields ps }
  exact k a _ (.inl rfl) e
 | met f y =>
  have e:h.get? a = some (PySem.W.methodObj (.ref f) (.ref y)):=x
  show h'.get? a = some (PySem.W.methodObj (.ref f) (.ref y))
  exact k a _ (.inl rfl) e
 | ext φ=>obtain ⟨p,⟨o,e⟩,st⟩:=x;exact ⟨st _ _ p fun o q=>k _ _ (.inl rfl) q,⟨o,k _ _ (.inl rfl) e⟩,st⟩
theorem HOk.lt (x:HOk P w H h) (e:H a = some o):a < h.objs.size:=(x a o e).lt
theorem HOk.fresh (x:HOk P w H h) (e:h.objs.size<=a):H a = none:=by
 cases q:H a with
 | none=>rfl
 | some u=>exact absurd (Nat.lt_of_lt_of_le (x.lt q) e) (Nat.lt_irrefl _)
theorem HOk.kept (x:HOk P w H h) (k:∀ b u,h.get? b = some u->h'.get? b = some u):HOk P w H h':=fun a o e =>
 (x a o e).stay (fun b u _ q=>k b u q) (fun _ q=>q) fun _ _ q=>q
theorem HOk.laid (x:HOk P w H h) (k:∀ b u,h.get? b = some u->h'.get? b = some u) (hp:h.objs.size<=a) (new:fH P w (upd H a o) h' a o):HOk P w (upd H a o) h':=fun b u e=>by
 have hn:=x.fresh hp
 by_cases hb:b = a
 ·subst hb;rw [dE] at e;cases e;exact new
 ·rw [bN hb] at e
  exact (x b u e).stay (fun c v _ q=>k c v q) (fun c q=>by rw [bN (bU q hn)];exact q) fun c xs q=>by rw [bN (bU q hn)];exact q
end
noncomputable def Rd (H:Hp) (a:Addr) (u:HO):Prop:=H a = some u ∨ ∃ o,H a = some (.frz o u)
theorem Rd.ok {P:Program} {w:World} {H:Hp} {h:Heap} {a:Addr} {u:HO} (r:Rd H a u) (x:HOk P w H h):fH P w H h a u:=by
 rcases r with r | ⟨o,r⟩
 ·exact x a u r
 ·obtain ⟨_,q⟩:=x a _ r
  exact q
noncomputable def Mut:Option HO->Prop
 | some (.lst _)=>True
 | some (.dK _)=>True
 | some (.dT _)=>True
 | some (.set _ _)=>True
 | some (.ins _ _ _)=>True
 | some (.ext _)=>True
 | _=>False
section
variable {P:Program} {w:World} {H:Hp} {h h':Heap} {x e:Addr} {o':HO}
theorem HOk.write (ok:HOk P w H h) (mu:Mut (H x)) (he:e = x ∨ H e = some (.own x)) (k:∀ b u,b ≠ e->h.get? b = some u->h'.get? b = some u) (heo:∃ u,h'.get? e = some u)
  (new:fH P w (upd H x o') h' x o'):HOk P w (upd H x o') h':=fun b u q=>by
 have nown:∀ c y,H c = some (.own y)->c ≠ x:=fun c y r z=>by subst z;rw [r] at mu;exact mu
 have ntup:∀ c xs,H c = some (.tup xs)->c ≠ x:=fun c xs r z=>by subst z;rw [r] at mu;exact mu
 by_cases hb:b = x
 ·subst hb;rw [dE] at q;cases q;exact new
 ·rw [bN hb] at q
  by_cases hbe:b = e
  ·have q':H b = some (.own x):=by
    rcases he with z | z
    ·exact absurd (hbe.trans z) hb
    ·rw [hbe];exact z
   rw [q] at q';cases q'
   obtain ⟨v,hv⟩:=heo
   exact ⟨v,by rw [hbe];exact hv⟩
  ·refine (ok b u q).stay (fun c v hc r=>k c v ?_ r) (fun c r=>by rw [bN (nown c b r)];exact r) fun c xs r=>by rw [bN (ntup c xs r)];exact r
   rcases hc with rfl | hc
   ·exact hbe
   ·rintro rfl
    rcases he with z | z
    ·exact nown c b hc z
    ·rw [hc] at z;cases z;exact hb rfl
end
structure Un (fs ex:List Addr) (H H':Hp) (h h':Heap):Prop where
 keep:∀ b o,h.get? b = some o->H b = none->b ∉ fs->b ∉ ex->h'.get? b = some o
 slot:∀ b o,h.get? b = some o->H b = none->b ∈ fs->b ∉ ex->∃ sl,h'.get? b = some { o with slots:=sl }
 free:∀ b o,h.get? b = some o->H b = none->b ∉ ex->H' b = none
 there:∀ b o,h.get? b = some o->b ∉ ex->∃ o',h'.get? b = some o'
 tups:∀ b xs,H b = some (.tup xs)->H' b = some (.tup xs)
 frzs:∀ b o u,H b = some (.frz o u)->H' b = some (.frz o u)
 tbls:∀ b ps,H b = some (.tbl ps)->∃ more,H' b = some (.tbl (ps ++ more))
section
variable {fs fs' ex ex':List Addr} {H H1 H2:Hp} {h h1 h2 h':Heap} {a x e:Addr} {o:HO}
theorem Un.any (u:Un fs ex H H1 h h1) {b:Addr} {ob:Obj} (q:h.get? b = some ob) (n:H b = none) (hx:b ∉ ex):∃ sl,h1.get? b = some { ob with slots:=sl }:=by
 by_cases hb:b ∈ fs
 ·exact u.slot b ob q n hb hx
 ·exact ⟨ob.slots,u.keep b ob q n hb hx⟩
theorem Un.trans (a:Un fs ex H H1 h h1) (b:Un fs ex H1 H2 h1 h2):Un fs ex H H2 h h2 where
 keep:=fun c ob q n hc hx=>b.keep c ob (a.keep c ob q n hc hx) (a.free c ob q n hx) hc hx
 slot:=fun c ob q n hc hx=>by
  obtain ⟨sl,e1⟩:=a.slot c ob q n hc hx
  obtain ⟨sl',e2⟩:=b.slot c _ e1 (a.free c ob q n hx) hc hx
  exact ⟨sl',e2⟩
 free:=fun c ob q n hx=>by
  obtain ⟨o',e1⟩:=a.there c ob q hx
  exact b.free c o' e1 (a.free c ob q n hx) hx
 there:=fun c ob q hx=>by
  obtain ⟨o',e1⟩:=a.there c ob q hx
  exact b.there c o' e1 hx
 tups:=fun c xs q=>b.tups c xs (a.tups c xs q)
 frzs:=fun c ob xs q=>b.frzs c ob xs (a.frzs c ob xs q)
 tbls:=fun c ps q=>by
  obtain ⟨m1,e1⟩:=a.tbls c ps q
  obtain ⟨m2,e2⟩:=b.tbls c _ e1
  exact ⟨m1 ++ m2,by rw [e2,Array.append_assoc]⟩
theorem Un.kept (k:∀ b u,h.get? b = some u->h'.get? b = some u):Un fs ex H H h h' :=
 ⟨fun b ob q _ _ _=>k b ob q,fun b ob q _ _ _=>⟨ob.slots,k b ob q⟩,fun _ _ _ n _=>n,fun b ob q _=>⟨ob,k b ob q⟩,fun _ _ q=>q,fun _ _ _ q=>q,fun _ ps q=>⟨#[],by rw [q];simp⟩⟩
theorem Un.refl:Un fs ex H H h h:=Un.kept fun _ _ q=>q
theorem Un.laid (k:∀ b u,h.get? b = some u->h'.get? b = some u) (hp:h.objs.size<=a) (hn:H a = none):Un fs ex H (upd H a o) h h' where
 keep:=fun b u q _ _ _=>k b u q
 slot:=fun b u q _ _ _=>⟨u.slots,k b u q⟩
 free:=fun b u q n _=>by rw [bN (Nat.ne_of_lt (Nat.lt_of_lt_of_le (Heap.lt_size q) hp))];exact n
 there:=fun b u q _=>⟨u,k b u q⟩
 tups:=fun b xs q=>by rw [bN (bU q hn)];exact q
 frzs:=fun b u xs q=>by rw [bN (bU q hn)];exact q
 tbls:=fun b ps q=>⟨#[],by rw [bN (bU q hn),q];simp⟩
theorem Un.write (mu:Mut (H x)) (he:e = x ∨ H e = some (.own x)) (k:∀ b u,b ≠ e->h.get? b = some u->h'.get? b = some u) (heo:∃ u,h'.get? e = some u):Un fs ex H (upd H x o) h h':=by
 have hx:∀ b,H b = none->b ≠ x:=fun b n z=>by subst z;rw [n] at mu;exact mu
 have hb:∀ b,H b = none->b ≠ e:=fun b n z=>by
  subst z
  rcases he with r | r
  ·exact hx b n r
  ·rw [n] at r;cases r
 have hm:∀ b u,H b = some u->¬ Mut (some u)->b ≠ x:=fun b u q nm z=>by subst z;rw [q] at mu;exact nm mu
 refine ⟨fun b u q n _ _=>k b u (hb b n) q,fun b u q n _ _=>⟨u.slots,k b u (hb b n) q⟩,fun b u q n _=>by rw [bN (hx b n)];exact n,fun b u q _=>?_,
  fun b xs q=>by rw [bN (hm b _ q fun z=>z)];exact q,fun b u xs q=>by rw [bN (hm b _ q fun z=>z)];exact q,fun b ps q=>⟨#[],by rw [bN (hm b _ q fun z=>z),q];simp⟩⟩
 by_cases hbe:b = e
 ·subst hbe;exact heo
 ·exact ⟨u,k b u hbe q⟩
end
noncomputable def trk (h:Heap) (H:Hp):List Addr:=(List.range h.objs.size).filter fun a=>(H a).isSome
noncomputable def aBA (h:Heap) (H:Hp):Heap:=PySem.W.hideAll h (trk h H)
theorem aEm (h:Heap) (H:Hp):(aBA h H).objs.size = h.objs.size:=PySem.W.hideAll_size _ _
theorem aG8 {h:Heap} {H:Hp} {b:Addr} {o:Obj} (e:h.get? b = some o) (n:H b = none):(aBA h H).get? b = some o :=
 PySem.W.hideAll_get _ e fun hm=>by
  have q:(H b).isSome = true:=(List.mem_filter.mp hm).2
  rw [n] at q;simp at q
theorem aHg {h:Heap} {H:Hp} {b:Addr} {o:Obj} (e:(aBA h H).get? b = some o):h.get? b = some o/\H b = none:=by
 have e':h.get? b = some o:=PySem.W.of_hideAll (trk h H) e
 refine ⟨e',?_⟩
 cases q:H b with
 | none=>rfl
 | some x =>
  have hm:b ∈ trk h H:=List.mem_filter.mpr ⟨List.mem_range.mpr (Heap.lt_size e'),by simp [q]⟩
  have z:(aBA h H).get? b = none:=PySem.W.hideAll_none (trk h H) hm
  rw [z] at e;cases e
noncomputable def aIB (g h:Heap) (L:Addr):List (Addr × Obj):=(List.range h.objs.size).filterMap fun a=>if a = L ∨ (g.get? a).isSome = true then none else (h.get? a).map fun o=>(a,o)
noncomputable def dF (g h:Heap) (L d:Addr):List (Addr × Obj):=(aIB g h L).filter fun p=>decide (p.1 ≠ d)
end L2
namespace L2
open PySem PySem.Spec PyProof.Rows
structure Mod (K:PySem.W.Frag) (mg:Str->Option Value) (base:Heap):Prop where
 kin:K.In base
 glob:base.Ns mainGlobals mg
 blt:∃ mb,base.Ns builtinsNs mb/\∀ x:Str,x ≠ "__name__"->mb x = bootBuiltins x
 nolimit:base.NoLimit
structure Cx where
 prog:Program
 w:World
 K:PySem.W.Frag
 mg:Str->Option Value
 base:Heap
 A:Around
 N:List Str
 s₀:Shared
 H₀:Hp
 env:Env
 outer:List Env
 stack:List Env
 ex:List Addr
 fn:Str->Bool
 calm:Bool
 pn:List (Addr × Obj)
 xe:Value->Shared->Prop
noncomputable def frs (l:List Env):List Addr:=l.filterMap (·.frame)
noncomputable abbrev Cx.fs (X:Cx):List Addr:=frs X.outer
noncomputable def Vis (sc:Scope) (x:Str):Prop:=sc.names.lookup x = some .local ∨ sc.names.lookup x = some .cell ∨ sc.names.lookup x = some .free
noncomputable def Loc (sc:Scope) (x:Str):Prop:=sc.names.lookup x = some .local ∨ sc.names.lookup x = some .cell
noncomputable def aNu (env:Env) (h:Heap) (m:Str->Option Value) (x:Str) (u:Value):Prop :=
 (env.kindOf x = some .local/\m x = some u) ∨ ((env.kindOf x = some .cell ∨ env.kindOf x = some .free)/\∃ c,env.cells.lookup x = some c/\h.IsCell c (some u))
structure Cx.Ok (X:Cx):Prop where
 mod:Mod X.K X.mg X.base
 kind:X.env.scope.kind = .function
 glob:X.env.globals = mainGlobals
 blt:X.env.builtins = builtinsNs
 above:X.s₀.heap.objs.size<=X.env.locals
 inj:∀ x y c,X.env.cells.lookup x = some c->X.env.cells.lookup y = some c->x = y
 has:∀ x,(X.env.kindOf x = some .cell ∨ X.env.kindOf x = some .free)->∃ c,X.env.cells.lookup x = some c
 cab:∀ x c,X.fn x = true->X.env.cells.lookup x = some c->X.s₀.heap.objs.size<=c
 hd:X.calm = true->X.A.handled = none
 frames:X.A.frames = some X.stack
 stk:X.stack = X.outer ∨ (X.stack = X.env :: X.outer/\X.env.frame = some X.env.locals)
 exf:∀ b ∈ X.ex,b ≠ X.env.locals/\∀ x c,X.env.cells.lookup x = some c->c ≠ b
 bs:∀ b o,X.base.get? b = some o->X.s₀.heap.get? b = some o/\X.H₀ b = none
 bsz:X.base.objs.size<=X.s₀.heap.objs.size
 noex:∀ b o,X.base.get? b = some o->b ∉ X.ex
 exfs:∀ b ∈ X.ex,b ∉ X.fs
 funs:X.s₀.heap.FunFrames X.base X.outer
 frf:∀ b ∈ X.fs,X.H₀ b = none
structure Inv (X:Cx) (pins:List (Addr × Obj)) (σ:List (Option V)) (H:Hp) (s:Shared):Prop where
 ok:X.Ok
 os:s.os = X.s₀.os
 bare:AllBare s.gens
 base:Un X.fs X.ex X.H₀ H X.s₀.heap s.heap
 loc:∃ m,s.heap.Ns X.env.locals m/\∀ (i:Nat) (x:Str) (v:V),X.N[i]? = some x->σ[i]? = some (some v)->Vis X.env.scope x->∃ u,cR v u/\aNu X.env s.heap m x u
 cell:∀ x c,X.env.cells.lookup x = some c->∃ v,s.heap.IsCell c v
 free:H X.env.locals = none
 freeC:∀ x c,X.env.cells.lookup x = some c->H c = none
 pin:∀ p ∈ X.pn ++ pins,s.heap.get? p.1 = some p.2/\H p.1 = none/\p.1 ≠ X.env.locals/\p.1 ∉ X.fs/\∀ v,p.2.data ≠ .cell v
 hok:HOk X.prog X.w H s.heap
 len:σ.length = X.N.length
section
variable {X:Cx} {pins:List (Addr × Obj)} {σ:List (Option V)} {H H':Hp} {s:Shared} {h':Heap}
theorem Cx.Ok.nofr (ok:X.Ok) {b:Addr} {o:Obj} (e:X.base.get? b = some o):b ∉ X.fs:=fun hb=>by
 have:=(ok.funs.mem hb).1
 rw [e] at this;cases this
theorem Inv.bs (I:Inv X pins σ H s):∀ b o,X.base.get? b = some o->s.heap.get? b = some o/\H b = none:=fun b o e =>
 ⟨I.base.keep b o (I.ok.bs b o e).1 (I.ok.bs b o e).2 (I.ok.nofr e) (I.ok.noex b o e),I.base.free b o (I.ok.bs b o e).1 (I.ok.bs b o e).2 (I.ok.noex b o e)⟩
theorem Inv.bk (I:Inv X pins σ H s):∀ b o,X.base.get? b = some o->s.heap.get? b = some o:=fun b o e=>(I.bs b o e).1
theorem Inv.mod (I:Inv X pins σ H s):Mod X.K X.mg X.base:=I.ok.mod
theorem Inv.kIn (I:Inv X pins σ H s):X.K.In s.heap:=I.ok.mod.kin.keeps I.bk
theorem Inv.lt (I:Inv X pins σ H s):X.env.locals < s.heap.objs.size:=let ⟨_,hn,_⟩:=I.loc;hn.lt
theorem Inv.sz (I:Inv X pins σ H s):X.s₀.heap.objs.size<=s.heap.objs.size:=Nat.le_trans I.ok.above (Nat.le_of_lt I.lt)
theorem Inv.nofs (I:Inv X pins σ H s) {a:Addr} (h:s.heap.objs.size<=a):a ∉ X.fs:=fun hb=>by
 obtain ⟨_,o,ho,_⟩:=I.ok.funs.mem hb
 exact absurd (Nat.lt_of_lt_of_le (Heap.lt_size ho) (Nat.le_trans I.sz h)) (Nat.lt_irrefl _)
theorem Inv.cne (I:Inv X pins σ H s):∀ x c,X.env.cells.lookup x = some c->c ≠ X.env.locals:=fun x c e z=>by
 obtain ⟨v,o,ho,hd⟩:=I.cell x c e
 obtain ⟨m,⟨o',es,ep,ho',hd',_⟩,_⟩:=I.loc
 rw [z,ho'] at ho;cases ho;rw [hd'] at hd;cases hd
theorem Inv.funs (I:Inv X pins σ H s):s.heap.FunFrames X.base X.outer:=by
 have all:∀ (l:List Env),(∀ b ∈ frs l,b ∈ X.fs)->X.s₀.heap.FunFrames X.base l->s.heap.FunFrames X.base l:=by
  intro l
  induction l with
  | nil=>intro _ _;trivial
  | cons env r ih =>
   intro hs hl
   obtain ⟨hk,⟨L,o,hf,hn,ho,hd⟩,hr⟩:=hl
   have hL:L ∈ X.fs:=hs L (by unfold frs;rw [List.filterMap_cons,hf];exact List.mem_cons_self)
   obtain ⟨sl,e⟩:=I.base.slot L o ho (I.ok.frf L hL) hL fun z=>I.ok.exfs L z hL
   exact ⟨hk,⟨L,_,hf,hn,e,hd⟩,ih (fun b hb=>hs b (by unfold frs;rw [List.filterMap_cons,hf];exact List.mem_cons_of_mem _ hb)) hr⟩
 exact all X.outer (fun _ hb=>hb) I.ok.funs
theorem Inv.stack (I:Inv X pins σ H s):s.heap.FunFrames X.base X.stack:=by
 rcases I.ok.stk with e | ⟨e,hf⟩
 ·rw [e];exact I.funs
 ·rw [e]
  obtain ⟨m,hn,_⟩:=I.loc
  refine .cons (by rw [I.ok.kind];decide) hf hn ?_ I.funs
  exact Heap.get?_none_of_le (Nat.le_trans I.ok.bsz I.ok.above)
theorem Inv.stkSub (I:Inv X pins σ H s):∀ b ∈ frs X.stack,b ∈ X.env.locals :: X.fs:=fun b hb=>by
 rcases I.ok.stk with e | ⟨e,hf⟩
 ·rw [e] at hb;exact List.mem_cons_of_mem _ hb
 ·rw [e] at hb
  unfold frs at hb
  rw [List.filterMap_cons,hf] at hb
  exact hb
theorem Inv.stkFree (I:Inv X pins σ H s):∀ b ∈ frs X.stack,H b = none:=fun b hb=>by
 rcases List.mem_cons.mp (I.stkSub b hb) with e | hb
 ·rw [e];exact I.free
 ·obtain ⟨_,o,ho,_⟩:=I.ok.funs.mem hb
  exact I.base.free b o ho (I.ok.frf b hb) fun z=>I.ok.exfs b z hb
theorem Inv.step {g':Array GenState} {t':Nat} {d':Drawn} {ch:List Addr} (I:Inv X pins σ H s)
  (hch:∀ b ∈ ch,(b ∈ X.ex ∨ X.s₀.heap.objs.size<=b)/\b ≠ X.env.locals/\(∀ x c,X.env.cells.lookup x = some c->c ≠ b)/\∀ p ∈ X.pn ++ pins,p.1 ≠ b)
  (keep:∀ b o,b ≠ X.env.locals->b ∉ X.fs->b ∉ ch->s.heap.get? b = some o->H b = none->h'.get? b = some o)
  (slot:∀ b o,b ≠ X.env.locals->b ∈ X.fs->b ∉ ch->s.heap.get? b = some o->H b = none->∃ sl,h'.get? b = some { o with slots:=sl }) (free:∀ b o,b ∉ ch->s.heap.get? b = some o->H b = none->H' b = none)
  (there:∀ b o,b ∉ ch->s.heap.get? b = some o->∃ o',h'.get? b = some o')
  (tups:∀ b xs,H b = some (.tup xs)->H' b = some (.tup xs)) (frzs:∀ b o u,H b = some (.frz o u)->H' b = some (.frz o u)) (tbls:∀ b ps,H b = some (.tbl ps)->∃ more,H' b = some (.tbl (ps ++ more)))
  (ns:∀ m,s.heap.Ns X.env.locals m->h'.Ns X.env.locals m) (hok:HOk X.prog X.w H' h') (hg:AllBare g') :
  Inv X pins σ H' { s with heap:=h',gens:=g',drawn:=d',toks:=t' }:=by
 have neL:∀ b o,X.s₀.heap.get? b = some o->b ≠ X.env.locals:=fun b o e=>Nat.ne_of_lt (Nat.lt_of_lt_of_le (Heap.lt_size e) I.ok.above)
 have neC:∀ b o,X.s₀.heap.get? b = some o->b ∉ X.ex->b ∉ ch:=fun b o e hx hb=>by
  rcases (hch b hb).1 with z | z
  ·exact hx z
  ·exact absurd (Nat.lt_of_lt_of_le (Heap.lt_size e) z) (Nat.lt_irrefl _)
 have cellK:∀ x c,X.env.cells.lookup x = some c->∀ v,s.heap.IsCell c v->h'.IsCell c v:=fun x c e v ⟨o,ho,hd⟩=>by
  have nch:c ∉ ch:=fun z=>(hch c z).2.2.1 x c e rfl
  by_cases hc:c ∈ X.fs
  ·obtain ⟨sl,q⟩:=slot c o (I.cne x c e) hc nch ho (I.freeC x c e)
   exact ⟨_,q,hd⟩
  ·exact ⟨o,keep c o (I.cne x c e) hc nch ho (I.freeC x c e),hd⟩
 refine ⟨I.ok,I.os,hg,⟨fun b o e n hb hx=>?_,fun b o e n hb hx=>?_,fun b o e n hx=>?_,fun b o e hx=>?_,fun b xs e=>tups b xs (I.base.tups b xs e),fun b o xs e=>frzs b o xs (I.base.frzs b o xs e),fun b ps e=>?_⟩,?_,fun x c e=>?_,?_,fun x c e=>?_,fun p hp=>?_,hok,I.len⟩
 ·exact keep b o (neL b o e) hb (neC b o e hx) (I.base.keep b o e n hb hx) (I.base.free b o e n hx)
 ·obtain ⟨sl,e1⟩:=I.base.slot b o e n hb hx
  obtain ⟨sl',e2⟩:=slot b _ (neL b o e) hb (neC b o e hx) e1 (I.base.free b o e n hx)
  exact ⟨sl',e2⟩
 ·obtain ⟨o',e1⟩:=I.base.there b o e hx
  exact free b o' (neC b o e hx) e1 (I.base.free b o e n hx)
 ·obtain ⟨o',e1⟩:=I.base.there b o e hx
  exact there b o' (neC b o e hx) e1
 ·obtain ⟨m1,e1⟩:=I.base.tbls b ps e
  obtain ⟨m2,e2⟩:=tbls b _ e1
  exact ⟨m1 ++ m2,by rw [e2,Array.append_assoc]⟩
 ·obtain ⟨m,hn,hl⟩:=I.loc
  refine ⟨m,ns m hn,fun i x v e1 e2 e3=>?_⟩
  obtain ⟨u,r,l⟩:=hl i x v e1 e2 e3
  refine ⟨u,r,?_⟩
  rcases l with l | ⟨k,c,e,z⟩
  ·exact .inl l
  ·exact .inr ⟨k,c,e,cellK x c e _ z⟩
 ·obtain ⟨v,z⟩:=I.cell x c e
  exact ⟨v,cellK x c e v z⟩
 ·obtain ⟨m,⟨o,_,_,ho,_⟩,_⟩:=I.loc
  exact free _ o (fun z=>(hch _ z).2.1 rfl) ho I.free
 ·obtain ⟨v,o,ho,hd⟩:=I.cell x c e
  exact free c o (fun z=>(hch c z).2.2.1 x c e rfl) ho (I.freeC x c e)
 ·obtain ⟨e,n,ne,nf,d⟩:=I.pin p hp
  have nch:p.1 ∉ ch:=fun z=>(hch p.1 z).2.2.2 p hp rfl
  exact ⟨keep p.1 p.2 ne nf nch e n,free p.1 p.2 nch e n,ne,nf,d⟩
theorem Inv.un {t':Nat} (I:Inv X pins σ H s) (u:Un X.fs [] H H' s.heap h') (hok:HOk X.prog X.w H' h'):Inv X pins σ H' { s with heap:=h',toks:=t' }:=by
 obtain ⟨m,⟨o,es,ep,ho,r⟩,_⟩:=id I.loc
 obtain ⟨sl,hL⟩:=u.any ho I.free (by simp)
 exact I.step (g':=s.gens) (d':=s.drawn) (ch:=[]) (fun _ z=>nomatch z) (fun b o _ hb _ e n=>u.keep b o e n hb (by simp)) (fun b o _ hb _ e n=>u.slot b o e n hb (by simp)) (fun b o _ e n=>u.free b o e n (by simp)) (fun b o _ e=>u.there b o e (by simp)) u.tups u.frzs u.tbls (fun m' hm=>by
  obtain ⟨o',es',ep',ho',r'⟩:=hm
  rw [ho] at ho';cases ho'
  exact ⟨_,es',ep',hL,r'⟩) hok I.bare
theorem Inv.call {g':Array GenState} {t':Nat} {d':Drawn} {ch:List Addr} (I:Inv X pins σ H s) (u:Un (frs X.stack) ch H H' s.heap h') (hok:HOk X.prog X.w H' h') (hg:AllBare g')
  (hch:∀ b ∈ ch,(b ∈ X.ex ∨ X.s₀.heap.objs.size<=b)/\b ≠ X.env.locals/\(∀ x c,X.env.cells.lookup x = some c->c ≠ b)/\∀ p ∈ X.pn ++ pins,p.1 ≠ b) :
  Inv X pins σ H' { s with heap:=h',gens:=g',drawn:=d',toks:=t' }:=by
 obtain ⟨m,⟨o,es,ep,ho,r⟩,_⟩:=id I.loc
 obtain ⟨sl,hL⟩:=u.any ho I.free fun z=>(hch _ z).2.1 rfl
 exact I.step (ch:=ch) hch (fun b o hL hb hc e n=>u.keep b o e n (fun z=>(List.mem_cons.mp (I.stkSub b z)).elim hL hb) hc) (fun b o _ _ hc e n=>u.any e n hc) (fun b o hc e n=>u.free b o e n hc) (fun b o hc e=>u.there b o e hc) u.tups u.frzs u.tbls (fun m' hm=>by
  obtain ⟨o',es',ep',ho',r'⟩:=hm
  rw [ho] at ho';cases ho'
  exact ⟨_,es',ep',hL,r'⟩) hok hg
theorem Inv.turned {t':Nat} {it:Addr} (I:Inv X pins σ H s) (k:∀ b o,b ≠ it->s.heap.get? b = some o->h'.get? b = some o) (hn:H it = none) (hL:it ≠ X.env.locals)
  (h1:it ∈ X.ex ∨ X.s₀.heap.objs.size<=it) (h2:∀ x c,X.env.cells.lookup x = some c->c ≠ it) (h3:∀ p ∈ X.pn ++ pins,p.1 ≠ it):Inv X pins σ H { s with heap:=h',toks:=t' }:=by
 have nit:∀ b u,H b = some u->b ≠ it:=fun b u e z=>by rw [z,hn] at e;cases e
 refine I.step (g':=s.gens) (d':=s.drawn) (ch:=[it]) (fun b hb=>?_) (fun b o _ _ hc e _=>k b o (fun z=>hc (by simp [z])) e) (fun b o _ _ hc e _=>⟨o.slots,k b o (fun z=>hc (by simp [z])) e⟩) (fun _ _ _ _ n=>n)
  (fun b o hc e=>⟨o,k b o (fun z=>hc (by simp [z])) e⟩) (fun _ _ e=>e) (fun _ _ _ e=>e) (fun b ps e=>⟨#[],by rw [e];simp⟩) (fun m hm=>?_) (fun b u e=>?_) I.bare
 ·have e:b = it:=by simpa using hb
  subst e
  exact ⟨h1,hL,h2,h3⟩
 ·obtain ⟨o,es,ep,ho,r⟩:=hm
  exact ⟨o,es,ep,k _ o (Ne.symm hL) ho,r⟩
 ·refine (I.hok b u e).stay (fun c v hc q=>k c v ?_ q) (fun _ q=>q) fun _ _ q=>q
  rcases hc with z | z
  ·rw [z];exact nit b u e
  ·exact nit c _ z
theorem Inv.tok (I:Inv X pins σ H s) (t:Nat):Inv X pins σ H { s with toks:=t }:=I.un (h':=s.heap) (t':=t) Un.refl I.hok
theorem Inv.kept {t':Nat} (I:Inv X pins σ H s) (k:∀ b u,s.heap.get? b = some u->h'.get? b = some u):Inv X pins σ H { s with heap:=h',toks:=t' }:=I.un (Un.kept k) (I.hok.kept k)
theorem Inv.laid {a:Addr} {o:HO} {t':Nat} (I:Inv X pins σ H s) (k:∀ b u,s.heap.get? b = some u->h'.get? b = some u) (hp:s.heap.objs.size<=a) (new:fH X.prog X.w (upd H a o) h' a o) :
  Inv X pins σ (upd H a o) { s with heap:=h',toks:=t' }:=I.un (Un.laid k hp (I.hok.fresh hp)) (I.hok.laid k hp new)
theorem Inv.write {x e:Addr} {o:HO} {t':Nat} (I:Inv X pins σ H s) (mu:Mut (H x)) (he:e = x ∨ H e = some (.own x)) (k:∀ b u,b ≠ e->s.heap.get? b = some u->h'.get? b = some u) (heo:∃ u,h'.get? e = some u)
  (new:fH X.prog X.w (upd H x o) h' x o):Inv X pins σ (upd H x o) { s with heap:=h',toks:=t' }:=I.un (Un.write mu he k heo) (I.hok.write mu he k heo new)
theorem Inv.pins_of {pins':List (Addr × Obj)} (I:Inv X pins σ H s) (h:∀ p ∈ pins',s.heap.get? p.1 = some p.2/\H p.1 = none/\p.1 ≠ X.env.locals/\p.1 ∉ X.fs/\∀ v,p.2.data ≠ .cell v):Inv X pins' σ H s :=
 ⟨I.ok,I.os,I.bare,I.base,I.loc,I.cell,I.free,I.freeC,fun p hp=>(List.mem_append.mp hp).elim (fun z=>I.pin p (List.mem_append_left _ z)) (h p),I.hok,I.len⟩
theorem aCg {N:List Str} (hN:N.Nodup) {i j:Nat} {x:Str} (a:N[i]? = some x) (b:N[j]? = some x):i = j:=by
 obtain ⟨h1,e1⟩:=List.getElem?_eq_some_iff.mp a
 obtain ⟨h2,e2⟩:=List.getElem?_eq_some_iff.mp b
 exact (List.getElem_inj hN).mp (e1.trans e2.symm)
theorem aAI {M:Model} {A:Around} {E:Value->Shared->Prop} {i:Nat} {x:Str} {v:V} {u:Value} {Q:Unit->Shared->Prop} (I:Inv X pins σ H s) (hN:X.N.Nodup) (hi:X.N[i]? = some x) (hx:Loc X.env.scope x) (r:cR v u)
  (h:∀ s',Inv X pins (σ.set i (some v)) H s'->(∃ a,Heap.SameBut a s.heap s'.heap/\(a = X.env.locals ∨ X.env.cells.lookup x = some a))->Q () s') (hf:X.fn x = true ∨ X.env.scope.names.lookup x = some .local:=by first | exact .inl rfl | exact .inr rfl | assumption):wpAny M A (storeName X.env x u) Q E s:=by
 obtain ⟨m,hn,hl⟩:=id I.loc
 have hcls:(X.env.scope.kind == .class || (X.env.scope.kind == .module && X.env.locals != X.env.globals)) = false:=by rw [I.ok.kind];rfl
 have hiσ:i < σ.length:=by rw [I.len];exact (List.getElem?_eq_some_iff.mp hi).1
 have cne:=I.cne
 have tracked:∀ {a:Addr} {h':Heap},(∃ o,s.heap.get? a = some o/\H a = none)->Heap.SameBut a s.heap h'->HOk X.prog X.w H h':=fun {a h'} ha hs b ob e=>by
  obtain ⟨_,_,hfree⟩:=ha
  refine (I.hok b ob e).stay (fun c w' hc q=>(hs.2 c ?_).trans q) (fun _ q=>q) fun _ _ q=>q
  rintro rfl
  rcases hc with rfl | hc
  ·rw [hfree] at e;cases e
  ·rw [hfree] at hc;cases hc
 rcases hx with hk | hk
 ·refine wpAny_storeName_local hk hn (fun h' hn' hs=>?_) hcls
  obtain ⟨oL,_,_,hoL,_⟩:=id hn
  refine h _ ⟨I.ok,I.os,I.bare,⟨fun b o e n hb hx=>?_,fun b o e n hb hx=>?_,I.base.free,fun b o e hx=>?_,I.base.tups,I.base.frzs,I.base.tbls⟩,⟨_,hn',fun j y v' e1 e2 e3=>?_⟩,fun y c e=>?_,I.free,I.freeC,fun p hp=>?_,tracked ⟨oL,hoL,I.free⟩ hs,by simpa using I.len⟩ ⟨_,hs,.inl rfl⟩
  ·exact (hs.2 b (Nat.ne_of_lt (Nat.lt_of_lt_of_le (Heap.lt_size e) I.ok.above))).trans (I.base.keep b o e n hb hx)
  ·obtain ⟨sl,e1⟩:=I.base.slot b o e n hb hx
   exact ⟨sl,(hs.2 b (Nat.ne_of_lt (Nat.lt_of_lt_of_le (Heap.lt_size e) I.ok.above))).trans e1⟩
  ·obtain ⟨o',e1⟩:=I.base.there b o e hx
   exact ⟨o',(hs.2 b (Nat.ne_of_lt (Nat.lt_of_lt_of_le (Heap.lt_size e) I.ok.above))).trans e1⟩
  ·by_cases hj:j = i
   ·subst hj
    rw [hi] at e1;cases e1
    rw [List.getElem?_set_self hiσ] at e2
    cases e2
    exact ⟨u,r,.inl ⟨hk,by simp⟩⟩
   ·rw [List.getElem?_set_ne (Ne.symm hj)] at e2
    obtain ⟨u',r',q⟩:=hl j y v' e1 e2 e3
    refine ⟨u',r',?_⟩
    rcases q with ⟨k,e⟩ | ⟨k,c,e,z⟩
    ·refine .inl ⟨k,?_⟩
     have:y ≠ x:=fun e=>hj (aCg hN e1 (e ▸ hi))
     simp [this,e]
    ·exact .inr ⟨k,c,e,z.sameBut hs (cne y c e)⟩
  ·obtain ⟨w',z⟩:=I.cell y c e
   exact ⟨w',z.sameBut hs (cne y c e)⟩
  ·obtain ⟨e,n,ne,nf,d⟩:=I.pin p hp
   exact ⟨(hs.2 p.1 ne).trans e,n,ne,nf,d⟩
 ·have hfn:X.fn x = true:=by
   rcases hf with z | z
   ·exact z
   ·rw [z] at hk;cases hk
  obtain ⟨c,hc⟩:=I.ok.has x (.inl hk)
  obtain ⟨w',z⟩:=I.cell x c hc
  refine wpAny_storeName_cell I.ok.kind hk hc z (fun h' hc' hs=>?_)
  obtain ⟨oc,hoc,hocd⟩:=id z
  refine h { s with heap:=h' } ⟨I.ok,I.os,I.bare,⟨fun b o e n hb hx=>?_,fun b o e n hb hx=>?_,I.base.free,fun b o e hx=>?_,I.base.tups,I.base.frzs,I.base.tbls⟩,⟨m,hn.sameBut hs (Ne.symm (cne x c hc)),fun j y v' e1 e2 e3=>?_⟩,fun y c' e=>?_,I.free,I.freeC,fun p hp=>?_,tracked ⟨oc,hoc,I.freeC x c hc⟩ hs,by simpa using I.len⟩ ⟨c,hs,.inr hc⟩
  ·exact (hs.2 b (Nat.ne_of_lt (Nat.lt_of_lt_of_le (Heap.lt_size e) (I.ok.cab x c hfn hc)))).trans (I.base.keep b o e n hb hx)
  ·obtain ⟨sl,e1⟩:=I.base.slot b o e n hb hx
   exact ⟨sl,(hs.2 b (Nat.ne_of_lt (Nat.lt_of_lt_of_le (Heap.lt_size e) (I.ok.cab x c hfn hc)))).trans e1⟩
  ·obtain ⟨o',e1⟩:=I.base.there b o e hx
   exact ⟨o',(hs.2 b (Nat.ne_of_lt (Nat.lt_of_lt_of_le (Heap.lt_size e) (I.ok.cab x c hfn hc)))).trans e1⟩
  ·by_cases hj:j = i
   ·subst hj
    rw [hi] at e1;cases e1
    rw [List.getElem?_set_self hiσ] at e2
    cases e2
    exact ⟨u,r,.inr ⟨.inl hk,c,hc,hc'⟩⟩
   ·rw [List.getElem?_set_ne (Ne.symm hj)] at e2
    obtain ⟨u',r',q⟩:=hl j y v' e1 e2 e3
    refine ⟨u',r',?_⟩
    rcases q with q | ⟨k,c',e,z'⟩
    ·exact .inl q
    ·refine .inr ⟨k,c',e,z'.sameBut hs ?_⟩
     rintro rfl
     exact hj (aCg hN e1 (I.ok.inj _ _ _ e hc ▸ hi))
  ·by_cases hcc:c' = c
   ·subst hcc;exact ⟨_,hc'⟩
   ·obtain ⟨w2,z2⟩:=I.cell y c' e
    exact ⟨w2,z2.sameBut hs hcc⟩
  ·obtain ⟨e,n,ne,nf,d⟩:=I.pin p hp
   refine ⟨(hs.2 p.1 ?_).trans e,n,ne,nf,d⟩
   intro q
   rw [q,hoc] at e
   have q':oc = p.2:=Option.some.inj e
   exact d w' (by rw [<- q'];exact hocd)
theorem oU {M:Model} {A:Around} {E:Value->Shared->Prop} {i:Nat} {x:Str} {v:V} {u:Value} {Q:Unit->Shared->Prop} (I:Inv X pins σ H s) (hN:X.N.Nodup) (hi:X.N[i]? = some x) (hx:Loc X.env.scope x) (r:cR v u)
  (h:∀ s',Inv X pins (σ.set i (some v)) H s'->Q () s') (hf:X.fn x = true ∨ X.env.scope.names.lookup x = some .local:=by first | exact .inl rfl | exact .inr rfl | assumption):wpAny M A (storeName X.env x u) Q E s :=
 aAI I hN hi hx r (fun s' I' _=>h s' I') hf
theorem Inv.call' {s':Shared} {ch:List Addr} (I:Inv X pins σ H s) (ho:s'.os = s.os) (u:Un (frs X.stack) ch H H' s.heap s'.heap) (hok:HOk X.prog X.w H' s'.heap) (hg:AllBare s'.gens)
  (hch:∀ b ∈ ch,(b ∈ X.ex ∨ X.s₀.heap.objs.size<=b)/\b ≠ X.env.locals/\(∀ x c,X.env.cells.lookup x = some c->c ≠ b)/\∀ p ∈ X.pn ++ pins,p.1 ≠ b):Inv X pins σ H' s':=by
 obtain ⟨h',g',d',t',o'⟩:=s'
 have e:o' = s.os:=ho
 subst e
 exact I.call (g':=g') (t':=t') (d':=d') u hok hg hch
end
noncomputable abbrev XK:=Value->Option Addr->Hp->Prop
noncomputable abbrev St:=List (Option V)
noncomputable abbrev VK:=V->Hp->Prop
noncomputable abbrev TE:=St->Hp->VK->Prop
noncomputable abbrev TT:=St->Hp->(Bool->Hp->Prop)->Prop
noncomputable abbrev TA:=St->Hp->(List V->Hp->Prop)->Prop
structure yH where
 nx:St->Hp->Prop
 rt:VK
 bk:St->Hp->Prop:=fun _ _=>False
 ct:St->Hp->Prop:=fun _ _=>False
noncomputable abbrev TS:=yH->St->Hp->Prop
noncomputable def EP (X:Cx) (pins:List (Addr × Obj)) (σ:St) (Q:VK) (u:Value) (s':Shared):Prop:=∃ v H',Inv X pins σ H' s'/\cR v u/\Q v H'
noncomputable def TP (X:Cx) (pins:List (Addr × Obj)) (σ:St) (Q:Bool->Hp->Prop) (b:Bool) (s':Shared):Prop:=∃ H',Inv X pins σ H' s'/\Q b H'
noncomputable def AP (X:Cx) (pins:List (Addr × Obj)) (σ:St) (Q:List V->Hp->Prop) (us:List Value) (s':Shared):Prop:=∃ vs H',Inv X pins σ H' s'/\cA vs us/\Q vs H'
noncomputable def SP (X:Cx) (pins:List (Addr × Obj)) (D:yH) (f:Flow) (s':Shared):Prop :=
 match f with
 | .next=>∃ σ' H',Inv X pins σ' H' s'/\D.nx σ' H'
 | .brk=>∃ σ' H',Inv X pins σ' H' s'/\D.bk σ' H'
 | .cont=>∃ σ' H',Inv X pins σ' H' s'/\D.ct σ' H'
 | .ret u=>∃ v σ' H',Inv X pins σ' H' s'/\cR v u/\D.rt v H'
noncomputable def PE (X:Cx) (e:Expr) (t:TE):Prop :=
 ∀ (pins:List (Addr × Obj)) (s:Shared) (σ:St) (H:Hp) (Q:VK),Inv X pins σ H s->t σ H Q->wpAny (model X.prog X.w) X.A (eval e X.env) (EP X pins σ Q) X.xe s
noncomputable def PT (X:Cx) (e:Expr) (t:TT):Prop :=
 ∀ (pins:List (Addr × Obj)) (s:Shared) (σ:St) (H:Hp) (Q:Bool->Hp->Prop),Inv X pins σ H s->t σ H Q->wpAny (model X.prog X.w) X.A (isTrue e X.env (eval e X.env)) (TP X pins σ Q) X.xe s
noncomputable def PW (X:Cx) (e:Expr) (t:TT):Prop :=
 ∀ (whole:Sem Value) (pins:List (Addr × Obj)) (s:Shared) (σ:St) (H:Hp) (Q:Bool->Hp->Prop),Inv X pins σ H s->t σ H Q->wpAny (model X.prog X.w) X.A (isTrue e X.env whole) (TP X pins σ Q) X.xe s
theorem PW.pt {X:Cx} {e:Expr} {t:TT} (h:PW X e t):PT X e t:=h _
noncomputable def PA (X:Cx) (es:List Expr) (t:TA):Prop :=
 ∀ (pos:Pos) (pins:List (Addr × Obj)) (s:Shared) (σ:St) (H:Hp) (Q:List V->Hp->Prop),Inv X pins σ H s->t σ H Q->wpAny (model X.prog X.w) X.A (spliced (backTo pos (starEach es X.env))) (AP X pins σ Q) X.xe s
noncomputable def PS (X:Cx) (st:Stmt) (t:TS):Prop :=
 ∀ (pins:List (Addr × Obj)) (s:Shared) (σ:St) (H:Hp) (D:yH),Inv X pins σ H s->t D σ H->wpAny (model X.prog X.w) X.A (exec st X.env) (SP X pins D) X.xe s
noncomputable def PSs (X:Cx) (st:List Stmt) (t:TS):Prop :=
 ∀ (pins:List (Addr × Obj)) (s:Shared) (σ:St) (H:Hp) (D:yH),Inv X pins σ H s->t D σ H->wpAny (model X.prog X.w) X.A (execs st X.env) (SP X pins D) X.xe s
theorem thn {α:Type} {t:Sem α} {Q Q':α->Shared->Prop} {M:Model} {A:Around} {E:Value->Shared->Prop} {s:Shared} (h:wpAny M A t Q E s) (hQ:∀ a s,Q a s->Q' a s):wpAny M A t Q' E s:=wpAny_mono h hQ fun _ _ x=>x
end L2
namespace L2
open PySem PySem.Spec PyProof.Rows
section
variable {X:Cx}
noncomputable def aMQ (i:Nat):TE:=fun σ H Q=>∃ v,σ[i]? = some (some v)/\Q v H
noncomputable def tC (v:V):TE:=fun _ H Q=>Q v H
theorem aBd {i:Nat} {x:Str} {pos:Pos} (hN:X.N[i]? = some x) (hv:Vis X.env.scope x) (hd:(x == ("__debug__":Str)) = false:=by decide) (hcd:(x == ("__classdict__":Str)) = false:=by decide):PE X (.Name x pos) (aMQ i):=by
 intro pins s σ H Q I h
 obtain ⟨v,e,h⟩:=h
 obtain ⟨m,hn,hl⟩:=I.loc
 obtain ⟨u,r,l⟩:=hl i x v hN e hv
 have fin:EP X pins σ Q u s:=⟨v,H,I,r,h⟩
 rcases l with ⟨hk,hm⟩ | ⟨hk,c,hc,hcell⟩
 ·exact wpAny_Name (wpAny_loadName_local I.ok.kind hk hn hm fin) hd
 ·rcases hk with hk | hk
  ·exact wpAny_Name (wpAny_loadName_cell I.ok.kind hk hc hcell fin) hd
  ·exact wpAny_Name (wpAny_loadName_free I.ok.kind hk hc hcell fin hcd) hd
theorem aKF {i j pos}:PE X (.Constant (.int i) j pos) (tC (.int i)):=fun _ _ _ H _ I h=>wpAny_Constant_int ⟨.int i,H,I.tok _,⟨_,rfl⟩,h⟩
theorem aNk {b j pos}:PE X (.Constant (.bool b) j pos) (tC (.bl b)):=fun _ _ _ H _ I h=>Constant_bool ⟨.bl b,H,I,rfl,h⟩
theorem aJL {j pos}:PE X (.Constant .none j pos) (tC .non):=fun _ _ _ H _ I h=>Constant_none ⟨.non,H,I,rfl,h⟩
theorem aLR {x j pos}:PE X (.Constant (.str x) j pos) (tC (.str x)):=fun _ _ _ H _ I h=>Calls.Constant_str ⟨.str x,H,I.tok _,⟨_,rfl⟩,h⟩
noncomputable def Gl (X:Cx) (x:Str):Prop:=X.env.kindOf x = some .globalImplicit
theorem kX {E:Value->Shared->Prop} {pins:List (Addr × Obj)} {s:Shared} {σ:St} {H:Hp} {x:Str} {u:Value} {pos:Pos} {Q:Value->Shared->Prop} (I:Inv X pins σ H s) (hg:Gl X x) (hm:X.mg x = some u) (h:Q u s)
  (hd:(x == ("__debug__":Str)) = false:=by decide):wpAny (model X.prog X.w) X.A (eval (.Name x pos) X.env) Q E s :=
 Calls.Name_function_global I.ok.kind hg (Calls.loadGlobal_global (by rw [I.ok.glob];exact I.mod.glob.keeps I.bk) hm h) hd
theorem yF {E:Value->Shared->Prop} {pins:List (Addr × Obj)} {s:Shared} {σ:St} {H:Hp} {x:Str} {u:Value} {pos:Pos} {Q:Value->Shared->Prop} (I:Inv X pins σ H s) (hg:Gl X x) (hm:X.mg x = none) (hv:bootBuiltins x = some u) (h:Q u s)
  (hn:x ≠ "__name__":=by decide) (hd:(x == ("__debug__":Str)) = false:=by decide):wpAny (model X.prog X.w) X.A (eval (.Name x pos) X.env) Q E s:=by
 obtain ⟨mb,h1,h2⟩:=I.mod.blt
 exact Calls.Name_function_global I.ok.kind hg (Calls.loadGlobal_builtin (by rw [I.ok.glob];exact I.mod.glob.keeps I.bk) hm (by rw [I.ok.blt];exact h1.keeps I.bk) ((h2 x hn).trans hv) h) hd
theorem aHK {x:Str} {v:V} {u:Value} {pos:Pos} (hg:Gl X x) (hm:X.mg x = some u) (r:cR v u) (hd:(x == ("__debug__":Str)) = false:=by decide):PE X (.Name x pos) (tC v) :=
 fun _ _ _ H _ I h=>kX I hg hm ⟨v,H,I,r,h⟩ hd
theorem aBI {x:Str} {v:V} {u:Value} {pos:Pos} (hg:Gl X x) (hm:X.mg x = none) (hv:bootBuiltins x = some u) (r:cR v u) (hn:x ≠ "__name__":=by decide) (hd:(x == ("__debug__":Str)) = false:=by decide):PE X (.Name x pos) (tC v) :=
 fun _ _ _ H _ I h=>yF I hg hm hv ⟨v,H,I,r,h⟩ hn hd
variable {a b:Expr} {ta tb:TE} {pos:Pos}
noncomputable def tB (t:TE):TT:=fun σ H Q=>t σ H fun x H1=>∃ c,x = .bl c/\Q c H1
theorem aKI {e:Expr} {t:TE} (h:PE X e t) (he:∀ whole,isTrue e X.env whole = (do let v <- whole;standAt e.pos;holding [v] (truthy v)):=by intro _;rfl):PT X e (tB t):=by
 intro pins s σ H Q I hw
 refine isTrue_plain (thn (h pins s σ H _ I hw) fun v s1 ⟨x,H1,I1,r1,q1⟩=>?_) (he _)
 obtain ⟨d,rfl,q⟩:=q1
 cases r1
 exact wpAny_truthy_bool ⟨H1,I1,q⟩
variable {tA tB':TT} {dF:List Expr}
noncomputable def aOn (t u:TT):TT:=fun σ H Q=>t σ H fun c H1=>if c = true then u σ H1 Q else Q false H1
noncomputable def tOr (t u:TT):TT:=fun σ H Q=>t σ H fun c H1=>if c = true then Q true H1 else u σ H1 Q
noncomputable def aOs (t:TT):TT:=fun σ H Q=>t σ H fun c H1=>Q (!c) H1
theorem aH3 (ha:PT X a tA):PW X (.BoolOp .And [a] pos) tA:=by
 intro wh pins s σ H Q I h
 refine isTrue_and (thn (ha pins s σ H Q I h) fun c s1 e=>?_)
 cases c with
 | true=>exact isTrue_and_nil e
 | false=>exact e
theorem aJP (ha:PT X a tA):PW X (.BoolOp .Or [a] pos) tA:=by
 intro wh pins s σ H Q I h
 refine isTrue_or (thn (ha pins s σ H Q I h) fun c s1 e=>?_)
 cases c with
 | false=>exact isTrue_or_nil e
 | true=>exact e
theorem aLh (ha:PT X a tA) (hb:PW X (.BoolOp .And (b :: dF) pos) tB'):PW X (.BoolOp .And (a :: b :: dF) pos) (aOn tA tB'):=by
 intro wh pins s σ H Q I h
 refine isTrue_and (thn (ha pins s σ H _ I h) fun c s1 ⟨H1,I1,q1⟩=>?_)
 cases c with
 | true=>exact hb wh pins s1 σ H1 Q I1 q1
 | false=>exact ⟨H1,I1,q1⟩
theorem aMC (ha:PT X a tA) (hb:PW X (.BoolOp .Or (b :: dF) pos) tB'):PW X (.BoolOp .Or (a :: b :: dF) pos) (tOr tA tB'):=by
 intro wh pins s σ H Q I h
 refine isTrue_or (thn (ha pins s σ H _ I h) fun c s1 ⟨H1,I1,q1⟩=>?_)
 cases c with
 | true=>exact ⟨H1,I1,q1⟩
 | false=>exact hb wh pins s1 σ H1 Q I1 q1
theorem aLW (ha:PT X a tA):PT X (.UnaryOp .Not a pos) (aOs tA):=by
 intro pins s σ H Q I h
 exact isTrue_not (ha pins s σ H (fun c H1=>Q (!c) H1) I h)
noncomputable def aNa (ta tb:TE):TE:=fun σ H Q=>ta σ H fun x H1=>∃ c,x = .bl c/\if c = true then tb σ H1 Q else Q (.bl false) H1
noncomputable def aOh (ta tb:TE):TE:=fun σ H Q=>ta σ H fun x H1=>∃ c,x = .bl c/\if c = true then Q (.bl true) H1 else tb σ H1 Q
noncomputable def aMo (ta:TE):TE:=fun σ H Q=>ta σ H fun x H1=>∃ c,x = .bl c/\Q (.bl (!c)) H1
theorem aKG {op} {t:TE} (h:PE X a t):PE X (.BoolOp op [a] pos) t:=fun pins s σ H Q I hw=>BoolOp_one (h pins s σ H Q I hw)
theorem aLy (ha:PE X a ta) (hb:PE X (.BoolOp .And (b :: dF) pos) tb):PE X (.BoolOp .And (a :: b :: dF) pos) (aNa ta tb):=by
 intro pins s σ H Q I h
 refine BoolOp_and (thn (ha pins s σ H _ I h) fun v s1 ⟨x,H1,I1,r1,q1⟩=>?_)
 obtain ⟨c,rfl,q1⟩:=q1
 cases r1
 refine wpAny_truthy_bool ?_
 cases c with
 | true=>exact hb pins s1 σ H1 Q I1 q1
 | false=>exact ⟨.bl false,H1,I1,rfl,q1⟩
theorem aMB (ha:PE X a ta) (hb:PE X (.BoolOp .Or (b :: dF) pos) tb):PE X (.BoolOp .Or (a :: b :: dF) pos) (aOh ta tb):=by
 intro pins s σ H Q I h
 refine BoolOp_or (thn (ha pins s σ H _ I h) fun v s1 ⟨x,H1,I1,r1,q1⟩=>?_)
 obtain ⟨c,rfl,q1⟩:=q1
 cases r1
 refine wpAny_truthy_bool ?_
 cases c with
 | false=>exact hb pins s1 σ H1 Q I1 q1
 | true=>exact ⟨.bl true,H1,I1,rfl,q1⟩
theorem aKR (ha:PE X a ta):PE X (.UnaryOp .Not a pos) (aMo ta):=by
 intro pins s σ H Q I h
 refine UnaryOp_ (thn (ha pins s σ H _ I h) fun v s1 ⟨x,H1,I1,r1,q1⟩=>?_)
 obtain ⟨c,rfl,q1⟩:=q1
 cases r1
 exact not_of (wpAny_truthy_bool ⟨.bl (!c),H1,I1,rfl,q1⟩)
noncomputable def tIf (t:TT) (ta tb:TE):TE:=fun σ H Q=>t σ H fun c H1=>if c = true then ta σ H1 Q else tb σ H1 Q
theorem aFd {c:Expr} (hc:PT X c tA) (ha:PE X a ta) (hb:PE X b tb):PE X (.IfExp c a b pos) (tIf tA ta tb):=by
 intro pins s σ H Q I h
 refine wpAny_IfExp (thn (hc pins s σ H _ I h) fun d s1 ⟨H1,I1,q1⟩=>?_)
 cases d with
 | true=>exact ha pins s1 σ H1 Q I1 q1
 | false=>exact hb pins s1 σ H1 Q I1 q1
end
end L2
namespace L2
open PySem PySem.Spec PyProof.Rows
noncomputable def SqL (K:PySem.W.Frag) (H:Hp) (a:Addr) (xs:List V):Prop :=
 Rd H a (.lst xs) ∨
  ∃ (o:Obj) (its:Array Value) (n:Nat),K.lookup a = some o/\o.cls = .type "list"/\o.dict = none/\o.data = .seq its n/\its.size<=sizeLine/\cA xs its.toList
noncomputable def SqT (K:PySem.W.Frag) (H:Hp) (a:Addr) (xs:List V):Prop :=
 Rd H a (.tup xs) ∨
  ∃ (o:Obj) (its:Array Value) (n:Nat),K.lookup a = some o/\o.cls = .type "tuple"/\o.data = .seq its n/\its.size<=sizeLine/\cA xs its.toList
noncomputable def aN9:Value->Option V
 | .none=>some .non
 | .bool b=>some (.bl b)
 | .int i _=>some (.int i)
 | .str x _=>some (.str x)
 | .bytes b _=>some (.byt b)
 | .float b _=>some (.flt b)
 | .ref a=>some (.ref a)
 | .type n=>some (.ty n)
 | _=>none
theorem cR.abs {x:V} {u:Value} (r:cR x u):aN9 u = some x:=by
 cases x with
 | non=>cases r;rfl
 | bl _=>cases r;rfl
 | int _=>obtain ⟨t,rfl⟩:=r;rfl
 | str _=>obtain ⟨t,rfl⟩:=r;rfl
 | byt _=>obtain ⟨t,rfl⟩:=r;rfl
 | flt _=>obtain ⟨t,rfl⟩:=r;rfl
 | ref _=>cases r;rfl
 | ty _=>cases r;rfl
theorem cR.inj {x y:V} {u:Value} (r:cR x u) (q:cR y u):x = y:=Option.some.inj (r.abs.symm.trans q.abs)
theorem cA.inj:∀ {xs ys:List V} {us:List Value},cA xs us->cA ys us->xs = ys
 | _,_,_,.nil,.nil=>rfl
 | _,_,_,.cons r t,.cons r' t'=>by rw [r.inj r',cA.inj t t']
section
variable {X:Cx} {pins:List (Addr × Obj)} {σ:St} {H:Hp} {s:Shared} {a:Addr} {xs ys:List V}
theorem SqL.of {K:PySem.W.Frag} (h:H a = some (.lst xs)):SqL K H a xs:=.inl (.inl h)
theorem SqT.of {K:PySem.W.Frag} (h:H a = some (.tup xs)):SqT K H a xs:=.inl (.inl h)
theorem Inv.list (I:Inv X pins σ H s) (h:SqL X.K H a xs):∃ its:List Value,cA xs its/\PlainL s.heap a its.toArray/\xs.length<=sizeLine:=by
 rcases h with h | ⟨o,its,n,hk,hc,hd,hs,hz,r⟩
 ·obtain ⟨z,its,n,r,e⟩:=h.ok I.hok
  exact ⟨its,r,⟨_,n,e,rfl,rfl,rfl⟩,z⟩
 ·refine ⟨its.toList,r,⟨o,n,I.kIn a o hk,hc,hd,by simpa using hs⟩,?_⟩
  have e:=r.length
  simp only [Array.length_toList] at e
  omega
theorem Inv.tuple (I:Inv X pins σ H s) (h:SqT X.K H a xs):∃ its:List Value,cA xs its/\IsTup s.heap a its.toArray/\xs.length<=sizeLine:=by
 rcases h with h | ⟨o,its,n,hk,hc,hs,hz,r⟩
 ·obtain ⟨z,its,r,p⟩:=h.ok I.hok
  exact ⟨its,r,p,z⟩
 ·refine ⟨its.toList,r,⟨o,I.kIn a o hk,hc,n,by simpa using hs⟩,?_⟩
  have e:=r.length
  simp only [Array.length_toList] at e
  omega
theorem Inv.list_inj (I:Inv X pins σ H s) (h:SqL X.K H a xs) (h':SqL X.K H a ys):xs = ys:=by
 obtain ⟨its,r,⟨o,n,e,_,_,d⟩,_⟩:=I.list h
 obtain ⟨its',r',⟨o',n',e',_,_,d'⟩,_⟩:=I.list h'
 rw [e] at e';cases e'
 rw [d] at d'
 injection d' with d1 _
 have:its = its':=by simpa using congrArg Array.toList d1
 subst this
 exact r.inj r'
theorem Inv.tuple_inj (I:Inv X pins σ H s) (h:SqT X.K H a xs) (h':SqT X.K H a ys):xs = ys:=by
 obtain ⟨its,r,⟨o,e,_,n,d⟩,_⟩:=I.tuple h
 obtain ⟨its',r',⟨o',e',_,n',d'⟩,_⟩:=I.tuple h'
 rw [e] at e';cases e'
 rw [d] at d'
 injection d' with d1 _
 have:its = its':=by simpa using congrArg Array.toList d1
 subst this
 exact r.inj r'
end
noncomputable abbrev Cx.wish (X:Cx) (E:Value->Shared->Prop):Cx:={ X with xe:=E }
noncomputable abbrev Cx.nox (X:Cx):Cx:=X.wish fun _ _=>False
theorem Cx.Ok.wish {X:Cx} (ok:X.Ok) (E:Value->Shared->Prop):(X.wish E).Ok :=
 ⟨ok.mod,ok.kind,ok.glob,ok.blt,ok.above,ok.inj,ok.has,ok.cab,ok.hd,ok.frames,ok.stk,ok.exf,ok.bs,ok.bsz,ok.noex,ok.exfs,ok.funs,ok.frf⟩
theorem Cx.Ok.unwish {X:Cx} {E:Value->Shared->Prop} (ok:(X.wish E).Ok):X.Ok :=
 ⟨ok.mod,ok.kind,ok.glob,ok.blt,ok.above,ok.inj,ok.has,ok.cab,ok.hd,ok.frames,ok.stk,ok.exf,ok.bs,ok.bsz,ok.noex,ok.exfs,ok.funs,ok.frf⟩
section
variable {X:Cx} {pins:List (Addr × Obj)} {σ:St} {H:Hp} {s:Shared} {E:Value->Shared->Prop}
theorem Inv.wish (I:Inv X pins σ H s) (E:Value->Shared->Prop):Inv (X.wish E) pins σ H s:=⟨I.ok.wish E,I.os,I.bare,I.base,I.loc,I.cell,I.free,I.freeC,I.pin,I.hok,I.len⟩
theorem Inv.unwish (I:Inv (X.wish E) pins σ H s):Inv X pins σ H s:=⟨I.ok.unwish,I.os,I.bare,I.base,I.loc,I.cell,I.free,I.freeC,I.pin,I.hok,I.len⟩
theorem SP.unwish {D:yH} {f:Flow} {s':Shared} (h:SP (X.wish E) pins D f s'):SP X pins D f s':=by
 cases f with
 | next=>obtain ⟨σ',H',I,q⟩:=h;exact ⟨σ',H',I.unwish,q⟩
 | brk=>obtain ⟨σ',H',I,q⟩:=h;exact ⟨σ',H',I.unwish,q⟩
 | cont=>obtain ⟨σ',H',I,q⟩:=h;exact ⟨σ',H',I.unwish,q⟩
 | ret u=>obtain ⟨v,σ',H',I,r,q⟩:=h;exact ⟨v,σ',H',I.unwish,r,q⟩
theorem PSs.nox {st:List Stmt} {t:TS} (h:PSs X.nox st t):PSs X st t:=fun pins s σ H D I hw =>
 wpAny_mono (h pins s σ H D (I.wish _) hw) (fun _ _ q=>q.unwish) fun _ _ z=>False.elim z
end
section
variable {X:Cx} {st:Stmt} {dF:List Stmt} {t u:TS} {e:Expr} {te:TE} {pos:Pos}
noncomputable def aMs:TS:=fun D σ H=>D.nx σ H
noncomputable def aOc (t u:TS):TS:=fun D σ H=>t { D with nx:=u D } σ H
theorem aIa:PSs X [] aMs:=fun _ _ σ H _ I h=>wpAny_execs_nil ⟨σ,H,I,h⟩
theorem aCx (h1:PS X st t) (h2:PSs X dF u):PSs X (st :: dF) (aOc t u):=by
 intro pins s σ H D I h
 refine wpAny_execs_cons (thn (h1 pins s σ H { D with nx:=u D } I h) fun f s1 q=>?_)
 cases f with
 | next =>
  obtain ⟨σ',H',I',q⟩:=q
  exact h2 pins s1 σ' H' D I' q
 | ret v=>exact q
 | brk=>exact q
 | cont=>exact q
theorem aD3 (h1:PS X st t):PSs X [st] t:=by
 intro pins s σ H D I h
 refine wpAny_execs_cons (thn (h1 pins s σ H D I h) fun f s1 q=>?_)
 cases f with
 | next=>exact wpAny_execs_nil q
 | ret v=>exact q
 | brk=>exact q
 | cont=>exact q
theorem Inv.quiet {pins:List (Addr × Obj)} {σ:St} {H:Hp} {s:Shared} (I:Inv X pins σ H s):interactive X.env = false:=by simp [interactive,I.ok.kind]
noncomputable def aMh (te:TE):TS:=fun D σ H=>te σ H fun _ H1=>D.nx σ H1
theorem aIW (he:PE X e te) (hs:swapsWith e none pos.line X.env = pure false:=by rfl):PS X (.Expr e pos) (aMh te):=by
 intro pins s σ H D I h
 exact wpAny_Expr_any (thn (he pins s σ H _ I h) fun v s1 ⟨x,H1,I1,r1,q1⟩=>⟨σ,H1,I1,q1⟩) I.quiet hs
noncomputable def aOr (te:TE):TS:=fun D σ H=>te σ H D.rt
theorem aKb (he:PE X e te):PS X (.Return (some e) pos) (aOr te):=by
 intro pins s σ H D I h
 exact wpAny_Return_some (thn (he pins s σ H _ I h) fun v s1 ⟨x,H1,I1,r1,q1⟩=>⟨x,σ,H1,I1,r1,q1⟩)
noncomputable def aOA (c:TT) (t u:TS):TS:=fun D σ H=>c σ H fun b H1=>if b = true then t D σ H1 else u D σ H1
theorem aMw {c:Expr} {a b:List Stmt} {tc:TT} (hc:PT X c tc) (ha:PSs X a t) (hb:PSs X b u):PS X (.If c a b pos) (aOA tc t u):=by
 intro pins s σ H D I h
 refine wpAny_If (thn (hc pins s σ H _ I h) fun d s1 ⟨H1,I1,q1⟩=>?_)
 cases d with
 | true=>exact ha pins s1 σ H1 D I1 q1
 | false=>exact hb pins s1 σ H1 D I1 q1
end
noncomputable abbrev TG:=V->St->Hp->(St->Hp->Prop)->Prop
noncomputable abbrev TGs:=List V->St->Hp->(St->Hp->Prop)->Prop
noncomputable def PG (X:Cx) (target:Expr) (t:TG):Prop :=
 ∀ (pins:List (Addr × Obj)) (s:Shared) (σ:St) (H:Hp) (v:V) (u:Value) (Q:St->Hp->Prop),Inv X pins σ H s->cR v u->t v σ H Q ->
  wpAny (model X.prog X.w) X.A (assign target X.env u) (fun _ s'=>∃ σ' H',Inv X pins σ' H' s'/\Q σ' H') X.xe s
noncomputable def PGs (X:Cx) (ts:List Expr) (t:TGs):Prop :=
 ∀ (pins:List (Addr × Obj)) (s:Shared) (σ:St) (H:Hp) (vs:List V) (us:List Value) (Q:St->Hp->Prop),Inv X pins σ H s->cA vs us->t vs σ H Q ->
  wpAny (model X.prog X.w) X.A (assignInOrder ((assignEach ts X.env).map (·.2)) us) (fun _ s'=>∃ σ' H',Inv X pins σ' H' s'/\Q σ' H') X.xe s
noncomputable abbrev TIp:=V->V->Hp->VK->Prop
noncomputable def PIp (X:Cx) (op:Operator) (t:TIp):Prop :=
 ∀ (pins:List (Addr × Obj)) (s:Shared) (σ:St) (H:Hp) (x y:V) (v u:Value) (Q:VK),Inv X pins σ H s->cR x v->cR y u->t x y H Q ->
  wpAny (model X.prog X.w) X.A (inplaceOp op v u) (EP X pins σ Q) X.xe s
section
variable {X:Cx} {pos:Pos}
noncomputable def aJs (i:Nat):TG:=fun v σ H Q=>Q (σ.set i (some v)) H
theorem aIZ {i:Nat} {x:Str} (hN:X.N.Nodup) (hi:X.N[i]? = some x) (hx:Loc X.env.scope x) (hf:X.fn x = true ∨ X.env.scope.names.lookup x = some .local:=by first | exact .inl rfl | exact .inr rfl | assumption):PG X (.Name x pos) (aJs i):=by
 intro pins s σ H v u Q I r h
 exact wpAny_assign_Name (oU I hN hi hx r (fun s' I'=>⟨_,H,I',h⟩) hf)
noncomputable def aOJ:TGs:=fun vs σ H Q=>vs = []/\Q σ H
noncomputable def aNM (t:TG) (u:TGs):TGs:=fun vs σ H Q=>∃ v r,vs = v :: r/\t v σ H fun σ' H'=>u r σ' H' Q
theorem aHP:PGs X [] aOJ:=by
 intro pins s σ H vs us Q I r h
 obtain ⟨e,h⟩:=h
 subst e
 cases r
 exact assignInOrder_nil ⟨σ,H,I,h⟩
theorem aGL {e:Expr} {es:List Expr} {t:TG} {u:TGs} (h1:PG X e t) (h2:PGs X es u)
  (hs:(assignEach (e :: es) X.env).map (·.2) = assign e X.env :: (assignEach es X.env).map (·.2):=by rfl):PGs X (e :: es) (aNM t u):=by
 intro pins s σ H vs us Q I r h
 obtain ⟨v,vr,e1,h⟩:=h
 subst e1
 cases r with
 | cons r rr =>
  rw [hs]
  refine assignInOrder_cons (thn (h1 pins s σ H _ _ _ I r h) fun _ s1 ⟨σ1,H1,I1,q1⟩=>?_)
  exact h2 pins s1 σ1 H1 _ _ Q I1 rr q1
noncomputable def aOp (K:PySem.W.Frag) (n:Nat) (t:TGs):TG:=fun v σ H Q=>∃ a xs,v = .ref a/\SqT K H a xs/\xs.length = n/\t xs σ H Q
theorem aJC {es:List Expr} {k:Nat} {t:TGs} {n:Nat} (hc:X.calm = true) (h:PGs X es t)
  (hn:(assignEach es X.env).length = n:=by rfl) (hst:(assignEach es X.env).findIdx? (·.1) = none:=by rfl):PG X (.Tuple es k pos) (aOp X.K n t):=by
 intro pins s σ H v u Q I r hw
 obtain ⟨a,xs,e1,hq,hl,hw⟩:=hw
 subst e1
 cases r
 obtain ⟨its,rv,ht,hz⟩:=I.tuple hq
 refine assign_Tuple_tuple (I.ok.hd hc) ht (by simp [hn,<- hl,rv.length]) hst fun h' hx=>?_
 have I1:Inv X pins σ H { s with heap:=h' }:=I.kept (t':=s.toks) fun b o e=>hx b o (Nat.ne_of_lt (Heap.lt_size e)) e
 exact h pins _ σ H xs _ Q I1 (by simpa using rv) hw
noncomputable def aNB (te:TE) (g:TG):TS:=fun D σ H=>te σ H fun x H1=>g x σ H1 D.nx
theorem aLm {tg e:Expr} {te:TE} {g:TG} (he:PE X e te) (hg:PG X tg g) (hs:swapsWithSole [tg] e pos.line X.env = pure false:=by rfl) (hw:swappedStores [tg] e X.env = pure none:=by rfl)
  (h1:(assignEach [tg] X.env).map (·.2) = [assign tg X.env]:=by rfl):PS X (.Assign [tg] e pos) (aNB te g):=by
 intro pins s σ H D I h
 refine wpAny_Assign_stores (thn (he pins s σ H _ I h) fun v s1 ⟨x,H1,I1,r1,q1⟩=>?_) hs hw
 rw [h1]
 exact thn (hg pins s1 σ H1 x v _ I1 r1 q1) fun _ s2 q=>q
theorem aKe {i:Nat} {x:Str} {e:Expr} {te:TE} {pos':Pos} (hN:X.N.Nodup) (hi:X.N[i]? = some x) (hx:Loc X.env.scope x) (he:PE X e te) (hs:swapsWith e (some (.Name x pos')) pos.line X.env = pure false:=by rfl) (hf:X.fn x = true ∨ X.env.scope.names.lookup x = some .local:=by first | exact .inl rfl | exact .inr rfl | assumption) :
  PS X (.Assign [.Name x pos'] e pos) (aNB te (aJs i)):=by
 intro pins s σ H D I h
 refine wpAny_Assign_Name (thn (he pins s σ H _ I h) fun v s1 ⟨y,H1,I1,r1,q1⟩=>?_) hs
 exact oU I1 hN hi hx r1 (fun s2 I2=>⟨_,H1,I2,q1⟩) hf
noncomputable def aOI (i j:Nat) (ta:TA):TS:=fun D σ H=>ta σ H fun vs H1=>∃ v w,vs = [v,w]/\D.nx ((σ.set i (some v)).set j (some w)) H1
theorem aJG {i j:Nat} {x y:Str} {a b:Expr} {ta:TA} {px py pt:Pos} {kt k2 pt2} (hc:X.calm = true) (hN:X.N.Nodup) (hi:X.N[i]? = some x) (hj:X.N[j]? = some y) (hij:i ≠ j)
  (hx:X.env.scope.names.lookup x = some .local) (hy:X.env.scope.names.lookup y = some .local) (ha:PA X [a,b] ta)
  (hw:swappedStores [.Tuple [.Name x px,.Name y py] kt pt] (.Tuple [a,b] k2 pt2) X.env = pure (some [x,y]))
  (hs:swapsWithSole [.Tuple [.Name x px,.Name y py] kt pt] (.Tuple [a,b] k2 pt2) pos.line X.env = pure false:=by rfl) :
  PS X (.Assign [.Tuple [.Name x px,.Name y py] kt pt] (.Tuple [a,b] k2 pt2) pos) (aOI i j ta):=by
 intro pins s σ H D I h
 rw [exec_Assign_arm]
 refine wpAny_bind (wpAny_standAt ?_)
 rw [hs]
 refine wpAny_bind (wpAny_pure ?_)
 rw [if_neg (by decide)]
 refine wpAny_bind (Tuple_ (thn (ha _ pins s σ H _ I h) fun us s1 ⟨vs,H1,I1,r1,q1⟩=>?_))
 obtain ⟨v,w,e1,q1⟩:=q1
 subst e1
 obtain ⟨u1,u2,rfl,rv,rw'⟩:∃ u1 u2,us = [u1,u2]/\cR v u1/\cR w u2:=by
  cases r1 with
  | cons p q =>
   cases q with
   | cons p' q' =>
    cases q'
    exact ⟨_,_,rfl,p,p'⟩
 refine wpAny_newObj_type ?_ (by show 2<=sizeLine;decide)
 have I2:Inv X pins σ H1 { s1 with heap:=s1.heap.push { cls:=.type "tuple",data:=.seq [u1,u2].toArray } }:=I1.kept (t':=s1.toks) fun b o e=>Heap.get?_push_of_some _ e
 rw [hw]
 refine wpAny_bind (wpAny_pure ?_)
 show wpAny (model X.prog X.w) X.A (do rule "assign.swapped-stores";let items <- unpackItems (.ref s1.heap.objs.size) 2 none;assignInOrder [fun v=>bindName X.env y v,fun v=>bindName X.env x v] items.reverse;pure Flow.next) _ _ _
 refine wpAny_bind (wpAny_rule (wpAny_bind (unpackItems_tuple (items:=#[u1,u2]) (I.ok.hd hc) (IsTup.new s1.heap _) fun h' hx'=>?_)))
 have I3:=I2.kept (h':=h') (t':=s1.toks) fun b o e=>hx' b o (Nat.ne_of_lt (Heap.lt_size e)) e
 show wpAny _ _ (assignInOrder [fun v=>bindName X.env y v,fun v=>bindName X.env x v] [u2,u1] >>= fun _=>pure Flow.next) _ _ _
 refine wpAny_bind (assignInOrder_cons (wpAny_bindName (oU I3 hN hj (.inl hy) rw' (fun s2 I4=>?_) (.inr hy))))
 refine assignInOrder_cons (wpAny_bindName (oU I4 hN hi (.inl hx) rv (fun s3 I5=>assignInOrder_nil (wpAny_pure ?_)) (.inr hx)))
 rw [List.set_comm _ _ (Ne.symm hij)] at I5
 exact ⟨_,H1,I5,q1⟩
noncomputable def aOm (i:Nat) (te:TE) (ti:TIp):TS:=fun D σ H=>∃ x,σ[i]? = some (some x)/\te σ H fun y H1=>ti x y H1 fun z H2=>D.nx (σ.set i (some z)) H2
theorem aGj {i:Nat} {x:Str} {e:Expr} {te:TE} {op:Operator} {ti:TIp} {pos':Pos} (hN:X.N.Nodup) (hi:X.N[i]? = some x) (hx:Loc X.env.scope x) (he:PE X e te) (ho:PIp X op ti) (hf:X.fn x = true ∨ X.env.scope.names.lookup x = some .local:=by first | exact .inl rfl | exact .inr rfl | assumption) :
  PS X (.AugAssign (.Name x pos') op e pos) (aOm i te ti):=by
 intro pins s σ H D I h
 obtain ⟨v,e1,h⟩:=h
 obtain ⟨m,hn,hl⟩:=I.loc
 have vis:Vis X.env.scope x:=by rcases hx with k | k;exact .inl k;exact .inr (.inl k)
 obtain ⟨u,r,l⟩:=hl i x v hi e1 vis
 refine wpAny_AugAssign_Name ?_
 have go:wpAny (model X.prog X.w) X.A (eval e X.env) (fun w s₂=>wpAny (model X.prog X.w) X.A (inplaceOp op u w) (fun r s₃=>wpAny (model X.prog X.w) X.A (storeName X.env x r) (fun _=>SP X pins D .next) X.xe s₃) X.xe s₂) X.xe s:=by
  refine thn (he pins s σ H _ I h) fun w s1 ⟨y,H1,I1,r1,q1⟩=>?_
  refine thn (ho pins s1 σ H1 v y u w _ I1 r r1 q1) fun z s2 ⟨zv,H2,I2,r2,q2⟩=>?_
  exact oU I2 hN hi hx r2 (fun s3 I3=>⟨_,H2,I3,q2⟩) hf
 rcases l with ⟨hk,hm⟩ | ⟨hk,c,hc,hcell⟩
 ·exact wpAny_loadName_local I.ok.kind hk hn hm go
 ·rcases hk with hk | hk
  ·exact wpAny_loadName_cell I.ok.kind hk hc hcell go
  ·rcases hx with k | k
   ·have:X.env.scope.names.lookup x = some .free:=hk
    rw [k] at this;cases this
   ·have:X.env.scope.names.lookup x = some .free:=hk
    rw [k] at this;cases this
noncomputable def ipI (f:Int->Int->Int):TIp:=fun x y H Q=>∃ i j,x = .int i/\y = .int j/\Q (.int (f i j)) H
theorem yP:PIp X .Add (ipI fun i j=>i + j):=by
 intro pins s σ H x y v u Q I r1 r2 h
 obtain ⟨i,j,e1,e2,q⟩:=h
 subst e1;subst e2
 obtain ⟨t,rfl⟩:=r1
 obtain ⟨t',rfl⟩:=r2
 exact iadd_int ⟨.int _,H,I.tok _,⟨_,rfl⟩,q⟩
end
section
variable {X:Cx} {pos:Pos}
noncomputable def aMc (c:TT) (tb:TS):TS:=fun D σ H=>∃ W:Nat->St->Hp->Prop,(∃ m,W m σ H)/\∀ m σ H,W m σ H ->
 c σ H fun b H1=>if b = true then ∃ N:St->Hp->Prop,(∀ σ' H',N σ' H'->∃ m',m' < m/\W m' σ' H')/\tb { D with nx:=N,ct:=N,bk:=D.nx } σ H1 else D.nx σ H1
theorem aFv {c:Expr} {body:List Stmt} {tc:TT} {tb:TS} (hp:PassesOwn (model X.prog X.w) X.A X.env X.xe) (hc:PT X c tc) (hb:PSs X body tb):PS X (.While c body [] pos) (aMc tc tb):=by
 intro pins s σ H D I h
 obtain ⟨W,⟨m0,w0⟩,turn⟩:=h
 refine wpAny_While (codeAny_whileLoop (fun n s'=>∃ σ' H',Inv X pins σ' H' s'/\W n σ' H') ?_ m0 ⟨σ,H,I,w0⟩)
 rintro n s1 ⟨σ1,H1,I1,w1⟩
 refine wpAny_passesOwn hp (thn (hc pins s1 σ1 H1 _ I1 (turn n σ1 H1 w1)) fun b s2 ⟨H2,I2,q2⟩=>?_)
 cases b with
 | true =>
  obtain ⟨N,hN,q2⟩:=q2
  rw [if_pos rfl]
  refine wpAny_passesOwn hp (thn (hb pins s2 σ1 H2 _ I2 q2) fun f s3 q3=>?_)
  cases f with
  | next =>
   obtain ⟨σ3,H3,I3,n3⟩:=q3
   obtain ⟨m',hm,w3⟩:=hN σ3 H3 n3
   exact ⟨m',hm,σ3,H3,I3,w3⟩
  | cont =>
   obtain ⟨σ3,H3,I3,n3⟩:=q3
   obtain ⟨m',hm,w3⟩:=hN σ3 H3 n3
   exact ⟨m',hm,σ3,H3,I3,w3⟩
  | brk=>exact q3
  | ret v=>exact q3
 | false =>
  rw [if_neg Bool.false_ne_true]
  exact wpAny_execs_nil ⟨σ1,H2,I2,q2⟩
end
structure It where
 go:Nat->Hp->Prop
 yld:Nat->Hp->V->Hp->Prop
 stop:Nat->Hp->Prop
noncomputable def zJ (X:Cx) (pins:List (Addr × Obj)) (H:Hp) (b:Addr):Prop :=
 H b = none/\b ≠ X.env.locals/\b ∉ X.fs/\(b ∈ X.ex ∨ X.s₀.heap.objs.size<=b)/\(∀ x c,X.env.cells.lookup x = some c->c ≠ b)/\∀ p ∈ X.pn ++ pins,p.1 ≠ b
theorem Inv.fpOk {X:Cx} {pins:List (Addr × Obj)} {σ:St} {H H':Hp} {s:Shared} {b:Addr} (I:Inv X pins σ H s) (hb:s.heap.objs.size<=b) (hn:H' b = none):zJ X pins H' b:=by
 refine ⟨hn,Nat.ne_of_gt (Nat.lt_of_lt_of_le I.lt hb),I.nofs hb,.inr (Nat.le_trans I.sz hb),fun x c e z=>?_,fun p hp z=>?_⟩
 ·obtain ⟨v,q⟩:=I.cell x c e
  exact absurd (Nat.lt_of_lt_of_le q.lt (by rw [z];exact hb)) (Nat.lt_irrefl _)
 ·exact absurd (Nat.lt_of_lt_of_le (Heap.lt_size (I.pin p hp).1) (by rw [z];exact hb)) (Nat.lt_irrefl _)
structure aG4 (P:Program) (w:World) (K:PySem.W.Frag) (tg:Expr) (J:It) (fp:List Addr) (it:Addr) (tn:Nat->Heap->Prop):Prop where
 mem:it ∈ fp
 obj:∀ i h,tn i h->∀ b ∈ fp,∃ o,h.get? b = some o/\∀ v,o.data ≠ .cell v
 keep:∀ i h h',tn i h->(∀ b ∈ fp,∀ o,h.get? b = some o->h'.get? b = some o)->tn i h'
 item:∀ (X:Cx),X.prog = P->X.w = w->X.K = K->X.calm = true->∀ (i:Nat) (pins:List (Addr × Obj)) (s:Shared) (σ:St) (H:Hp) (E:Value->Shared->Prop),Inv X pins σ H s->(∀ b ∈ fp,zJ X pins H b)->tn i s.heap->J.go i H ->
  wpAny (model P w) X.A (pyNext (.ref it)) (fun r s1=>∃ u,r = some u /\
   wpAny (model P w) X.A (letOwnedTupleGo tg (.ref it) u) (fun _ s2=>∃ x H',Inv X pins σ H' s2/\cR x u/\J.yld i H x H'/\tn (i + 1) s2.heap/\∀ b ∈ fp,H' b = none) E s1) E s
 done:∀ (X:Cx),X.prog = P->X.w = w->X.K = K->X.calm = true->∀ (i:Nat) (pins:List (Addr × Obj)) (s:Shared) (σ:St) (H:Hp) (E:Value->Shared->Prop),Inv X pins σ H s->(∀ b ∈ fp,zJ X pins H b)->tn i s.heap->J.stop i H ->
  wpAny (model P w) X.A (pyNext (.ref it)) (fun r s1=>r = none/\Inv X pins σ H s1) E s
 self:∀ (A:Around) (i:Nat) (s:Shared) (Q:Value->Shared->Prop) (E:Value->Shared->Prop),tn i s.heap->Q (.ref it) s->wpAny (model P w) A (pyIter (.ref it)) Q E s
noncomputable abbrev TI:=St->Hp->(It->Hp->Prop)->Prop
noncomputable def PIE (X:Cx) (pins:List (Addr × Obj)) (σ:St) (tg:Expr) (R:It->Hp->Prop) (itv:Value) (s2:Shared):Prop :=
 ∃ (it:Addr) (fp:List Addr) (tn:Nat->Heap->Prop) (J:It) (H':Hp),itv = .ref it/\Inv X pins σ H' s2/\aG4 X.prog X.w X.K tg J fp it tn/\tn 0 s2.heap/\(∀ b ∈ fp,zJ X pins H' b)/\R J H'
noncomputable def PI (X:Cx) (tg iter:Expr) (wi:TI):Prop :=
 ∀ (pins:List (Addr × Obj)) (s:Shared) (σ:St) (H:Hp) (R:It->Hp->Prop),Inv X pins σ H s->wi σ H R ->
  wpAny (model X.prog X.w) X.A (eval iter X.env) (fun v s1=>wpAny (model X.prog X.w) X.A (pyIter v) (PIE X pins σ tg R) X.xe s1) X.xe s
theorem aFa {M:Model} {A:Around} {E:Value->Shared->Prop} {s:Shared} {tg:Expr} {it:Addr} {u:Value} {o:Obj} {n:String} {vs:Array Value} {Q:Unit->Shared->Prop} (ho:s.heap.get? it = some o) (hc:o.cls = .type n) (hd:o.data = .fields vs)
  (hn:["enumerate","zip","dict_itemiterator","dict_reverseitemiterator","odict_iterator","itertools.zip_longest","itertools.pairwise"].contains n = false) (hQ:Q () s):wpAny M A (letOwnedTupleGo tg (.ref it) u) Q E s:=by
 unfold letOwnedTupleGo
 cases tg<;>first
  | exact wpAny_pure hQ
  | (cases u<;>first
    | exact wpAny_pure hQ
    | (
      refine wpAny_bind (wpAny_load ho ?_)
      rw [hc,hd]
      show wpAny M A (if (["enumerate","zip","dict_itemiterator","dict_reverseitemiterator","odict_iterator","itertools.zip_longest","itertools.pairwise"].contains n && vs[0]? == some (rawInt _)) = true then _ else _) Q E s
      rw [if_neg (by intro h;rw [hn,Bool.false_and] at h;cases h)]
      exact wpAny_pure hQ))
noncomputable def Itl (K:PySem.W.Frag) (a:Addr):It :=
 ⟨fun i H=>∃ xs x,SqL K H a xs/\xs[i]? = some x,fun i H x H'=>H' = H/\∀ xs,SqL K H a xs->xs[i]? = some x,fun i H=>∃ xs,SqL K H a xs/\xs.length<=i⟩
noncomputable def Itt (K:PySem.W.Frag) (a:Addr):It :=
 ⟨fun i H=>∃ xs x,SqT K H a xs/\xs[i]? = some x,fun i H x H'=>H' = H/\∀ xs,SqT K H a xs->xs[i]? = some x,fun i H=>∃ xs,SqT K H a xs/\xs.length<=i⟩
noncomputable def Itr (lo:Int) (n:Nat):It:=⟨fun i _=>i < n,fun i H x H'=>H' = H/\x = .int (lo + i),fun i _=>n<=i⟩
theorem aEy {P:Program} {w:World} {K:PySem.W.Frag} {tg:Expr} (a it:Addr):aG4 P w K tg (Itl K a) [it] it (fun i h=>h.IsListIter it a i) where
 mem:=by simp
 obj:=fun i h st b hb=>by
  have e:b = it:=by simpa using hb
  subst e
  obtain ⟨o,e,c,d⟩:=st
  exact ⟨o,e,fun v z=>by rw [d] at z;cases z⟩
 keep:=fun i h h' st k=>st.at fun o e=>k it (by simp) o e
 item:=by
  intro X hP hw hK hc i pins s σ H E I hf st hg
  subst hP hw hK
  obtain ⟨xs,x,hq,hx⟩:=hg
  obtain ⟨its,rv,p,hz⟩:=I.list hq
  obtain ⟨u,hu,ru⟩:=rv.get hx
  obtain ⟨f0,f1,f2,f3,f4,f5⟩:=hf it (by simp)
  refine wpAny_pyNext_list_item st p.isList (x:=u) (by simpa using hu) fun h' st' sb=>?_
  have I1:Inv X pins σ H { s with heap:=h' }:=I.turned (t':=s.toks) (fun b o hb e=>(sb.2 b hb).trans e) f0 f1 f3 f4 f5
  obtain ⟨o,e,c,d⟩:=id st'
  exact ⟨u,rfl,aFa (s:={ s with heap:=h' }) e c d (by decide) ⟨x,H,I1,ru,⟨rfl,fun ys hy=>by rw [I.list_inj hy hq];exact hx⟩,st',fun b hb=>(hf b hb).1⟩⟩
 done:=by
  intro X hP hw hK hc i pins s σ H E I hf st hg
  subst hP hw hK
  obtain ⟨xs,hq,hx⟩:=hg
  obtain ⟨its,rv,p,hz⟩:=I.list hq
  obtain ⟨f0,f1,f2,f3,f4,f5⟩:=hf it (by simp)
  have hl:=rv.length
  exact wpAny_pyNext_list_end (I.ok.hd hc) st p.isList (by simp;omega) fun h' eb=>⟨rfl,I.turned (t':=s.toks) (fun b o hb e=>eb b o hb e) f0 f1 f3 f4 f5⟩
 self:=fun _ _ _ _ _ st h=>wpAny_pyIter_listiter st h
theorem aDg {P:Program} {w:World} {K:PySem.W.Frag} {tg:Expr} (a it:Addr):aG4 P w K tg (Itt K a) [it] it (fun i h=>h.IsTupleIter it a i) where
 mem:=by simp
 obj:=fun i h st b hb=>by
  have e:b = it:=by simpa using hb
  subst e
  obtain ⟨o,e,c,d⟩:=st
  exact ⟨o,e,fun v z=>by rw [d] at z;cases z⟩
 keep:=fun i h h' st k=>st.at fun o e=>k it (by simp) o e
 item:=by
  intro X hP hw hK hc i pins s σ H E I hf st hg
  subst hP hw hK
  obtain ⟨xs,x,hq,hx⟩:=hg
  obtain ⟨its,rv,p,hz⟩:=I.tuple hq
  obtain ⟨u,hu,ru⟩:=rv.get hx
  obtain ⟨f0,f1,f2,f3,f4,f5⟩:=hf it (by simp)
  refine wpAny_pyNext_tuple_item st (show s.heap.IsTuple a its.toArray from p) (x:=u) (by simpa using hu) fun h' st' sb=>?_
  have I1:Inv X pins σ H { s with heap:=h' }:=I.turned (t':=s.toks) (fun b o hb e=>(sb.2 b hb).trans e) f0 f1 f3 f4 f5
  obtain ⟨o,e,c,d⟩:=id st'
  exact ⟨u,rfl,aFa (s:={ s with heap:=h' }) e c d (by decide) ⟨x,H,I1,ru,⟨rfl,fun ys hy=>by rw [I.tuple_inj hy hq];exact hx⟩,st',fun b hb=>(hf b hb).1⟩⟩
 done:=by
  intro X hP hw hK hc i pins s σ H E I hf st hg
  subst hP hw hK
  obtain ⟨xs,hq,hx⟩:=hg
  obtain ⟨its,rv,p,hz⟩:=I.tuple hq
  obtain ⟨f0,f1,f2,f3,f4,f5⟩:=hf it (by simp)
  have hl:=rv.length
  exact wpAny_pyNext_tuple_end (I.ok.hd hc) st (show s.heap.IsTuple a its.toArray from p) (by simp;omega) fun h' eb=>⟨rfl,I.turned (t':=s.toks) (fun b o hb e=>eb b o hb e) f0 f1 f3 f4 f5⟩
 self:=fun _ _ _ _ _ st h=>wpAny_pyIter_tupleiter st h
theorem aCR {P:Program} {w:World} {K:PySem.W.Frag} {tg:Expr} (it:Addr) (lo:Int) (n:Nat):aG4 P w K tg (Itr lo n) [it] it (fun i h=>IsRangeIter h it (lo + (i:Nat) * 1) ((n:Int) - (i:Nat)) 1) where
 mem:=by simp
 obj:=fun i h st b hb=>by
  have e:b = it:=by simpa using hb
  subst e
  exact ⟨_,st,fun v z=>by
   have z':Data.fields _ = Data.cell v:=z
   cases z'⟩
 keep:=fun i h h' st k=>k it (by simp) _ st
 item:=by
  intro X hP hw hK hc i pins s σ H E I hf st hg
  subst hP hw hK
  obtain ⟨f0,f1,f2,f3,f4,f5⟩:=hf it (by simp)
  have W:=Walks.range (prog:=X.prog) (w:=X.w) (I.ok.hd hc) it lo 1 n
  refine W.item i s _ _ hg st fun v h' tk hv st' kk=>?_
  obtain ⟨t,rfl⟩:=hv
  have I1:Inv X pins σ H { s with heap:=h',toks:=tk }:=I.turned (fun b o hb e=>kk b o (by simpa using hb) e) f0 f1 f3 f4 f5
  refine ⟨_,rfl,aFa (s:={ s with heap:=h',toks:=tk }) (n:="range_iterator") st' rfl rfl (by decide) ⟨.int (lo + i),H,I1,⟨t,?_⟩,⟨rfl,rfl⟩,st',fun b hb=>(hf b hb).1⟩⟩
  rw [Int.mul_one]
 done:=by
  intro X hP hw hK hc i pins s σ H E I hf st hg
  subst hP hw hK
  obtain ⟨f0,f1,f2,f3,f4,f5⟩:=hf it (by simp)
  exact wpAny_pyNext_range_end (I.ok.hd hc) st (by have:n<=i:=hg;omega) fun h' eb=>⟨rfl,I.turned (t':=s.toks) (fun b o hb e=>eb b o hb e) f0 f1 f3 f4 f5⟩
 self:=fun _ _ _ _ _ st h=>wpAny_pyIter_rangeiter st h
end L2
namespace L2
open PySem PySem.Spec PyProof.Rows
section
variable {X:Cx} {tg:Expr}
noncomputable def aNI (K:PySem.W.Frag) (tl:TE):TI:=fun σ H R=>tl σ H fun x H1=>∃ a,x = .ref a/\(∃ xs,SqL K H1 a xs)/\R (Itl K a) H1
noncomputable def aOF (K:PySem.W.Frag) (tl:TE):TI:=fun σ H R=>tl σ H fun x H1=>∃ a,x = .ref a/\(∃ xs,SqT K H1 a xs)/\R (Itt K a) H1
theorem aAL {l:Expr} {tl:TE} (hl:PE X l tl):PI X tg l (aNI X.K tl):=by
 intro pins s σ H R I h
 refine thn (hl pins s σ H _ I h) fun v s1 ⟨x,H1,I1,r1,q1⟩=>?_
 obtain ⟨a,e,⟨xs,hq⟩,q⟩:=q1
 subst e
 cases r1
 obtain ⟨its,rv,p,hz⟩:=I1.list hq
 refine wpAny_pyIter_list p.isList ?_
 refine ⟨s1.heap.objs.size,[s1.heap.objs.size],_,_,H1,rfl,I1.kept (t':=s1.toks) fun b o e=>Heap.get?_push_of_some _ e,aEy a _,⟨_,Heap.get?_push_size _ rfl,rfl,rfl⟩,fun b hb=>?_,q⟩
 have e:b = s1.heap.objs.size:=by simpa using hb
 subst e
 exact I1.fpOk (Nat.le_refl _) (I1.hok.fresh (Nat.le_refl _))
theorem aE4 {l:Expr} {tl:TE} (hl:PE X l tl):PI X tg l (aOF X.K tl):=by
 intro pins s σ H R I h
 refine thn (hl pins s σ H _ I h) fun v s1 ⟨x,H1,I1,r1,q1⟩=>?_
 obtain ⟨a,e,⟨xs,hq⟩,q⟩:=q1
 subst e
 cases r1
 obtain ⟨its,rv,p,hz⟩:=I1.tuple hq
 refine wpAny_pyIter_tuple (show s1.heap.IsTuple a its.toArray from p) ?_
 refine ⟨s1.heap.objs.size,[s1.heap.objs.size],_,_,H1,rfl,I1.kept (t':=s1.toks) fun b o e=>Heap.get?_push_of_some _ e,aDg a _,⟨_,Heap.get?_push_size _ rfl,rfl,rfl⟩,fun b hb=>?_,q⟩
 have e:b = s1.heap.objs.size:=by simpa using hb
 subst e
 exact I1.fpOk (Nat.le_refl _) (I1.hok.fresh (Nat.le_refl _))
theorem aFP {pins:List (Addr × Obj)} {σ:St} {H:Hp} {s:Shared} {R:It->Hp->Prop} {E:Value->Shared->Prop} {lo hi:Int} {t u v:Tok} {tk:Nat} (I:Inv X pins σ H s) (h1:-(2 ^ 62)<=lo) (h2:lo < 2 ^ 62) (h3:-(2 ^ 62)<=hi) (h4:hi < 2 ^ 62)
  (q:R (Itr lo (hi - lo).toNat) H):wpAny (model X.prog X.w) X.A (pyIter (.ref s.heap.objs.size)) (PIE X pins σ tg R) E { s with heap:=s.heap.push { cls:=.type "range",data:=.fields #[.int lo t,.int hi u,.int 1 v] },toks:=tk }:=by
 refine wpAny_pyIter_range (IsRange.new ..) (small_one h1 h2 h3 h4) ?_
 have I1:Inv X pins σ H { s with heap:=s.heap.push { cls:=.type "range",data:=.fields #[.int lo t,.int hi u,.int 1 v] },toks:=tk }:=I.kept fun b o e=>Heap.get?_push_of_some _ e
 refine ⟨(s.heap.push { cls:=.type "range",data:=.fields #[.int lo t,.int hi u,.int 1 v] }).objs.size,[(s.heap.push { cls:=.type "range",data:=.fields #[.int lo t,.int hi u,.int 1 v] }).objs.size],_,_,H,rfl,
  I1.kept (t':=tk) fun b o e=>Heap.get?_push_of_some _ e,aCR _ lo (hi - lo).toNat,?_,fun b hb=>?_,q⟩
 ·have e1:lo + ((0:Nat):Int) * 1 = lo:=by simp
  have e2:(((hi - lo).toNat:Nat):Int) - ((0:Nat):Int) = Builtin.Range.rangeSize lo hi 1:=by rw [rangeSize_one];split<;>omega
  show IsRangeIter _ _ (lo + ((0:Nat):Int) * 1) ((((hi - lo).toNat:Nat):Int) - ((0:Nat):Int)) 1
  rw [e1,e2]
  exact Heap.get?_push_size _ rfl
 ·have e:b = (s.heap.push { cls:=.type "range",data:=.fields #[.int lo t,.int hi u,.int 1 v] }).objs.size:=by simpa using hb
  subst e
  exact I1.fpOk (Nat.le_refl _) (I1.hok.fresh (Nat.le_refl _))
noncomputable def aNy (ta:TA):TI:=fun σ H R=>ta σ H fun vs H1=>∃ j:Int,vs = [.int j]/\-(2 ^ 62)<=j/\j < 2 ^ 62/\R (Itr 0 j.toNat) H1
theorem aEk {a:Expr} {ta:TA} {p pos:Pos} (hg:Gl X "range") (hm:X.mg "range" = none) (ha:PA X [a] ta) (hs:starEach [a] X.env = [(false,eval a X.env)]:=by rfl):PI X tg (.Call (.Name "range" p) [a] [] pos) (aNy ta):=by
 intro pins s σ H R I h
 refine Call_ (yF I hg hm boot_range (PyProof.Rows.callWith_type1 (thn (ha pos pins s σ H _ I h) fun us s1 ⟨vs,H1,I1,r1,q1⟩=>?_) hs rfl))
 obtain ⟨j,e,q1,q2,q⟩:=q1
 subst e
 cases r1 with
 | cons r rr =>
  cases rr
  obtain ⟨t,rfl⟩:=r
  exact call_range_1 (aFP I1 (by omega) (by omega) q1 q2 (by simpa using q))
noncomputable def aOy (wi:TI) (g:TG) (tb:TS):TS:=fun D σ H=>wi σ H fun J H1=>∃ W:Nat->Nat->St->Hp->Prop,(∃ m,W 0 m σ H1)/\∀ i m σ H,W i m σ H ->
 (J.stop i H/\D.nx σ H) ∨ (J.go i H/\∃ N:St->Hp->Prop,(∀ σ' H',N σ' H'->∃ m',m' < m/\W (i + 1) m' σ' H')/\∀ x H',J.yld i H x H'->g x σ H' fun σ2 H2=>tb { D with nx:=N,ct:=N,bk:=D.nx } σ2 H2)
noncomputable def aBj (fp:List Addr) (h:Heap):List (Addr × Obj):=fp.filterMap fun b=>(h.get? b).map fun o=>(b,o)
theorem nW {fp:List Addr} {h:Heap} {b:Addr} {o:Obj} (hb:b ∈ fp) (e:h.get? b = some o):(b,o) ∈ aBj fp h:=List.mem_filterMap.mpr ⟨b,hb,by rw [e];rfl⟩
theorem aEH {fp:List Addr} {h:Heap} {p:Addr × Obj} (hp:p ∈ aBj fp h):p.1 ∈ fp/\h.get? p.1 = some p.2:=by
 obtain ⟨b,hb,e⟩:=List.mem_filterMap.mp hp
 cases q:h.get? b with
 | none=>rw [q] at e;cases e
 | some o =>
  rw [q] at e
  have e':(b,o) = p:=Option.some.inj e
  subst e'
  exact ⟨hb,q⟩
theorem Inv.pinned {pins:List (Addr × Obj)} {σ:St} {H:Hp} {s:Shared} {fp:List Addr} (I:Inv X pins σ H s) (hf:∀ b ∈ fp,zJ X pins H b) (ho:∀ b ∈ fp,∃ o,s.heap.get? b = some o/\∀ v,o.data ≠ .cell v):Inv X (pins ++ aBj fp s.heap) σ H s :=
 I.pins_of fun p hp=>(List.mem_append.mp hp).elim (fun z=>I.pin p (List.mem_append_right _ z)) fun z=>by
  obtain ⟨hb,e⟩:=aEH z
  obtain ⟨f0,f1,f2,_⟩:=hf p.1 hb
  obtain ⟨o,e',d⟩:=ho p.1 hb
  rw [e] at e';cases e'
  exact ⟨e,f0,f1,f2,d⟩
theorem Inv.unpinned {pins pl:List (Addr × Obj)} {σ:St} {H:Hp} {s:Shared} (I:Inv X (pins ++ pl) σ H s):Inv X pins σ H s:=I.pins_of fun p hp=>I.pin p (List.mem_append_right _ (List.mem_append_left _ hp))
theorem aBl {iter:Expr} {body:List Stmt} {wi:TI} {g:TG} {tb:TS} {pos:Pos} (hp:PassesOwn (model X.prog X.w) X.A X.env X.xe) (hc:X.calm = true) (hi:PI X tg iter wi) (hg:PG X tg g) (hb:PSs X body tb)
  (hs:∀ x,foldedSetIterable iter X.env x = pure x:=by intro _;rfl):PS X (.For tg iter body [] pos) (aOy wi g tb):=by
 intro pins s σ H D I h
 refine wpAny_For (thn (hi pins s σ H _ I h) fun v s1 h1=>thn h1 fun itv s2 h2=>?_) hs
 obtain ⟨it,fp,tn,J,H2,e,I2,T,st2,f2,W,⟨m0,w0⟩,turn⟩:=h2
 subst e
 have stat:∀ {H':Hp},(∀ b ∈ fp,H' b = none)->∀ b ∈ fp,zJ X pins H' b:=fun hn b hb=>⟨hn b hb,(f2 b hb).2⟩
 refine codeAny_forLoop_any (fun n s'=>∃ i σ' H',Inv X pins σ' H' s'/\tn i s'.heap/\(∀ b ∈ fp,H' b = none)/\W i n σ' H') ?_ m0 ⟨0,σ,H2,I2,st2,fun b hb=>(f2 b hb).1,w0⟩
 rintro n s3 ⟨i,σ3,H3,I3,st3,fr3,w3⟩
 rcases turn i n σ3 H3 w3 with ⟨stop,qn⟩ | ⟨go,N,hN,step⟩
 ·refine wpAny_passesOwn hp (thn (T.done X rfl rfl rfl hc i pins s3 σ3 H3 X.xe I3 (stat fr3) st3 stop) fun r s4 ⟨hr,I4⟩=>?_)
  subst hr
  exact wpAny_execs_nil ⟨σ3,H3,I4,qn⟩
 ·refine wpAny_passesOwn hp (thn (T.item X rfl rfl rfl hc i pins s3 σ3 H3 X.xe I3 (stat fr3) st3 go) fun r s4 ⟨u,hr,h4⟩=>?_)
  subst hr
  refine wpAny_passesOwn hp (thn h4 fun _ s5 ⟨x,H5,I5,r5,y5,st5,fr5⟩=>?_)
  have I5':=I5.pinned (stat fr5) (T.obj _ _ st5)
  refine wpAny_passesOwn hp (thn (hg _ s5 σ3 H5 x u _ I5' r5 (step x H5 y5)) fun _ s6 ⟨σ6,H6,I6,q6⟩=>?_)
  refine wpAny_passesOwn hp (thn (hb _ s6 σ6 H6 _ I6 q6) fun f s7 q7=>?_)
  have again:∀ {σ7:St} {H7:Hp},Inv X (pins ++ aBj fp s5.heap) σ7 H7 s7->N σ7 H7->∃ m,m < n/\∃ i σ' H',Inv X pins σ' H' s7/\tn i s7.heap/\(∀ b ∈ fp,H' b = none)/\W i m σ' H':=fun {σ7 H7} I7 n7=>by
   obtain ⟨m',hm,w7⟩:=hN σ7 H7 n7
   refine ⟨m',hm,i + 1,σ7,H7,I7.unpinned,T.keep _ _ _ st5 fun b hb o e=>(I7.pin (b,o) (List.mem_append_right _ (List.mem_append_right _ (nW hb e)))).1,fun b hb=>?_,w7⟩
   obtain ⟨o,e,d⟩:=T.obj _ _ st5 b hb
   exact (I7.pin (b,o) (List.mem_append_right _ (List.mem_append_right _ (nW hb e)))).2.1
  cases f with
  | next=>obtain ⟨σ7,H7,I7,n7⟩:=q7;exact again I7 n7
  | cont=>obtain ⟨σ7,H7,I7,n7⟩:=q7;exact again I7 n7
  | brk=>obtain ⟨σ7,H7,I7,q7⟩:=q7;exact ⟨σ7,H7,I7.unpinned,q7⟩
  | ret v=>obtain ⟨x7,σ7,H7,I7,r7,q7⟩:=q7;exact ⟨x7,σ7,H7,I7.unpinned,r7,q7⟩
end
end L2
namespace L2
open PySem PySem.Spec PyProof.Rows
noncomputable abbrev R2:=V->V->Hp->VK->Prop
noncomputable def OpR (X:Cx) (f:Value->Value->Sem Value) (r:R2):Prop :=
 ∀ (pins:List (Addr × Obj)) (s:Shared) (σ:St) (H:Hp) (x y:V) (v u:Value) (Q:VK),Inv X pins σ H s->cR x v->cR y u->r x y H Q ->
  wpAny (model X.prog X.w) X.A (f v u) (EP X pins σ Q) X.xe s
noncomputable def UnR (X:Cx) (f:Value->Sem Value) (r:V->Hp->VK->Prop):Prop :=
 ∀ (pins:List (Addr × Obj)) (s:Shared) (σ:St) (H:Hp) (x:V) (v:Value) (Q:VK),Inv X pins σ H s->cR x v->r x H Q ->
  wpAny (model X.prog X.w) X.A (f v) (EP X pins σ Q) X.xe s
noncomputable def lA (X:Cx) (f:Value) (r:List V->Hp->VK->Prop):Prop :=
 ∀ (pins:List (Addr × Obj)) (s:Shared) (σ:St) (H:Hp) (xs:List V) (us:List Value) (Q:VK),Inv X pins σ H s->cA xs us->r xs H Q ->
  wpAny (model X.prog X.w) X.A (call f us) (EP X pins σ Q) X.xe s
noncomputable def tOp (r:R2) (ta tb:TE):TE:=fun σ H Q=>ta σ H fun x H1=>tb σ H1 fun y H2=>r x y H2 Q
noncomputable def tUn (r:V->Hp->VK->Prop) (ta:TE):TE:=fun σ H Q=>ta σ H fun x H1=>r x H1 Q
noncomputable def rI (C:Int->Int->Prop) (g:Int->Int->V):R2:=fun x y H Q=>∃ i j,x = .int i/\y = .int j/\C i j/\Q (g i j) H
noncomputable def rI0 (g:Int->Int->V):R2:=fun x y H Q=>∃ i j,x = .int i/\y = .int j/\Q (g i j) H
noncomputable def rU (g:Int->V):V->Hp->VK->Prop:=fun x H Q=>∃ i,x = .int i/\Q (g i) H
section
variable {X:Cx} {a b c:Expr} {ta tb tc:TE} {pos:Pos}
theorem aKv (ha:PE X a ta) (hb:PE X b tb) {pins:List (Addr × Obj)} {s:Shared} {σ:St} {H:Hp} {R:V->V->Hp->Prop} (I:Inv X pins σ H s)
  (h:ta σ H fun x H1=>tb σ H1 fun y H2=>R x y H2) {Q:Value->Shared->Prop} {f:Value->Value->Sem Value}
  (hf:∀ v u s2 x y H2,Inv X pins σ H2 s2->cR x v->cR y u->R x y H2->wpAny (model X.prog X.w) X.A (f v u) Q X.xe s2) :
  wpAny (model X.prog X.w) X.A (eval a X.env) (fun v s₁=>wpAny (model X.prog X.w) X.A (eval b X.env) (fun u s₂=>wpAny (model X.prog X.w) X.A (f v u) Q X.xe s₂) X.xe s₁) X.xe s:=by
 refine thn (ha pins s σ H _ I h) fun v s1 ⟨x,H1,I1,r1,q1⟩=>?_
 refine thn (hb pins s1 σ H1 _ I1 q1) fun u s2 ⟨y,H2,I2,r2,q2⟩=>?_
 exact hf v u s2 x y H2 I2 r1 r2 q2
theorem aMT {op:Operator} {r:R2} (ho:OpR X (binaryOp op) r) (ha:PE X a ta) (hb:PE X b tb):PE X (.BinOp a op b pos) (tOp r ta tb):=by
 intro pins s σ H Q I h
 exact wpAny_BinOp (aKv ha hb I h fun v u s2 x y H2 I2 rx ry q=>ho pins s2 σ H2 x y v u Q I2 rx ry q)
theorem aNw {op:UnaryOp} {r:V->Hp->VK->Prop} (ho:UnR X (unaryOp op) r) (ha:PE X a ta):PE X (.UnaryOp op a pos) (tUn r ta):=by
 intro pins s σ H Q I h
 exact UnaryOp_ (thn (ha pins s σ H _ I h) fun v s1 ⟨x,H1,I1,r1,q1⟩=>ho pins s1 σ H1 x v Q I1 r1 q1)
theorem opI {f:Value->Value->Sem Value} {C:Int->Int->Prop} {g:Int->Int->Int}
  (rule:∀ (i j:Int) (t u:Tok) (s:Shared) (Q:Value->Shared->Prop) (E:Value->Shared->Prop),C i j->Q (.int (g i j) s.toks) { s with toks:=s.toks + 1 }->wpAny (model X.prog X.w) X.A (f (.int i t) (.int j u)) Q E s) :
  OpR X f (rI C fun i j=>.int (g i j)):=by
 intro pins s σ H x y v u Q I rx ry h
 obtain ⟨i,j,rfl,rfl,hc,q⟩:=h
 obtain ⟨t,rfl⟩:=rx
 obtain ⟨t',rfl⟩:=ry
 exact rule i j t t' s _ _ hc ⟨.int (g i j),H,I.tok _,⟨_,rfl⟩,q⟩
theorem aM7 {f:Value->Value->Sem Value} {g:Int->Int->Int}
  (rule:∀ (i j:Int) (t u:Tok) (s:Shared) (Q:Value->Shared->Prop) (E:Value->Shared->Prop),Q (.int (g i j) s.toks) { s with toks:=s.toks + 1 }->wpAny (model X.prog X.w) X.A (f (.int i t) (.int j u)) Q E s) :
  OpR X f (rI0 fun i j=>.int (g i j)):=by
 intro pins s σ H x y v u Q I rx ry h
 obtain ⟨i,j,rfl,rfl,q⟩:=h
 obtain ⟨t,rfl⟩:=rx
 obtain ⟨t',rfl⟩:=ry
 exact rule i j t t' s _ _ ⟨.int (g i j),H,I.tok _,⟨_,rfl⟩,q⟩
theorem aHj {f:Value->Value->Sem Value} {g:Int->Int->Bool}
  (rule:∀ (i j:Int) (t u:Tok) (s:Shared) (Q:Value->Shared->Prop) (E:Value->Shared->Prop),Q (.bool (g i j)) s->wpAny (model X.prog X.w) X.A (f (.int i t) (.int j u)) Q E s) :
  OpR X f (rI0 fun i j=>.bl (g i j)):=by
 intro pins s σ H x y v u Q I rx ry h
 obtain ⟨i,j,rfl,rfl,q⟩:=h
 obtain ⟨t,rfl⟩:=rx
 obtain ⟨t',rfl⟩:=ry
 exact rule i j t t' s _ _ ⟨.bl (g i j),H,I,rfl,q⟩
noncomputable def aMN (i j:Int):Prop:=0<=j/\j<=1000000/\i.natAbs < 2 ^ 64
theorem aKE:OpR X (binaryOp .Add) (rI0 fun i j=>.int (i + j)):=aM7 fun _ _ _ _ _ _ _ q=>add_int q
theorem aKl:OpR X (binaryOp .Sub) (rI0 fun i j=>.int (i - j)):=aM7 fun _ _ _ _ _ _ _ q=>sub_int q
theorem aHk:OpR X (binaryOp .Mod) (rI (fun _ j=>j ≠ 0) fun i j=>.int (i.fmod j)):=opI fun _ _ _ _ _ _ _ hc q=>mod_int' hc q
theorem aLB:OpR X (binaryOp .Pow) (rI aMN fun i j=>.int (i ^ j.toNat)):=opI fun _ _ _ _ _ _ _ hc q=>pow_int_small hc.1 hc.2.1 hc.2.2 q
theorem unI {f:Value->Sem Value} {g:Int->Int}
  (rule:∀ (i:Int) (t:Tok) (s:Shared) (Q:Value->Shared->Prop) (E:Value->Shared->Prop),Q (.int (g i) s.toks) { s with toks:=s.toks + 1 }->wpAny (model X.prog X.w) X.A (f (.int i t)) Q E s) :
  UnR X f (rU fun i=>.int (g i)):=by
 intro pins s σ H x v Q I rx h
 obtain ⟨i,rfl,q⟩:=h
 obtain ⟨t,rfl⟩:=rx
 exact rule i t s _ _ ⟨.int (g i),H,I.tok _,⟨_,rfl⟩,q⟩
theorem aLt:UnR X (unaryOp .USub) (rU fun i=>.int (-i)):=unI fun _ _ _ _ _ q=>neg_int q
end
section
variable {X:Cx} {a b c:Expr} {ta tb tc:TE} {pos:Pos}
theorem aMS:OpR X (compareOp .Lt) (rI0 fun i j=>.bl (decide (i < j))):=aHj fun _ _ _ _ _ _ _ q=>lt_int q
theorem aMK:OpR X (compareOp .LtE) (rI0 fun i j=>.bl (decide (i<=j))):=aHj fun _ _ _ _ _ _ _ q=>le_int q
theorem aM5:OpR X (compareOp .Gt) (rI0 fun i j=>.bl (decide (j < i))):=aHj fun _ _ _ _ _ _ _ q=>gt_int q
theorem aM0:OpR X (compareOp .GtE) (rI0 fun i j=>.bl (decide (j<=i))):=aHj fun _ _ _ _ _ _ _ q=>ge_int q
theorem aAV (b:Expr) {op:CmpOp} (h:op ≠ .In:=by decide) (h2:op ≠ .NotIn:=by decide):behindInMarks op b = false:=by
 have e1:(op == CmpOp.In) = false:=by cases op<;>first | rfl | exact absurd rfl h
 have e2:(op == CmpOp.NotIn) = false:=by cases op<;>first | rfl | exact absurd rfl h2
 cases b<;>simp [behindInMarks,e1,e2]
theorem aHO {op:CmpOp} {r:R2} (ho:OpR X (compareOp op) r) (ha:PE X a ta) (hb:PE X b tb) (hm:behindInMarks op b = false):PE X (.Compare a [op] [b] pos) (tOp r ta tb):=by
 intro pins s σ H Q I h
 exact wpAny_Compare1 (aKv ha hb I h fun v u s2 x y H2 I2 rx ry q=>ho pins s2 σ H2 x y v u Q I2 rx ry q) hm
noncomputable def aMG (t:TE):TT:=fun σ H Q=>t σ H fun x H'=>∃ k,x = .bl k/\Q k H'
theorem aIp {op:CmpOp} {r:R2} (ho:OpR X (compareOp op) r) (ha:PE X a ta) (hb:PE X b tb) (hm:behindInMarks op b = false):PT X (.Compare a [op] [b] pos) (aMG (tOp r ta tb)):=by
 intro pins s σ H Q I h
 refine wpAny_isTrue_Compare1 (thn (ha pins s σ H _ I h) fun v s1 ⟨x,H1,I1,r1,q1⟩=>thn (hb pins s1 σ H1 _ I1 q1) fun u s2 ⟨y,H2,I2,r2,q2⟩ =>
  thn (ho pins s2 σ H2 x y v u _ I2 r1 r2 q2) fun c s3 ⟨z,H3,I3,r3,k,e,q3⟩=>?_) hm
 subst e
 cases r3
 exact wpAny_truthy_bool ⟨H3,I3,q3⟩
noncomputable def aFp (r r':R2) (ta tb tc:TE):TE:=fun σ H Q=>ta σ H fun x H1=>tb σ H1 fun y H2=>r x y H2 fun z H3=>∃ k,z = .bl k /\
 (if k = true then tc σ H3 fun w' H4=>r' y w' H4 Q else Q (.bl false) H3)
theorem aGA {op op':CmpOp} {r r':R2} (ho:OpR X (compareOp op) r) (ho':OpR X (compareOp op') r') (ha:PE X a ta) (hb:PE X b tb) (hc:PE X c tc)
  (hm:lastMarks [op,op'] [b,c] = false:=by with_unfolding_all rfl):PE X (.Compare a [op,op'] [b,c] pos) (aFp r r' ta tb tc):=by
 intro pins s σ H Q I h
 refine Compare_chain (thn (ha pins s σ H _ I h) fun v s1 ⟨x,H1,I1,r1,q1⟩=>chain_link (thn (hb pins s1 σ H1 _ I1 q1) fun u s2 ⟨y,H2,I2,r2,q2⟩ =>
  thn (ho pins s2 σ H2 x y v u _ I2 r1 r2 q2) fun d s3 ⟨z,H3,I3,r3,k,e,q3⟩=>?_)) hm
 subst e
 cases r3
 refine wpAny_truthy_bool ?_
 cases k with
 | false=>exact ite_ff ⟨.bl false,H3,I3,rfl,q3⟩
 | true=>exact ite_tt (chain_last (thn (hc pins s3 σ H3 _ I3 q3) fun w' s4 ⟨z',H4,I4,r4,q4⟩=>ho' pins s4 σ H4 y z' u w' Q I4 r2 r4 q4))
theorem aDe:(sizeLine:Nat) < 2 ^ 63:=by rw [sizeLine_eq];decide
theorem aCW:OpR X (binaryOp .Add) (fun x y H Q=>∃ i j,x = .str i/\y = .str j/\i.length + j.length<=sizeLine/\Q (.str (i ++ j)) H):=by
 intro pins s σ H x y v u Q I rx ry h
 obtain ⟨i,j,rfl,rfl,hz,q⟩:=h
 obtain ⟨t,rfl⟩:=rx
 obtain ⟨t',rfl⟩:=ry
 exact add_str (fun t' tk=>⟨.str (i ++ j),H,I.tok _,⟨_,rfl⟩,q⟩) hz
theorem tK {x:V} {us:List Value} (r:cA [x] us):∃ u,us = [u]/\cR x u:=by
 cases r with
 | cons r1 r2=>cases r2;exact ⟨_,rfl,r1⟩
theorem aJc {x y:V} {us:List Value} (r:cA [x,y] us):∃ u w',us = [u,w']/\cR x u/\cR y w':=by
 cases r with
 | cons r1 r2 =>
  cases r2 with
  | cons r3 r4=>cases r4;exact ⟨_,_,rfl,r1,r3⟩
theorem aG2:lA X (.builtin "abs") (fun xs H Q=>∃ i,xs = [.int i]/\Q (.int (if i < 0 then -i else i)) H):=by
 intro pins s σ H xs us Q I r h
 obtain ⟨i,rfl,q⟩:=h
 obtain ⟨u,rfl,t,rfl⟩:=tK r
 exact call_abs_int fun u tk=>⟨.int (if i < 0 then -i else i),H,I.tok _,⟨_,rfl⟩,q⟩
theorem aEW (hc:X.calm = true):lA X (.builtin "min") (fun xs H Q=>∃ i j,xs = [.int i,.int j]/\Q (.int (if j < i then j else i)) H):=by
 intro pins s σ H xs us Q I r h
 obtain ⟨i,j,rfl,q⟩:=h
 obtain ⟨u,w',rfl,⟨t,rfl⟩,⟨t',rfl⟩⟩:=aJc r
 refine min_two_ints (I.ok.hd hc) fun h' tk k=>⟨_,H,I.kept k,?_,q⟩
 by_cases hj:j < i
 ·rw [if_pos hj,if_pos hj];exact ⟨_,rfl⟩
 ·rw [if_neg hj,if_neg hj];exact ⟨_,rfl⟩
theorem aEC:lA X (.type "int") (fun xs H Q=>(∃ i,xs = [.int i]/\Q (.int i) H) ∨ ∃ k,xs = [.bl k]/\Q (.int (if k then 1 else 0)) H):=by
 intro pins s σ H xs us Q I r h
 rcases h with ⟨i,rfl,q⟩ | ⟨k,rfl,q⟩
 ·obtain ⟨u,rfl,t,rfl⟩:=tK r
  exact call_int_int ⟨.int i,H,I,⟨_,rfl⟩,q⟩
 ·obtain ⟨u,rfl,r1⟩:=tK r
  cases r1
  exact call_int_bool ⟨.int (if k then 1 else 0),H,I.tok _,⟨_,rfl⟩,q⟩
theorem aAK:lA X (.type "str") (fun xs H Q=>∃ i,xs = [.int i]/\i.natAbs.log2 < 1920/\Q (.str (toString i)) H):=by
 intro pins s σ H xs us Q I r h
 obtain ⟨i,rfl,hz,q⟩:=h
 obtain ⟨u,rfl,t,rfl⟩:=tK r
 exact PySem.P.str_of_int hz ⟨.str _,H,I.tok _,⟨_,rfl⟩,q⟩
end
end L2
namespace L2
open PySem PySem.Spec PyProof.Rows
structure aJX (h:Heap) (x dx C:Addr) (mA:Str->Option Value):Prop where
 obj:h.get? x = some (PySem.W.instObj C dx)
 ns:h.Ns1 dx mA
 ne:dx ≠ x
theorem aEp {h:Heap} {dx:Addr} {mA:Str->Option Value} (n:h.Ns1 dx mA):∃ od,h.get? dx = some od/\∀ name,PySem.W.lookIn name od = some (mA name):=by
 obtain ⟨o,es,ep,ho,hd,hk,_,hm⟩:=n
 refine ⟨o,ho,fun name=>?_⟩
 have e:=hm name
 unfold nsFind findBy at e
 rw [<- Array.find?_toList] at e
 unfold PySem.W.lookIn
 rw [hd]
 dsimp only
 split
 ·rename_i y q
  rw [q] at e
  exact congrArg some e
 ·rename_i q
  rw [q] at e
  have a:es.toList.any (·.refKey) = false:=by
   rw [List.any_eq_false]
   intro y hy
   obtain ⟨z,t,hkey⟩:=hk y (Array.mem_toList_iff.mp hy)
   simp [DictEntry.refKey,hkey]
  have a':¬ es.toList.any (·.refKey) = true:=by rw [a];exact Bool.false_ne_true
  rw [if_neg a']
  exact congrArg some e
theorem aJX.look {h:Heap} {x dx C:Addr} {mA:Str->Option Value} (I:aJX h x dx C mA):∃ od,PySem.W.InstAt h x (PySem.W.instObj C dx) C (some od)/\∀ name,PySem.W.lookIn name od = some (mA name) :=
 let ⟨od,ho,hl⟩:=aEp I.ns
 ⟨od,⟨I.obj,rfl,rfl,ho⟩,hl⟩
section
variable {prog:Program} {w:World} {A:Around} {E:Value->Shared->Prop} {s:Shared} {K:PySem.W.Frag} {x dx C f:Addr} {mA:Str->Option Value} {name:Str} {v:Value}
end
section
variable {P:Program} {w:World} {H H':Hp} {h h':Heap} {a C dx:Addr} {fs fs':List (Str × V)}
theorem aH5 (hok:HOk P w H h) (e:H a = some (.ins C dx fs)):∃ mA,aJX h a dx C mA/\(∀ f,aIu (fs.lookup f) (mA f))/\PySem.Within mA (fs.map (·.1))/\fs.length<=1000/\H dx = some (.own a):=by
 obtain ⟨d,z,ne,ob,mA,n,r,q⟩:=(show fH P w H h a (.ins C dx fs) from hok a _ e)
 exact ⟨mA,⟨ob,n,ne⟩,r,q,z,d⟩
end
structure Cls (K:PySem.W.Frag) (C:Addr):Prop where
 pg:PySem.W.plainGet K C Str.empty = true
 hd:PySem.W.hasDictIn K C = true
 po:PySem.W.plainOver K C = true
 sa:PySem.W.findIn K (.ref C) "__setattr__" = some (some (.builtin "object.__setattr__"))
theorem Cls.get {K:PySem.W.Frag} {C:Addr} (c:Cls K C) (f:Str):PySem.W.plainGet K C f = true:=c.pg
section
variable {X:Cx} {pins:List (Addr × Obj)} {σ:St} {H:Hp} {s:Shared} {a C dx:Addr} {fs:List (Str × V)} {f:Str} {v:V} {A:Around} {E:Value->Shared->Prop}
end
section
variable {X:Cx} {o e value:Expr} {f:Str} {pos pos' tpos:Pos} {ta tv:TE}
end
section
variable {X:Cx} {pins:List (Addr × Obj)} {σ:St} {H:Hp} {s:Shared} {A:Around} {E:Value->Shared->Prop} {Q:Value->Shared->Prop} {c:Value} {b:Bool}
inductive vU (K:PySem.W.Frag) (H:Hp):V->Value->Prop where
 | non:vU K H .non (.type "NoneType")
 | bl (x:Bool):vU K H (.bl x) (.type "bool")
 | int (i:Int):vU K H (.int i) (.type "int")
 | str (x:Str):vU K H (.str x) (.type "str")
 | flt (x:UInt64):vU K H (.flt x) (.type "float")
 | lst {a:Addr} {xs:List V} (e:H a = some (.lst xs)):vU K H (.ref a) (.type "list")
 | frz {a:Addr} {o:Obj} {xs:List V} (e:H a = some (.frz o (.lst xs))):vU K H (.ref a) (.type "list")
 | tup {a:Addr} {xs:List V} (e:H a = some (.tup xs)):vU K H (.ref a) (.type "tuple")
 | dK {a:Addr} {kvs:List (Key × V)} (e:H a = some (.dK kvs)):vU K H (.ref a) (.type "dict")
 | dT {a:Addr} {kvs:List (List Key × V)} (e:H a = some (.dT kvs)):vU K H (.ref a) (.type "dict")
 | ins {a C dx:Addr} {fs:List (Str × V)} (e:H a = some (.ins C dx fs)) (cl:Cls K C) (ha:PySem.W.findIn K (.ref C) "__class__" = some (some (.builtin "object.__class__")))
   (hn:PySem.W.specialIn K (.builtin "object.__class__") "__get__" = some (some (.builtin "getset_descriptor.__get__"))) (htk:PySem.W.takesIn K (.builtin "object.__class__") = some true)
   (hm:PySem.W.mroIn K C (.type "object") = some true):vU K H (.ref a) (.ref C)
theorem mB {x:V} {u t:Value} (I:Inv X pins σ H s) (rx:cR x u) (ty:vU X.K H x t) (e:PySem.W.kitOne X.K t c = some b) (h:∀ tk,Q (.bool b) { s with toks:=tk }) :
  wpAny (model X.prog X.w) A (call (.builtin "isinstance") [u,c]) Q E s:=by
 cases ty with
 | non=>cases (show u = Value.none from rx);exact PySem.W.kia_one PySem.W.kitx_none I.kIn True.intro e (fun z=>nomatch z) h
 | bl y=>cases (show u = Value.bool y from rx);exact PySem.W.kia_one PySem.W.kitx_bool I.kIn True.intro e (fun z=>nomatch z) h
 | int i=>obtain ⟨t,q⟩:=(show ∃ t,u = Value.int i t from rx);cases q;exact PySem.W.kia_one PySem.W.kitx_int I.kIn True.intro e (fun z=>nomatch z) h
 | str y=>obtain ⟨t,q⟩:=(show ∃ t,u = Value.str y t from rx);cases q;exact PySem.W.kia_one PySem.W.kitx_str I.kIn True.intro e (fun z=>nomatch z) h
 | flt y=>obtain ⟨t,q⟩:=(show ∃ t,u = Value.float y t from rx);cases q;exact PySem.W.kia_one PySem.W.kitx_float I.kIn True.intro e (fun z=>nomatch z) h
 | @lst a xs ea =>
  cases (show u = Value.ref a from rx)
  obtain ⟨_,_,n,_,h1⟩:=(show fH X.prog X.w H s.heap a (.lst xs) from I.hok a _ ea)
  exact PySem.W.kia_one PySem.W.kitx_list I.kIn ⟨_,h1,rfl⟩ e (fun z=>nomatch z) h
 | @frz a ob xs ea =>
  cases (show u = Value.ref a from rx)
  obtain ⟨_,_,_,n,_,h1⟩:=(show fH X.prog X.w H s.heap a (.frz ob (.lst xs)) from I.hok a _ ea)
  exact PySem.W.kia_one PySem.W.kitx_list I.kIn ⟨_,h1,rfl⟩ e (fun z=>nomatch z) h
 | @tup a xs ea =>
  cases (show u = Value.ref a from rx)
  obtain ⟨_,_,_,p⟩:=(show fH X.prog X.w H s.heap a (.tup xs) from I.hok a _ ea)
  obtain ⟨o,h1,h2,_⟩:=p
  exact PySem.W.kia_one PySem.W.kitx_tuple I.kIn ⟨o,h1,h2⟩ e (fun z=>nomatch z) h
 | @dK a kvs ea =>
  cases (show u = Value.ref a from rx)
  obtain ⟨_,_,vs,_,p⟩:=(show fH X.prog X.w H s.heap a (.dK kvs) from I.hok a _ ea)
  obtain ⟨o,es,ep,h1,h2,_⟩:=p
  exact PySem.W.kia_one PySem.W.kitx_dict I.kIn ⟨o,h1,h2.1⟩ e (fun z=>nomatch z) h
 | @dT a kvs ea =>
  cases (show u = Value.ref a from rx)
  obtain ⟨_,_,xs,_,o,es,ep,h1,h2,_⟩:=(show fH X.prog X.w H s.heap a (.dT kvs) from I.hok a _ ea)
  exact PySem.W.kia_one PySem.W.kitx_dict I.kIn ⟨o,h1,h2.1⟩ e (fun z=>nomatch z) h
 | @ins a C dx fs ea cl ha hn htk hm =>
  cases (show u = Value.ref a from rx)
  obtain ⟨mA,O,_⟩:=aH5 I.hok ea
  obtain ⟨od,J,_⟩:=O.look
  exact PySem.W.kia_one (PySem.W.kitx_own (cl.get _) cl.hd ha hn htk hm) I.kIn J e (fun z=>nomatch z) h
end
end L2
namespace L2
open PySem PySem.Spec PyProof.Rows
structure eP (k:Nat) (A:Around):Prop where
 hd:A.handled = none
 dp:A.depth + 3 * k + 5 < recursionLimit
 un:A.units + 16 * k + 200 < cLine
theorem eP.mono {j k:Nat} {A:Around} (r:eP k A) (h:j<=k):eP j A:=⟨r.hd,by have:=r.dp;omega,by have:=r.un;omega⟩
theorem eP.deeper {k:Nat} {A:Around} (r:eP (k + 1) A) (env:Env):eP k (A.deeper env) :=
 ⟨r.hd,by have:=r.dp;show A.depth + 1 + 3 * k + 5 < _;omega,by have:=r.un;show A.units + 3 + 16 * k + 200 < _;omega⟩
theorem aCO {A:Around} {C:Addr} {us:List Value} {kw:List (Str × Value)}:(A.under (.builtin "type.__call__" ⟨.ref C :: us,kw⟩)).depth = A.depth + 1:=by
 first | rfl | simp [Around.under,Code.weight,Code.isCreation,Code.isGuard,Code.isCaller,Code.frames,Code.isFrame,guardIds]
theorem aDk {A:Around} {C:Addr} {us:List Value} {kw:List (Str × Value)}:(A.under (.builtin "type.__call__" ⟨.ref C :: us,kw⟩)).units = A.units + 1:=by
 first | rfl | simp [Around.under,Code.cUnits,Code.frames,Code.isFrame]
theorem eP.make {k:Nat} {A:Around} (r:eP (k + 1) A) (C:Addr) (us:List Value) (kw:List (Str × Value)):eP k (A.under (.builtin "type.__call__" ⟨.ref C :: us,kw⟩)) :=
 ⟨r.hd,by have:=r.dp;rw [aCO];omega,by have:=r.un;rw [aDk];omega⟩
theorem eP.depth {k:Nat} {A:Around} (r:eP k A):A.depth < recursionLimit:=by have:=r.dp;omega
noncomputable def aM1:TA:=fun _ H Q=>Q [] H
noncomputable def aNG (ta:TE) (tr:TA):TA:=fun σ H Q=>ta σ H fun x H1=>tr σ H1 fun xs H2=>Q (x :: xs) H2
section
variable {X:Cx} {e:Expr} {es:List Expr} {te:TE} {t:TA} {pos:Pos}
theorem aBH:PA X [] aM1:=fun _ _ _ _ H Q I h=>Calls.spliced_nil ⟨[],H,I,.nil,h⟩
theorem mY (ha:PE X e te) (hr:PA X es t) (hs:starEach (e :: es) X.env = (false,eval e X.env) :: starEach es X.env:=by rfl):PA X (e :: es) (aNG te t):=by
 intro pos pins s σ H Q I h
 rw [hs]
 show wpAny _ _ (spliced ((false,eval e X.env) :: backTo pos (starEach es X.env))) _ _ s
 refine Calls.spliced_cons (thn (ha pins s σ H _ I h) fun u s1 ⟨x,H1,I1,r1,q1⟩=>?_)
 exact thn (hr pos pins s1 σ H1 _ I1 q1) fun us s2 ⟨xs,H2,I2,r2,q2⟩=>⟨x :: xs,H2,I2,.cons r1 r2,q2⟩
noncomputable def aOl (t:TA):TE:=fun σ H Q=>t σ H fun xs H1=>xs.length<=sizeLine/\∀ p,H1 p = none->Q (.ref p) (upd H1 p (.tup xs))
noncomputable def aOa (t:TA):TE:=fun σ H Q=>t σ H fun xs H1=>xs.length<=sizeLine/\∀ p,H1 p = none->Q (.ref p) (upd H1 p (.lst xs))
theorem aFI {x1} (h:PA X es t):PE X (.Tuple es x1 pos) (aOl t):=by
 intro pins s σ H Q I hq
 refine wpAny_Tuple_spliced (thn (h pos pins s σ H _ I hq) fun us s1 ⟨xs,H1,I1,r,z,q⟩=>⟨by rw [<- r.length];exact z,?_⟩)
 have hf:H1 s1.heap.objs.size = none:=I1.hok.fresh (Nat.le_refl _)
 refine ⟨.ref s1.heap.objs.size,upd H1 s1.heap.objs.size (.tup xs),I1.laid (t':=s1.toks) (fun b u e=>Heap.get?_push_of_some _ e) (Nat.le_refl _) ?_,rfl,q _ hf⟩
 exact ⟨z,us,r,⟨_,Heap.get?_push_size _ rfl,rfl,_,rfl⟩⟩
theorem aL8 (h:PA X es t):PE X (.List es pos) (aOa t):=by
 intro pins s σ H Q I hq
 refine wpAny_List_spliced (thn (h pos pins s σ H _ I hq) fun us s1 ⟨xs,H1,I1,r,z,q⟩=>⟨by rw [<- r.length];exact z,?_⟩)
 have hf:H1 s1.heap.objs.size = none:=I1.hok.fresh (Nat.le_refl _)
 refine ⟨.ref s1.heap.objs.size,upd H1 s1.heap.objs.size (.lst xs),I1.laid (t':=s1.toks) (fun b u e=>Heap.get?_push_of_some _ e) (Nat.le_refl _) ?_,rfl,q _ hf⟩
 exact ⟨z,us,0,r,Heap.get?_push_size _ rfl⟩
end
noncomputable abbrev Sp:=List V->Hp->VK->XK->Prop
noncomputable abbrev CXT:=List Env->Hp->Shared->XK->Value->Shared->Prop
structure aC8 (P:Program) (w:World) (K:PySem.W.Frag) (mg:Str->Option Value) (base:Heap) (A:Around) (outer:List Env) (s:Shared) (H:Hp):Prop where
 frames:A.frames = some outer
 mod:Mod K mg base
 bs:∀ b o,base.get? b = some o->s.heap.get? b = some o/\H b = none
 bsz:base.objs.size<=s.heap.objs.size
 funs:s.heap.FunFrames base outer
 frf:∀ b ∈ frs outer,H b = none
 hok:HOk P w H s.heap
 bare:AllBare s.gens
noncomputable def CE (outer:List Env) (P:Program) (w:World) (H:Hp) (s:Shared) (Q:VK) (u:Value) (s':Shared):Prop :=
 ∃ v H',s'.os = s.os/\AllBare s'.gens/\Un (frs outer) [] H H' s.heap s'.heap/\HOk P w H' s'.heap/\cR v u/\Q v H'
noncomputable def CR (CX:CXT) (outer:List Env) (P:Program) (w:World) (H:Hp) (s:Shared) (Q:VK) (E:XK) (r:Result) (s':Shared):Prop :=
 match r with
 | .ok (.ret u)=>CE outer P w H s Q u s'
 | .ok _=>False
 | .error e=>CX outer H s E e s'
structure jJ (P:Program) (w:World) (K:PySem.W.Frag) (mg:Str->Option Value) (base:Heap) (CX:CXT) (k:Nat) (f:Addr) (fd:FuncData) (ps:List Str) (sp:Sp):Prop where
 len:∀ vs H Q E,sp vs H Q E->vs.length = ps.length
 run:∀ (A:Around) (outer:List Env) (s:Shared) (H:Hp) (args:Args) (us:List Value) (vs:List V) (Q:VK) (E:XK),eP k A->aC8 P w K mg base A outer s H->BindsTo s fd args (ps.zip us)->cA vs us->sp vs H Q E ->
  codeAny (model P w) A (.call (.ref f) args) (CR CX outer P w H s Q E) s
theorem jJ.mono {P:Program} {w:World} {K:PySem.W.Frag} {mg:Str->Option Value} {base:Heap} {CX:CXT} {j k:Nat} {f:Addr} {fd:FuncData} {ps:List Str} {sp:Sp} (F:jJ P w K mg base CX j f fd ps sp) (h:j<=k) :
  jJ P w K mg base CX k f fd ps sp:=⟨F.len,fun A outer s H args us vs Q E hr=>F.run A outer s H args us vs Q E (hr.mono h)⟩
theorem jJ.imp {P:Program} {w:World} {K:PySem.W.Frag} {mg:Str->Option Value} {base:Heap} {CX:CXT} {k:Nat} {f:Addr} {fd:FuncData} {ps:List Str} {sp sp':Sp} (F:jJ P w K mg base CX k f fd ps sp)
  (h:∀ vs H Q E,sp' vs H Q E->sp vs H Q E):jJ P w K mg base CX k f fd ps sp' :=
 ⟨fun vs H Q E q=>F.len vs H Q E (h _ _ _ _ q),fun A outer s H args us vs Q E hr he hb hv hs=>F.run A outer s H args us vs Q E hr he hb hv (h _ _ _ _ hs)⟩
theorem aC8.make {P:Program} {w:World} {K:PySem.W.Frag} {mg:Str->Option Value} {base:Heap} {A:Around} {outer:List Env} {s:Shared} {H:Hp} (e:aC8 P w K mg base A outer s H) (C:Addr) (us:List Value) (kw:List (Str × Value)) :
  aC8 P w K mg base (A.under (.builtin "type.__call__" ⟨.ref C :: us,kw⟩)) outer s H:=⟨by first | exact e.frames | (simpa [Around.under,Code.envs,Code.isFrame,pushEnvs] using e.frames),e.mod,e.bs,e.bsz,e.funs,e.frf,e.hok,e.bare⟩
section
variable {X:Cx} {pins:List (Addr × Obj)} {σ:St} {H:Hp} {s s':Shared}
theorem Inv.env0 (I:Inv X pins σ H s):aC8 X.prog X.w X.K X.mg X.base X.A X.stack s H :=
 ⟨I.ok.frames,I.ok.mod,I.bs,Nat.le_trans I.ok.bsz I.sz,I.stack,I.stkFree,I.hok,I.bare⟩
theorem Inv.after {Q:VK} {u:Value} (I:Inv X pins σ H s) (h:CE X.stack X.prog X.w H s Q u s'):EP X pins σ Q u s':=by
 obtain ⟨v,H',os,bare,un,hok,r,q⟩:=h
 obtain ⟨hh,g,d,t,os'⟩:=s'
 obtain rfl:os' = s.os:=os
 exact ⟨v,H',I.call (h':=hh) (g':=g) (d':=d) (t':=t) (ch:=[]) un hok bare (fun b z=>absurd z (by simp)),r,q⟩
end
noncomputable def aJb (sp:Sp) (dvs:List V) (E:XK) (t:TA):TE:=fun σ H Q=>t σ H fun vs H1=>sp (vs ++ dvs) H1 Q E
noncomputable def mG (K:PySem.W.Frag) (fd:FuncData) (ps:List Str) (ds:List Value):Prop :=
 ∀ (s:Shared) (us:List Value),K.In s.heap->(us ++ ds).length = ps.length->BindsTo s fd ⟨us,[]⟩ (ps.zip (us ++ ds))
theorem mG.all {K:PySem.W.Frag} {fd:FuncData} {ps:List Str} (h:∀ us:List Value,us.length = ps.length->bindArgs fd ⟨us,[]⟩ = pure (ps.zip us)):mG K fd ps []:=fun s us _ hl=>by
 rw [List.append_nil] at hl ⊢
 exact .of_eq (h us hl)
noncomputable def tV (CX:CXT) (X:Cx) (E:XK):Prop:=∀ (pins:List (Addr × Obj)) (σ:St) (H:Hp) (s:Shared) (e:Value) (s':Shared),Inv X pins σ H s->CX X.stack H s E e s'->X.xe e s'
section
variable {X:Cx} {CX:CXT} {k:Nat} {f C:Addr} {fd:FuncData} {ps:List Str} {sp:Sp} {dvs:List V} {ds:List Value} {E:XK} {x m:Str} {p pos apos:Pos} {e o:Expr} {es:List Expr} {ta:TE} {t:TA}
theorem aDm {pins:List (Addr × Obj)} {σ:St} {H:Hp} {s:Shared} {Q:VK} {us:List Value} {vs:List V} (F:jJ X.prog X.w X.K X.mg X.base CX k f fd ps sp) (hr:eP k X.A) (hb:mG X.K fd ps ds) (hd:cA dvs ds) (hx:tV CX X E)
  (I:Inv X pins σ H s) (r:cA vs us) (h:sp (vs ++ dvs) H Q E):wpAny (model X.prog X.w) X.A (call (.ref f) us) (EP X pins σ Q) X.xe s:=by
 have r2:cA (vs ++ dvs) (us ++ ds):=r.append hd
 have hl:(us ++ ds).length = ps.length:=by rw [<- r2.length];exact F.len _ _ _ _ h
 refine wpAny_call (codeAny_mono (F.run X.A X.stack s H ⟨us,[]⟩ (us ++ ds) (vs ++ dvs) Q E hr I.env0 (hb s us I.kIn hl) r2 h) fun r s' hq=>?_)
 cases r with
 | error e=>exact hx pins σ H s e s' I hq
 | ok fl =>
  cases fl with
  | ret u=>exact I.after hq
  | next=>exact False.elim hq
  | brk=>exact False.elim hq
  | cont=>exact False.elim hq
theorem aHA (F:jJ X.prog X.w X.K X.mg X.base CX k f fd ps sp) (hr:eP k X.A) (hg:Gl X x) (hm:X.mg x = some (.ref f)) (hk:PySem.W.keepIn X.K (.ref f) = true) (hb:mG X.K fd ps ds) (hd:cA dvs ds) (hx:tV CX X E)
  (ha:PA X (e :: es) t) (hdb:(x == ("__debug__":Str)) = false:=by decide) (he:starEach (e :: es) X.env = (false,eval e X.env) :: starEach es X.env:=by rfl) (hpl:(backTo pos (starEach es X.env)).any (·.1) = false:=by rfl) :
  PE X (.Call (.Name x p) (e :: es) [] pos) (aJb sp dvs E t):=by
 intro pins s σ H Q I h
 refine wpAny_Call_Name_kw (kX I hg hm ?_ hdb)
 refine PySem.W.callWith_K (h₀:=X.base) I.ok.mod.kin hk (thn (ha pos pins s σ H _ I h) fun us s1 ⟨vs,H1,I1,r,q⟩=>⟨I1.kIn,?_⟩) he hpl
 exact aDm F hr hb hd hx I1 r q
theorem aGO (F:jJ X.prog X.w X.K X.mg X.base CX k f fd ps sp) (hr:eP k X.A) (hg:Gl X x) (hm:X.mg x = some (.ref f)) (hk:PySem.W.keepIn X.K (.ref f) = true) (hb:mG X.K fd ps ds) (hd:cA dvs ds) (hx:tV CX X E)
  (hdb:(x == ("__debug__":Str)) = false:=by decide):PE X (.Call (.Name x p) [] [] pos) (aJb sp dvs E aM1):=by
 intro pins s σ H Q I h
 refine wpAny_Call_Name_kw (kX I hg hm ?_ hdb)
 exact PySem.W.callWith_K0 I.kIn hk (aDm (us:=[]) F hr hb hd hx I .nil h)
end
section
variable {X:Cx} {CX:CXT} {k:Nat} {f C:Addr} {fd:FuncData} {ps ks:List Str} {sp:Sp} {E:XK} {x m:Str} {p pos apos kpos:Pos} {e o:Expr} {es:List Expr} {kws:List Keyword} {te ta:TE} {t tk:TA} {nm:Option Str}
variable {g:List Value->List Value->List Value} {gV:List V->List V->List V}
end
structure aQ (N P:List Str) (sc:Scope):Prop where
 kind:sc.kind = .function
 co:sc.isCoroutine = false
 gen:sc.isGenerator = false
 nd:N.Nodup
 pre:N.take P.length = P
 par:∀ x ∈ P,sc.names.lookup x = some .local ∨ sc.names.lookup x = some .cell
 nofree:∀ y ∈ sc.names,y.2 ≠ .free
theorem aAD {kindOf:Str->Option NameKind} {x:Str}:∀ {binds:List (Str × Value)} {m:Str->Option Value},(∀ v,(x,v) ∉ binds)->bindL kindOf binds m x = m x
 | [],_,_=>rfl
 | (n,v) :: r,m,h=>by
  unfold bindL
  rw [aAD fun w hw=>h w (List.mem_cons_of_mem _ hw)]
  split
  ·have:x ≠ n:=by rintro rfl;exact h v List.mem_cons_self
   simp [this]
  ·rfl
theorem aAz {kindOf:Str->Option NameKind} {x:Str}:∀ {binds:List (Str × Value)} {m:Str->Option Value},(∀ v,(x,v) ∉ binds)->bindC kindOf binds m x = m x
 | [],_,_=>rfl
 | (n,v) :: r,m,h=>by
  unfold bindC
  rw [aAz fun w hw=>h w (List.mem_cons_of_mem _ hw)]
  split
  ·rfl
  ·have:x ≠ n:=by rintro rfl;exact h v List.mem_cons_self
   simp [this]
theorem aAB {kindOf:Str->Option NameKind} {x:Str} {v:Value}:∀ {P:List Str} {vs:List Value} {i:Nat} {m:Str->Option Value},P.Nodup->P[i]? = some x->vs[i]? = some v->kindOf x = some .local ->
  bindL kindOf (P.zip vs) m x = some v
 | [],_,_,_,_,h,_,_=>by simp at h
 | _ :: _,[],_,_,_,_,h,_=>by simp at h
 | p :: P,w :: vs,0,m,nd,h1,h2,hk=>by
  simp at h1 h2;subst h1;subst h2
  show bindL kindOf ((p,w) :: P.zip vs) m p = _
  unfold bindL
  rw [aAD fun v hv=>(List.nodup_cons.mp nd).1 (List.of_mem_zip hv).1,if_pos hk]
  simp
 | p :: P,w :: vs,i + 1,m,nd,h1,h2,hk=>by
  show bindL kindOf ((p,w) :: P.zip vs) m x = _
  unfold bindL
  exact aAB (i:=i) (List.nodup_cons.mp nd).2 (by simpa using h1) (by simpa using h2) hk
theorem aAF {kindOf:Str->Option NameKind} {x:Str} {v:Value}:∀ {P:List Str} {vs:List Value} {i:Nat} {m:Str->Option Value},P.Nodup->P[i]? = some x->vs[i]? = some v->kindOf x ≠ some .local ->
  bindC kindOf (P.zip vs) m x = some v
 | [],_,_,_,_,h,_,_=>by simp at h
 | _ :: _,[],_,_,_,_,h,_=>by simp at h
 | p :: P,w :: vs,0,m,nd,h1,h2,hk=>by
  simp at h1 h2;subst h1;subst h2
  show bindC kindOf ((p,w) :: P.zip vs) m p = _
  unfold bindC
  rw [aAz fun v hv=>(List.nodup_cons.mp nd).1 (List.of_mem_zip hv).1,if_neg hk]
  simp
 | p :: P,w :: vs,i + 1,m,nd,h1,h2,hk=>by
  show bindC kindOf ((p,w) :: P.zip vs) m x = _
  unfold bindC
  exact aAF (i:=i) (List.nodup_cons.mp nd).2 (by simpa using h1) (by simpa using h2) hk
noncomputable def start (N:List Str) (vs:List V):St:=vs.map some ++ List.replicate (N.length - vs.length) none
noncomputable def kD (CX:CXT) (P:Program) (w:World) (K:PySem.W.Frag) (mg:Str->Option Value) (base:Heap) (N:List Str) (qual:Str) (scope:Scope) (f:Addr) (cd:Value) (A:Around) (outer:List Env) (s:Shared) (H:Hp) (E:XK):Cx where
 prog:=P
 w:=w
 K:=K
 mg:=mg
 base:=base
 A:=A.deeper (envOfC qual scope s.heap.objs.size f cd)
 N:=N
 s₀:=s
 H₀:=H
 env:=envOfC qual scope s.heap.objs.size f cd
 outer:=outer
 stack:=envOfC qual scope s.heap.objs.size f cd :: outer
 ex:=[]
 calm:=true
 fn:=fun _=>true
 pn:=[]
 xe:=fun e s'=>wpAny (model P w) (A.deeper (envOfC qual scope s.heap.objs.size f cd)) (leaving (envOfC qual scope s.heap.objs.size f cd) e) (fun _ s''=>CX outer H s E e s'') (fun e' s''=>CX outer H s E e' s'') s'
theorem aCj {sc:Scope} {n:Nat} {x:Str} (h:sc.names.lookup x = some .cell):∃ c,(cellsFrom n sc.names []).lookup x = some c:=by
 have q:=PySem.W.cellsFrom_some sc.names n [] (.inl h)
 exact Option.isSome_iff_exists.mp q
theorem aEG {CX:CXT} {P:Program} {w:World} {K:PySem.W.Frag} {mg:Str->Option Value} {base:Heap} {N ps:List Str} {qual:Str} {scope:Scope} {f:Addr} {cd:Value} {A:Around} {outer:List Env} {s s1:Shared} {H:Hp} {E:XK} {us:List Value} {vs:List V}
  (S:aQ N ps scope) (hd:A.handled = none) (e0:aC8 P w K mg base A outer s H) (hl:vs.length = ps.length) (r:cA vs us)
  (x:InCallC s s.heap.objs.size (bindL (envOfC qual scope s.heap.objs.size f cd).kindOf (ps.zip us) fun _=>none) (cellsFrom (s.heap.objs.size + 1) scope.names []) (bindC (envOfC qual scope s.heap.objs.size f cd).kindOf (ps.zip us) fun _=>none) s1) :
  Inv (kD CX P w K mg base N qual scope f cd A outer s H E) [] (start N vs) H s1:=by
 have hpl:ps.length<=N.length:=by have:=congrArg List.length S.pre;rw [List.length_take] at this;omega
 obtain ⟨h1,tk,rfl,hk⟩:=x.done
 have noA:∀ b:Addr,b ∉ (kD CX P w K mg base N qual scope f cd A outer s H E).ex:=fun b z=>absurd (show b ∈ ([]:List Addr) from z) (by simp)
 refine ⟨⟨e0.mod,S.kind,rfl,rfl,Nat.le_refl _,fun y z c h1 h2=>?_,fun y hy=>?_,fun y c _ h=>?_,fun _=>hd,Around.frames_deeper e0.frames,.inr ⟨rfl,rfl⟩,fun b z=>absurd z (noA b),e0.bs,e0.bsz,fun b _ _=>noA b,fun b z=>absurd z (noA b),e0.funs,e0.frf⟩,
  rfl,e0.bare,Un.kept hk,⟨_,x.toInCall.ns,fun i y v h1 h2 h3=>?_⟩,fun y c h=>⟨_,x.cell y c h⟩,e0.hok.fresh (Nat.le_refl _),fun y c h=>?_,fun p hp=>absurd (show p ∈ ([]:List (Addr × Obj)) from hp) (by simp),e0.hok.kept hk,?_⟩
 ·exact name_of_addr x.apart (PySem.mem_of_lookup h1) (PySem.mem_of_lookup h2)
 ·have hy:scope.names.lookup y = some .cell ∨ scope.names.lookup y = some .free:=hy
  rcases hy with hy | hy
  ·exact aCj hy
  ·exact absurd rfl (S.nofree _ (PySem.mem_of_lookup hy))
 ·exact Nat.le_of_lt (x.above y c (PySem.mem_of_lookup h))
 ·have hi:i < vs.length:=by
   unfold start at h2
   by_cases hi:i < vs.length
   ·exact hi
   ·rw [List.getElem?_append_right (by simpa using hi)] at h2
    rw [List.getElem?_replicate] at h2
    split at h2<;>cases h2
  have ha:vs[i]? = some v:=by
   unfold start at h2
   rw [List.getElem?_append_left (by simpa using hi),List.getElem?_map] at h2
   cases e:vs[i]? with
   | none=>rw [e] at h2;cases h2
   | some a=>rw [e] at h2;cases h2;rfl
  obtain ⟨u,hu,rv⟩:=r.get ha
  have hp:ps[i]? = some y:=by
   rw [<- S.pre,List.getElem?_take_of_lt (by omega)];exact h1
  have ndP:ps.Nodup:=by rw [<- S.pre];exact S.nd.sublist (List.take_sublist _ _)
  refine ⟨u,rv,?_⟩
  rcases S.par y (List.mem_of_getElem? hp) with k | k
  ·exact .inl ⟨k,aAB ndP hp hu k⟩
  ·obtain ⟨c,e⟩:=aCj (n:=s.heap.objs.size + 1) k
   refine .inr ⟨.inl k,c,e,?_⟩
   have q:=x.cell y c e
   rw [aAF ndP hp hu (by show scope.names.lookup y ≠ _;rw [k];decide)] at q
   exact q
 ·exact e0.hok.fresh (Nat.le_of_lt (x.above y c (PySem.mem_of_lookup h)))
 ·unfold start
  show _ = N.length
  rw [List.length_append,List.length_map,List.length_replicate]
  omega
theorem aE6 {CX:CXT} {P:Program} {w:World} {K:PySem.W.Frag} {mg:Str->Option Value} {base:Heap} {k:Nat} {f:Addr} {name qual:Str} {params:Arguments} {body:List Stmt} {scope:Scope} {dV kV doc pm cdv ct oc:Value} {an od:Option Addr}
  {osl:Array (Option Value)} {N ps:List Str} {sp:Sp} (lk:K.lookup f = some ⟨oc,od,.func (PySem.W.fnOf name qual params body scope dV kV doc pm an cdv ct),osl⟩) (hcd:PySem.W.codeIn K cdv qual = true) (S:aQ N ps scope)
  (len:∀ vs H Q E,sp vs H Q E->vs.length = ps.length)
  (hbody:∀ (A:Around) (outer:List Env) (s:Shared) (H:Hp) (vs:List V) (Q:VK) (E:XK),eP k (A.deeper (envOfC qual scope s.heap.objs.size f cdv))->sp vs H Q E ->
   ∃ t,PSs (kD CX P w K mg base N qual scope f cdv A outer s H E) body t/\t { nx:=fun _ H'=>Q .non H',rt:=Q } (start N vs) H) :
  jJ P w K mg base CX (k + 1) f (PySem.W.fnOf name qual params body scope dV kV doc pm an cdv ct) ps sp:=by
 refine ⟨len,fun A outer s H args us vs Q E hr e0 hb r hsp=>?_⟩
 have hl:=len _ _ _ _ hsp
 have KX:K.In s.heap:=e0.mod.kin.keeps fun b o e=>(e0.bs b o e).1
 have lim:s.heap.NoLimit:=e0.mod.nolimit.keeps fun b o e=>(e0.bs b o e).1
 have hkind:∀ y ∈ ps.zip us,scope.names.lookup y.1 = some .local ∨ (scope.names.lookup y.1 = some .cell/\((cellsFrom (s.heap.objs.size + 1) scope.names []).lookup y.1).isSome = true):=fun ⟨n,v⟩ hy=>by
  rcases S.par n (List.of_mem_zip hy).1 with q | q
  ·exact .inl q
  ·exact .inr ⟨q,PySem.W.cellsFrom_some _ _ _ (.inl q)⟩
 refine codeAny_call_function hr.depth (KX _ _ lk) rfl S.co S.gen rfl (PySem.W.codeRec_of KX hcd) (hb _ _ _ _ ?_)
 refine wpAny_newFunctionEnv_cells S.kind hkind fun env he s1 x=>?_
 subst he
 refine ⟨lim.keeps x.toInCall.keep,codeAny_func ?_⟩
 obtain ⟨t,ht,hq⟩:=hbody A outer s H vs Q E (hr.deeper _) hsp
 have I:Inv (kD CX P w K mg base N qual scope f cdv A outer s H E) [] (start N vs) H s1:=aEG S hr.hd e0 hl r x
 refine wpAny_mono (ht [] s1 (start N vs) H _ I hq) (fun fl s' hs=>?_) fun e s' hs=>hs
 have fin:∀ {σ':St} {H':Hp} {v:V} {u:Value},Inv (kD CX P w K mg base N qual scope f cdv A outer s H E) [] σ' H' s'->cR v u->Q v H'->CE outer P w H s Q u s' :=
  fun {σ' H' v u} J rv q=>⟨v,H',J.os,J.bare,J.base,J.hok,rv,q⟩
 cases fl with
 | ret u =>
  obtain ⟨v,σ',H',J,rv,q⟩:=hs
  exact fin J rv q
 | next =>
  obtain ⟨σ',H',J,q⟩:=hs
  exact fin (v:=V.non) (u:=Value.none) J rfl q
 | brk =>
  obtain ⟨_,_,_,q⟩:=hs
  exact False.elim q
 | cont =>
  obtain ⟨_,_,_,q⟩:=hs
  exact False.elim q
end L2
namespace L2
open PySem PySem.Spec PyProof.Rows
section
variable {X:Cx} {x:Str} {p pos:Pos} {e:Expr} {es:List Expr} {t:TA} {id T:String} {r:List V->Hp->VK->Prop}
noncomputable def tCB (r:List V->Hp->VK->Prop) (t:TA):TE:=fun σ H Q=>t σ H fun vs H1=>r vs H1 Q
theorem zE (hc:lA X (.builtin id) r) (hg:Gl X x) (hm:X.mg x = none) (hv:bootBuiltins x = some (.builtin id)) (ha:PA X (e :: es) t) (hn:x ≠ "__name__":=by decide) (hdb:(x == ("__debug__":Str)) = false:=by decide)
  (he:starEach (e :: es) X.env = (false,eval e X.env) :: starEach es X.env:=by rfl) (hpl:(backTo pos (starEach es X.env)).any (·.1) = false:=by rfl):PE X (.Call (.Name x p) (e :: es) [] pos) (tCB r t):=by
 intro pins s σ H Q I h
 refine wpAny_Call_Name_kw (yF I hg hm hv ?_ hn hdb)
 exact PyProof.Rows.callWith_builtin1 (thn (ha pos pins s σ H _ I h) fun us s1 ⟨vs,H1,I1,r1,q1⟩=>hc pins s1 σ H1 vs us Q I1 r1 q1) he hpl
theorem aEO (hc:lA X (.type T) r) (hg:Gl X x) (hm:X.mg x = none) (hv:bootBuiltins x = some (.type T)) (ha:PA X (e :: es) t) (hn:x ≠ "__name__":=by decide) (hdb:(x == ("__debug__":Str)) = false:=by decide)
  (he:starEach (e :: es) X.env = (false,eval e X.env) :: starEach es X.env:=by rfl) (hpl:(backTo pos (starEach es X.env)).any (·.1) = false:=by rfl):PE X (.Call (.Name x p) (e :: es) [] pos) (tCB r t):=by
 intro pins s σ H Q I h
 refine wpAny_Call_Name_kw (yF I hg hm hv ?_ hn hdb)
 exact PyProof.Rows.callWith_type1 (thn (ha pos pins s σ H _ I h) fun us s1 ⟨vs,H1,I1,r1,q1⟩=>hc pins s1 σ H1 vs us Q I1 r1 q1) he hpl
end
end L2
namespace HT
open PySem PyProof.Rows
section
open PySem.SeqAt
open PySem.AutoSeq1 (wpAny_loadPart')
open PySem.MeetsSeq PySem.MeetsSeq2 PySem.MeetsSeq3
end
section
variable {prog:Program} {w:World} {A:Around} {E:Value->Shared->Prop} {s:Shared}
theorem cat_tup {t b:Addr} {vs ws:List Value} {Q:Value->Shared->Prop} (ht:IsTup s.heap t vs.toArray) (hb:IsTup s.heap b ws.toArray) (hv:vs ≠ [])
  (h1:ws = []->Q (.ref t) s) (h2:ws ≠ []->Q (.ref s.heap.objs.size) { s with heap:=s.heap.push { cls:=.type "tuple",data:=.seq (vs ++ ws).toArray } })
  (hsz:vs.length + ws.length<=sizeLine):wpAny (model prog w) A (binaryOp .Add (.ref t) (.ref b)) Q E s:=by
 obtain ⟨⟨cls,dd,data,sl⟩,ho,hc,n,hd⟩:=id ht
 obtain ⟨⟨cls2,dd2,data2,sl2⟩,ho2,hc2,n2,hd2⟩:=id hb
 simp only at hc hd hc2 hd2
 subst hc hd hc2 hd2
 have e:vs.toArray ++ ws.toArray = (vs ++ ws).toArray:=by simp
 by_cases hw:ws = []
 ·exact concat_meets ⟨_,ho,rfl⟩ ⟨_,ho2,rfl⟩ noFill_tuple_add seq_tuple_add PySem.F.slot_tuple_add PySem.F.entry_tuple_add (PySem.F.args_tuple_add_2 _ _)
   (tuple_addW1 t b vs.toArray ws.toArray n n2 dd dd2 sl sl2 (by simpa using hv) (by simp [hw])) ⟨ho,ho2,h1 hw⟩
 ·refine concat_meets ⟨_,ho,rfl⟩ ⟨_,ho2,rfl⟩ noFill_tuple_add seq_tuple_add PySem.F.slot_tuple_add PySem.F.entry_tuple_add (PySem.F.args_tuple_add_2 _ _)
   (tuple_addW2 t b vs.toArray ws.toArray n n2 dd dd2 sl sl2 (by simpa using hv) (by simpa using hw) (by rw [List.size_toArray,List.size_toArray];exact hsz)) ⟨ho,ho2,?_⟩
  rw [e]
  exact h2 hw
noncomputable def sIx (n d:Nat):Option Int->Nat
 | none=>d
 | some v=>if v < 0 then (v + (n:Int)).toNat else min v.toNat n
theorem sIx_none (n d:Nat):sIx n d none = d:=rfl
theorem sIx_nat (n d k:Nat):sIx n d (some (k:Int)) = min k n:=by
 show (if (k:Int) < 0 then ((k:Int) + (n:Int)).toNat else min (k:Int).toNat n) = min k n
 rw [if_neg (by omega),Int.toNat_natCast]
theorem aJN (n d:Nat) (hd:d<=n) (o:Option Int):sIx n d o<=n:=by
 cases o with
 | none=>exact hd
 | some v =>
  show (if v < 0 then (v + (n:Int)).toNat else min v.toNat n)<=n
  by_cases hv:v < 0
  ·rw [if_pos hv];omega
  ·rw [if_neg hv];exact Nat.min_le_right _ _
theorem aDN (v:Int) (n d:Nat):(if v < 0 then max (v + (n:Int)) 0 else min v (n:Int)) = ((sIx n d (some v):Nat):Int):=by
 show (if v < 0 then max (v + (n:Int)) 0 else min v (n:Int)) = (((if v < 0 then (v + (n:Int)).toNat else min v.toNat n):Nat):Int)
 by_cases hv:v < 0
 ·simp only [if_pos hv];omega
 ·simp only [if_neg hv];omega
theorem aDz (lo hi:Option Int) (n:Nat):Builtin.Slice.sliceAdjust lo hi 1 (n:Int) = (((sIx n 0 lo:Nat):Int),((sIx n n hi:Nat):Int)):=by
 have h1:¬ ((1:Int) < 0):=by omega
 unfold Builtin.Slice.sliceAdjust
 simp only [h1,if_false]
 refine Prod.ext ?_ ?_
 ·cases lo with
  | none=>rfl
  | some v=>exact aDN v n 0
 ·cases hi with
  | none=>rfl
  | some v=>exact aDN v n n
theorem aDy (i j:Nat):Builtin.Slice.slicePlaces (i:Int) (j:Int) 1 = j - i:=by
 unfold Builtin.Slice.slicePlaces
 have h1:(1:Int) > 0:=by omega
 simp only [h1,if_true,Int.ediv_one]
 split<;>omega
theorem zD {v:Value} {o:Option Int} {Q:Option Int->Shared->Prop} (p:IsPart v o) (h:Q o s):wpAny (model prog w) A (Builtin.Slice.slicePartIndex v) Q E s:=by
 cases p with
 | none=>exact slicePart_none h
 | int i t=>exact slicePart_int h
theorem mM {sl:Addr} {vl vu:Value} {lo hi:Option Int} {n:Nat} {Q:Int × Int × Nat->Shared->Prop} (hs:s.heap.IsSliceOf sl vl vu .none) (pl:IsPart vl lo) (pu:IsPart vu hi)
  (h:Q (((sIx n 0 lo:Nat):Int),1,sIx n n hi - sIx n 0 lo) s):wpAny (model prog w) A (Builtin.Slice.sliceApplied (.ref sl) (pure (n:Int))) Q E s:=by
 obtain ⟨os,hos,hcs,hds⟩:=id hs
 unfold Builtin.Slice.sliceApplied Builtin.Slice.sliceFields
 refine wpAny_bind (wpAny_bind (wpAny_field hos hds (x:=vl) rfl (wpAny_bind (wpAny_field hos hds (x:=vu) rfl (wpAny_bind (wpAny_field hos hds (x:=.none) rfl (wpAny_pure ?_)))))))
 refine wpAny_bind (slicePart_none ?_)
 show wpAny _ _ (if ((1:Int) == 0) = true then _ else _) _ _ s
 rw [if_neg (by decide)]
 refine wpAny_bind (zD pl (wpAny_bind (zD pu (wpAny_bind (wpAny_pure ?_)))))
 show wpAny _ _ (match Builtin.Slice.sliceAdjust lo hi 1 (n:Int) with | (lo,hi)=>pure (lo,(1:Int),Builtin.Slice.slicePlaces lo hi 1)) _ _ s
 rw [aDz lo hi n]
 show wpAny _ _ (pure (((sIx n 0 lo:Nat):Int),(1:Int),Builtin.Slice.slicePlaces ((sIx n 0 lo:Nat):Int) ((sIx n n hi:Nat):Int) 1)) _ _ s
 rw [aDy]
 exact wpAny_pure h
theorem aGq (xs:Array Value) (i k:Nat):((List.range k).filterMap fun (m:Nat)=>xs[((i:Int) + (m:Int) * 1).toNat]?).toArray = ((xs.toList.drop i).take k).toArray:=by
 have e:(fun (m:Nat)=>xs[((i:Int) + (m:Int) * 1).toNat]?) = fun m=>xs[i + m]?:=by
  funext m
  have:((i:Int) + (m:Int) * 1).toNat = i + m:=by omega
  rw [this]
 rw [e]
 have:=pick_run xs i k
 rw [List.filterMap_map] at this
 have e2:((fun x=>xs[x]?) ∘ fun x=>i + x) = fun m=>xs[i + m]?:=rfl
 rw [e2] at this
 rw [this]
theorem getItem_tuple_cut {t sl:Addr} {items:Array Value} {vl vu:Value} {lo hi:Option Int} {Q:Value->Shared->Prop} (ht:IsTup s.heap t items) (hs:s.heap.IsSliceOf sl vl vu .none) (pl:IsPart vl lo) (pu:IsPart vu hi)
  (hw:¬ (sIx items.size 0 lo = 0/\sIx items.size items.size hi = items.size))
  (h:Q (.ref s.heap.objs.size) { s with heap:=s.heap.push { cls:=.type "tuple",data:=.seq ((items.toList.drop (sIx items.size 0 lo)).take (sIx items.size items.size hi - sIx items.size 0 lo)).toArray } })
  (hsz:items.size<=sizeLine):wpAny (model prog w) A (getItem (.ref t) (.ref sl)) Q E s:=by
 have htake:sizeOk (.seq ((items.toList.drop (sIx items.size 0 lo)).take (sIx items.size items.size hi - sIx items.size 0 lo)).toArray):=by
  show ((items.toList.drop (sIx items.size 0 lo)).take (sIx items.size items.size hi - sIx items.size 0 lo)).toArray.size<=sizeLine
  rw [List.size_toArray,List.length_take,List.length_drop,Array.length_toList]
  omega
 have hj:sIx items.size items.size hi<=items.size:=aJN _ _ (Nat.le_refl _) hi
 obtain ⟨os,hos,hcs,hds⟩:=id hs
 have hTs:s.TypeIs (.ref sl) "slice":=⟨os,hos,hcs⟩
 unfold getItem
 try with_reducible refine wpAny_holding ?_
 first | refine wpAny_bind (wpAny_pure ?_) | skip
 refine wpAny_bind (wpAny_sequenceKey ht.typeIs (by decide) ?_)
 refine wpAny_bind (wpAny_callSpecial?_slot (name:=Str.ofString "__getitem__") ht.typeIs PyProof.Rows.slot_tuple_getitem
  (wpAny_call_entry PyProof.Rows.slot_tuple_getitem ht.typeIs entry_tuple_getitem ?_ (args_tuple_getitem _ _)))
 show wpAny _ _ (Builtin.Tuple.tupleItemsOf (.ref t) >>= _) _ _ s
 refine wpAny_bind (tupleItemsOf_ ht ?_)
 refine wpAny_bind (wpAny_typeOf hTs ?_)
 rw [if_pos (by decide)]
 refine wpAny_bind (mM hs pl pu ?_)
 have hno:¬ ((((sIx items.size 0 lo:Nat):Int) == 0 && (1:Int) == 1 && (sIx items.size items.size hi - sIx items.size 0 lo) == items.size) = true):=by
  intro q
  rw [Bool.and_eq_true,Bool.and_eq_true] at q
  have q1:((sIx items.size 0 lo:Nat):Int) = 0:=eq_of_beq q.1.1
  have q2:sIx items.size items.size hi - sIx items.size 0 lo = items.size:=eq_of_beq q.2
  exact hw ⟨by omega,by omega⟩
 show wpAny _ _ (if (((sIx items.size 0 lo:Nat):Int) == 0 && (1:Int) == 1 && (sIx items.size items.size hi - sIx items.size 0 lo) == items.size) = true then _ else _) _ _ s
 rw [if_neg hno,aGq]
 first
  | exact wpAny_bind (m:=Builtin.Tuple.tupleExact _) (wpAny_newObj_type (wpAny_pure ⟨_,rfl,wpAny_pure h⟩) htake)
  | exact wpAny_bind (m:=Builtin.Tuple.tupleExact _) (wpAny_newObj_type (wpAny_bind (wpAny_pure (wpAny_pure ⟨_,rfl,wpAny_pure h⟩))) htake)
  | exact wpAny_bind (wpAny_bind (m:=Builtin.Tuple.tupleExact _) (wpAny_newObj_type (wpAny_pure (wpAny_pure ⟨_,rfl,wpAny_pure h⟩)) htake))
  | exact wpAny_bind (wpAny_bind (m:=Builtin.Tuple.tupleExact _) (wpAny_newObj_type (wpAny_pure ⟨_,rfl,wpAny_pure h⟩) htake))
end
end HT
namespace L2
open PySem PySem.Spec PyProof.Rows
noncomputable abbrev TO:=St->Hp->(Option Int->Hp->Prop)->Prop
noncomputable def PO (X:Cx) (e:Option Expr) (t:TO):Prop :=
 ∀ (pins:List (Addr × Obj)) (s:Shared) (σ:St) (H:Hp) (Q:Option Int->Hp->Prop),Inv X pins σ H s->t σ H Q ->
  wpAny (model X.prog X.w) X.A (evalPart e X.env) (fun u s'=>∃ o H',Inv X pins σ H' s'/\IsPart u o/\Q o H') X.xe s
noncomputable def aIF:TO:=fun _ H Q=>Q none H
noncomputable def aM4 (t:TE):TO:=fun σ H Q=>t σ H fun x H1=>∃ i,x = .int i/\Q (some i) H1
section
variable {X:Cx} {e:Expr} {te:TE} {lo hi:Option Expr} {tl th:TO} {pos p2:Pos}
theorem aIN:PO X none aIF:=by
 intro pins s σ H Q I h
 rw [evalPart_none]
 exact wpAny_pure ⟨none,H,I,.none,h⟩
theorem aH2 (h:PE X e te):PO X (some e) (aM4 te):=by
 intro pins s σ H Q I hw
 rw [evalPart_some]
 refine thn (h pins s σ H _ I hw) fun u s1 ⟨x,H1,I1,r1,q1⟩=>?_
 obtain ⟨i,rfl,q⟩:=q1
 obtain ⟨t,rfl⟩:=r1
 exact ⟨some i,H1,I1,.int i t,q⟩
noncomputable def SlR (X:Cx) (r:V->Option Int->Option Int->Hp->VK->Prop):Prop :=
 ∀ (pins:List (Addr × Obj)) (s:Shared) (σ:St) (H:Hp) (x:V) (v vl vu:Value) (lo hi:Option Int) (sl:Addr) (Q:VK),Inv X pins σ H s->cR x v->s.heap.IsSliceOf sl vl vu .none->IsPart vl lo->IsPart vu hi->r x lo hi H Q ->
  ∃ T id,typeLookup (.type T) "__getitem__" = pure (some (.builtin id))/\s.TypeIs v T/\wpAny (model X.prog X.w) X.A (getItem v (.ref sl)) (EP X pins σ Q) X.xe s
theorem SlR.or {r r':V->Option Int->Option Int->Hp->VK->Prop} (h:SlR X r) (h':SlR X r'):SlR X (fun x lo hi H Q=>r x lo hi H Q ∨ r' x lo hi H Q):=by
 intro pins s σ H x v vl vu lo hi sl Q I rx hs pl pu q
 rcases q with q | q
 ·exact h pins s σ H x v vl vu lo hi sl Q I rx hs pl pu q
 ·exact h' pins s σ H x v vl vu lo hi sl Q I rx hs pl pu q
noncomputable def tSl (r:V->Option Int->Option Int->Hp->VK->Prop) (te:TE) (tl th:TO):TE:=fun σ H Q=>te σ H fun x H1=>tl σ H1 fun l H2=>th σ H2 fun u H3=>r x l u H3 Q
theorem xA {r:V->Option Int->Option Int->Hp->VK->Prop} (hr:SlR X r) (he:PE X e te) (hl:PO X lo tl) (hu:PO X hi th):PE X (.Subscript e (.Slice lo hi none p2) pos) (tSl r te tl th):=by
 intro pins s σ H Q I h
 refine Subscript_ (thn (he pins s σ H _ I h) fun v s1 ⟨x,H1,I1,r1,q1⟩=>?_)
 refine wpAny_Slice (thn (hl pins s1 σ H1 _ I1 q1) fun vl s2 ⟨l,H2,I2,pl,q2⟩=>thn (hu pins s2 σ H2 _ I2 q2) fun vu s3 ⟨u,H3,I3,pu,q3⟩=>?_)
 rw [evalPart_none]
 refine wpAny_pure ?_
 have I4:Inv X pins σ H3 { s3 with heap:=s3.heap.push { cls:=.type "slice",data:=.fields #[vl,vu,.none] } }:=I3.kept (t':=s3.toks) fun b ob q=>Heap.get?_push_of_some _ q
 obtain ⟨T,id,hT,ht,hg⟩:=hr pins { s3 with heap:=s3.heap.push { cls:=.type "slice",data:=.fields #[vl,vu,.none] } } σ H3 x v vl vu l u s3.heap.objs.size Q I4 r1 (Heap.IsSliceOf.new ..) pl pu q3
 show wpAny (model X.prog X.w) X.A (subscriptTail e (.Slice lo hi none p2) v (.ref s3.heap.objs.size)) (EP X pins σ Q) X.xe { s3 with heap:=s3.heap.push { cls:=.type "slice",data:=.fields #[vl,vu,.none] } }
 exact tail_any (ops:=[.ref s3.heap.objs.size,v]) ht hT hg (by with_unfolding_all rfl)
noncomputable def aB7 (xs:List V) (lo hi:Option Int):List V:=(xs.drop (HT.sIx xs.length 0 lo)).take (HT.sIx xs.length xs.length hi - HT.sIx xs.length 0 lo)
theorem vR (xs:List V) (lo hi:Option Int):(aB7 xs lo hi).length<=xs.length:=by
 unfold aB7
 rw [List.length_take,List.length_drop]
 omega
noncomputable def aOL (K:PySem.W.Frag):V->Option Int->Option Int->Hp->VK->Prop:=fun x lo hi H Q=>∃ a xs,x = .ref a/\SqT K H a xs /\
 ¬ (HT.sIx xs.length 0 lo = 0/\HT.sIx xs.length xs.length hi = xs.length)/\∀ p,H p = none->Q (.ref p) (upd H p (.tup (aB7 xs lo hi)))
theorem aK1:SlR X (aOL X.K):=by
 intro pins s σ H x v vl vu lo hi sl Q I rx hs pl pu h
 obtain ⟨a,xs,rfl,hx,hw,q⟩:=h
 cases rx
 obtain ⟨its,r,ht,hz⟩:=I.tuple hx
 have hlen:its.toArray.size = xs.length:=by rw [List.size_toArray];exact r.length.symm
 refine ⟨"tuple",_,PyProof.Rows.slot_tuple_getitem.lookup,ht.typeIs,?_⟩
 refine HT.getItem_tuple_cut ht hs pl pu (by rw [hlen];exact hw) ?_ (by rw [hlen];exact hz)
 rw [hlen]
 refine ⟨.ref s.heap.objs.size,_,I.laid (t':=s.toks) (o:=.tup (aB7 xs lo hi)) (fun b ob q=>Heap.get?_push_of_some _ q) (Nat.le_refl _) ?_,rfl,q _ (I.hok.fresh (Nat.le_refl _))⟩
 exact ⟨Nat.le_trans (vR xs lo hi) hz,_,(r.drop (HT.sIx xs.length 0 lo)).take (HT.sIx xs.length xs.length hi - HT.sIx xs.length 0 lo),IsTup.new _ _⟩
noncomputable def aNp (K:PySem.W.Frag):R2:=fun x y H Q=>∃ a b xs ys,x = .ref a/\y = .ref b/\SqT K H a xs/\SqT K H b ys/\xs ≠ []/\xs.length + ys.length<=sizeLine /\
 (ys = []->Q (.ref a) H)/\(ys ≠ []->∀ p,H p = none->Q (.ref p) (upd H p (.tup (xs ++ ys))))
theorem cA.nil_iff {xs:List V} {us:List Value} (r:cA xs us):us = [] ↔ xs = []:=by
 cases r with
 | nil=>simp
 | cons _ _=>simp
theorem aDP:OpR X (binaryOp .Add) (aNp X.K):=by
 intro pins s σ H x y v u Q I rx ry h
 obtain ⟨a,b,xs,ys,rfl,rfl,ha,hb,hx,hz,q1,q2⟩:=h
 cases rx
 cases ry
 obtain ⟨its,r1,p1,_⟩:=I.tuple ha
 obtain ⟨its2,r2,p2,_⟩:=I.tuple hb
 refine HT.cat_tup p1 p2 (fun z=>hx (r1.nil_iff.mp z)) (fun z=>⟨.ref a,H,I,rfl,q1 (r2.nil_iff.mp z)⟩) (fun z=>?_) (by rw [<- r1.length,<- r2.length];exact hz)
 refine ⟨.ref s.heap.objs.size,_,I.laid (t':=s.toks) (o:=.tup (xs ++ ys)) (fun b ob q=>Heap.get?_push_of_some _ q) (Nat.le_refl _) ?_,rfl,q2 (fun w=>z (r2.nil_iff.mpr w)) _ (I.hok.fresh (Nat.le_refl _))⟩
 exact ⟨by rw [List.length_append];exact hz,_,r1.append r2,IsTup.new _ _⟩
end
end L2
namespace L2
open PySem PySem.Spec PyProof.Rows
noncomputable def ixN (n:Nat) (i:Int):Option Nat:=if 0<=i then (if i < n then some i.toNat else none) else if -(n:Int)<=i then some (i + n).toNat else none
noncomputable def atI {α:Type} (xs:List α) (i:Int):Option α:=(ixN xs.length i).bind fun j=>xs[j]?
theorem aIJ {n:Nat} {i:Int} {j:Nat} (h:ixN n i = some j):seqIndex? i n = some j/\j < n/\-(n:Int)<=i/\i < n:=by
 unfold ixN at h
 by_cases h0:0<=i
 ·rw [if_pos h0] at h
  by_cases h1:i < n
  ·rw [if_pos h1] at h
   have e:i.toNat = j:=Option.some.inj h
   exact ⟨by rw [seqIndex_of h0 h1,e],by omega,by omega,h1⟩
  ·rw [if_neg h1] at h;cases h
 ·rw [if_neg h0] at h
  by_cases h1:-(n:Int)<=i
  ·rw [if_pos h1] at h
   have e:(i + n).toNat = j:=Option.some.inj h
   exact ⟨by rw [seqIndex_neg (by omega) h1,e],by omega,h1,by omega⟩
  ·rw [if_neg h1] at h;cases h
theorem aDR {α:Type} {xs:List α} {i:Int} {v:α} (h:atI xs i = some v):∃ j,seqIndex? i xs.length = some j/\xs[j]? = some v/\j < xs.length/\-(xs.length:Int)<=i/\i < xs.length:=by
 unfold atI at h
 cases e:ixN xs.length i with
 | none=>rw [e] at h;cases h
 | some j =>
  rw [e] at h
  obtain ⟨h1,h2,h3,h4⟩:=aIJ e
  exact ⟨j,h1,h,h2,h3,h4⟩
theorem aHw {α:Type} {xs:List α} {j:Nat} {v:α} (h:xs[j]? = some v):atI xs (j:Int) = some v:=by
 have hj:j < xs.length:=(List.getElem?_eq_some_iff.mp h).1
 have e:ixN xs.length (j:Int) = some j:=by
  unfold ixN
  rw [if_pos (by omega),if_pos (by omega)];simp
 unfold atI;rw [e];exact h
noncomputable def sS (b:Expr):Prop:=∀ o i,subscripted b false o i = operate [o,i] (getItem o i)
noncomputable def IxR (X:Cx) (r:R2):Prop :=
 ∀ (value slice:Expr) (pins:List (Addr × Obj)) (s:Shared) (σ:St) (H:Hp) (x y:V) (v u:Value) (Q:VK),Inv X pins σ H s->cR x v->cR y u->r x y H Q ->
  subscripted slice false v u = operate [v,u] (getItem v u)->wpAny (model X.prog X.w) X.A (subscriptTail value slice v u) (EP X pins σ Q) X.xe s
noncomputable def MtR (X:Cx) (id:String) (r:V->List V->Hp->VK->Prop):Prop :=
 ∀ (pins:List (Addr × Obj)) (s:Shared) (σ:St) (H:Hp) (x:V) (xs:List V) (v:Value) (us:List Value) (Q:VK),Inv X pins σ H s->cR x v->cA xs us->r x xs H Q ->
  wpAny (model X.prog X.w) X.A (call (.builtin id) (v :: us)) (EP X pins σ Q) X.xe s
section
variable {X:Cx} {a b:Expr} {ta tb:TE} {pos:Pos}
theorem aMk {r:R2} (hr:IxR X r) (ha:PE X a ta) (hb:PE X b tb) (hs:sS b):PE X (.Subscript a b pos) (tOp r ta tb):=by
 intro pins s σ H Q I h
 exact Subscript_ (aKv ha hb I h fun v u s2 x y H2 I2 rx ry q=>hr a b pins s2 σ H2 x y v u Q I2 rx ry q (hs _ _))
noncomputable def aOB (K:PySem.W.Frag):R2:=fun x y H Q=>∃ p xs i v,x = .ref p/\y = .int i/\SqL K H p xs/\atI xs i = some v/\Q v H
noncomputable def aOj (K:PySem.W.Frag):R2:=fun x y H Q=>∃ p xs i v,x = .ref p/\y = .int i/\SqT K H p xs/\atI xs i = some v/\Q v H
theorem aEc:IxR X (aOB X.K):=by
 intro value slice pins s σ H x y v u Q I rx ry h hs
 obtain ⟨p,xs,i,z,rfl,rfl,hq,he,q⟩:=h
 cases rx
 obtain ⟨t,rfl⟩:=ry
 obtain ⟨its,r,pl,hz⟩:=I.list hq
 obtain ⟨j,h1,h2,h3,h4,h5⟩:=aDR he
 obtain ⟨w,ew,rw'⟩:=r.get h2
 have hl:=r.length
 have hn:=aDe
 have fin:EP X pins σ Q w s:=⟨z,H,I,rw',q⟩
 by_cases h0:0<=i
 ·have hj:i.toNat = j:=by
   rw [seqIndex_of h0 h5] at h1
   exact Option.some.inj h1
  exact item_listR pl.isList h0 (by omega) (by rw [hj];simpa using ew) fin hs
 ·have hj:(i + (its.toArray.size:Int)).toNat = j:=by
   rw [seqIndex_neg (by omega) h4] at h1
   rw [List.size_toArray,<- hl]
   exact Option.some.inj h1
  exact subscriptTail_builtinR (x:=w) pl.isList.typeIs slot_list_getitem.lookup
   (wpAny_getItem_list_neg (Q:=fun r s'=>r = w/\EP X pins σ Q r s') pl.isList (by omega) (by rw [List.size_toArray]<;>omega) (by omega) (by rw [hj];simpa using ew) ⟨rfl,fin⟩) hs
theorem aKT:IxR X (aOj X.K):=by
 intro value slice pins s σ H x y v u Q I rx ry h hs
 obtain ⟨p,xs,i,z,rfl,rfl,hq,he,q⟩:=h
 cases rx
 obtain ⟨t,rfl⟩:=ry
 obtain ⟨its,r,pl,hz⟩:=I.tuple hq
 obtain ⟨j,h1,h2,h3,h4,h5⟩:=aDR he
 obtain ⟨w,ew,rw'⟩:=r.get h2
 have hl:=r.length
 have hn:=aDe
 have fin:EP X pins σ Q w s:=⟨z,H,I,rw',q⟩
 exact subscriptTail_builtinR (x:=w) pl.typeIs slot_tuple_getitem.lookup
  (getItem_tuple (j:=j) (Q:=fun r s'=>r = w/\EP X pins σ Q r s') pl (by omega) (by omega) (by rw [List.size_toArray,<- hl];exact h1) (by simpa using ew) ⟨rfl,fin⟩) hs
theorem aBa (lo hi:Option Int) (n:Nat):(sliceBounds lo hi none n).1 = ((HT.sIx n 0 lo:Nat):Int)/\(sliceBounds lo hi none n).2.1 = ((HT.sIx n n hi:Nat):Int)/\(sliceBounds lo hi none n).2.2 = 1:=by
 refine ⟨?_,?_,rfl⟩
 ·cases lo with
  | none=>simp [sliceBounds,HT.sIx]
  | some i =>
   simp only [sliceBounds,HT.sIx,Option.getD_none,show (1:Int) > 0 by decide,if_true]
   by_cases h:i < 0
   ·simp only [h,if_true]<;>omega
   ·simp only [h,if_false]<;>omega
 ·cases hi with
  | none=>simp [sliceBounds,HT.sIx]
  | some i =>
   simp only [sliceBounds,HT.sIx,Option.getD_none,show (1:Int) > 0 by decide,if_true]
   by_cases h:i < 0
   ·simp only [h,if_true]<;>omega
   ·simp only [h,if_false]<;>omega
theorem zK (its:List Value) (lo hi:Option Int):slicePick its.toArray lo hi none = ((its.drop (HT.sIx its.length 0 lo)).take (HT.sIx its.length its.length hi - HT.sIx its.length 0 lo)).toArray:=by
 obtain ⟨h1,h2,h3⟩:=aBa lo hi its.toArray.size
 unfold slicePick
 rw [h1,h2,h3]
 simp only [sliceRange_one,pick_run,List.size_toArray]<;>rfl
noncomputable def aOE (K:PySem.W.Frag):V->Option Int->Option Int->Hp->VK->Prop:=fun x lo hi H Q=>∃ a xs,x = .ref a/\SqL K H a xs/\∀ p,H p = none->Q (.ref p) (upd H p (.lst (aB7 xs lo hi)))
theorem aHW:SlR X (aOE X.K):=by
 intro pins s σ H x v vl vu lo hi sl Q I rx hs pl pu h
 obtain ⟨a,xs,rfl,hx,q⟩:=h
 cases rx
 obtain ⟨its,r,ht,hz⟩:=I.list hx
 have hlen:=r.length
 refine ⟨"list",_,slot_list_getitem.lookup,ht.isList.typeIs,?_⟩
 refine wpAny_getItem_list_slice ht.isList hs pl pu .none (by simp) ?_ (by rw [List.size_toArray]<;>omega)
 rw [zK,<- hlen]
 refine ⟨.ref s.heap.objs.size,_,I.laid (t':=s.toks) (o:=.lst (aB7 xs lo hi)) (fun b ob q=>Heap.get?_push_of_some _ q) (Nat.le_refl _) ?_,rfl,q _ (I.hok.fresh (Nat.le_refl _))⟩
 exact ⟨Nat.le_trans (vR xs lo hi) hz,_,0,(r.drop (HT.sIx xs.length 0 lo)).take (HT.sIx xs.length xs.length hi - HT.sIx xs.length 0 lo),Heap.get?_push_size _ rfl⟩
noncomputable def aFY:V->Bool
 | .non=>true
 | .bl _=>true
 | .int _=>true
 | .str _=>true
 | _=>false
noncomputable def eqV:V->V->Bool
 | .non,.non=>true
 | .bl a,.bl b=>a == b
 | .bl a,.int b=>(if a then 1 else 0) == b
 | .int a,.bl b=>a == (if b then 1 else 0)
 | .int a,.int b=>a == b
 | .str a,.str b=>a == b
 | _,_=>false
theorem aGN {A:Around} {s:Shared} {y x:V} {u v:Value} (ry:cR y u) (rx:cR x v) (fy:aFY y = true) (fx:aFY x = true):SeqAt.EqAt A s u v (eqV y x):=by
 cases y with
 | non =>
  cases ry
  cases x with
  | non=>cases rx;exact SeqAt.EqAt.same _
  | bl b=>cases rx;exact SeqAt.EqAt.none_bool b
  | int b=>obtain ⟨t,rfl⟩:=rx;exact SeqAt.EqAt.none_int b t
  | str b=>obtain ⟨t,rfl⟩:=rx;exact SeqAt.EqAt.none_str b t
  | _=>exact absurd (show false = true from fx) Bool.false_ne_true
 | bl a =>
  cases ry
  cases x with
  | non=>cases rx;exact SeqAt.EqAt.bool_none a
  | bl b=>cases rx;exact SeqAt.EqAt.bool_bool a b
  | int b=>obtain ⟨t,rfl⟩:=rx;exact SeqAt.EqAt.bool_int a b t
  | str b=>obtain ⟨t,rfl⟩:=rx;exact SeqAt.EqAt.bool_str a b t
  | _=>exact absurd (show false = true from fx) Bool.false_ne_true
 | int a =>
  obtain ⟨t',rfl⟩:=ry
  cases x with
  | non=>cases rx;exact SeqAt.EqAt.int_none a t'
  | bl b=>cases rx;exact SeqAt.EqAt.int_bool a t' b
  | int b=>obtain ⟨t,rfl⟩:=rx;exact SeqAt.EqAt.int_int a t' b t
  | str b=>obtain ⟨t,rfl⟩:=rx;exact SeqAt.EqAt.int_str a t' b t
  | _=>exact absurd (show false = true from fx) Bool.false_ne_true
 | str a =>
  obtain ⟨t',rfl⟩:=ry
  cases x with
  | non=>cases rx;exact SeqAt.EqAt.str_none a t'
  | bl b=>cases rx;exact SeqAt.EqAt.str_bool a t' b
  | int b=>obtain ⟨t,rfl⟩:=rx;exact SeqAt.EqAt.str_int a t' b t
  | str b=>obtain ⟨t,rfl⟩:=rx;exact SeqAt.EqAt.str_str a t' b t
  | _=>exact absurd (show false = true from fx) Bool.false_ne_true
 | _=>exact absurd (show false = true from fy) Bool.false_ne_true
theorem aBB:lA X (.builtin "len") (fun xs H Q=>∃ p ys,xs = [.ref p]/\(SqL X.K H p ys ∨ SqT X.K H p ys)/\Q (.int ys.length) H):=by
 intro pins s σ H xs us Q I r h
 obtain ⟨p,ys,rfl,hq,q⟩:=h
 obtain ⟨u,rfl,rx⟩:=tK r
 cases rx
 have hn:=aDe
 rcases hq with hq | hq
 ·obtain ⟨its,r',pl,hz⟩:=I.list hq
  have hlen:=r'.length
  exact Calls.call_len_list pl.isList (by simp only [List.size_toArray]<;>omega) ⟨.int ys.length,H,I.tok _,⟨s.toks + 1,by rw [List.size_toArray,hlen]⟩,q⟩
 ·obtain ⟨its,r',pl,hz⟩:=I.tuple hq
  have hlen:=r'.length
  exact len_tuple pl (by simp only [List.size_toArray]<;>omega) ⟨.int ys.length,H,I.tok _,⟨s.toks + 1,by rw [List.size_toArray,hlen]⟩,q⟩
theorem aAg:lA X (.type "tuple") (fun xs H Q=>∃ p ys,xs = [.ref p]/\((SqL X.K H p ys/\∀ l,H l = none->Q (.ref l) (upd H l (.tup ys))) ∨ (SqT X.K H p ys/\Q (.ref p) H))):=by
 intro pins s σ H xs us Q I r h
 obtain ⟨p,ys,rfl,h⟩:=h
 obtain ⟨u,rfl,rx⟩:=tK r
 cases rx
 rcases h with ⟨hq,q⟩ | ⟨hq,q⟩
 ·obtain ⟨its,r',pl,hz⟩:=I.list hq
  have hlen:=r'.length
  refine call_tuple_list pl.isList (fun h' kp=>?_) (by simp only [List.size_toArray]<;>omega)
  have I1:Inv X pins σ H { s with heap:=h' }:=I.kept (t':=s.toks) kp
  have I2:Inv X pins σ (upd H h'.objs.size (.tup ys)) { s with heap:=h'.push { cls:=.type "tuple",data:=.seq its.toArray } } :=
   I1.laid (t':=s.toks) (fun b o e=>Heap.get?_push_of_some _ e) (Nat.le_refl _) (show fH X.prog X.w _ _ _ (.tup ys) from ⟨hz,its,r',IsTup.new _ _⟩)
  exact ⟨.ref h'.objs.size,_,I2,rfl,q _ (I1.hok.fresh (Nat.le_refl _))⟩
 ·obtain ⟨its,r',pl,hz⟩:=I.tuple hq
  exact call_tuple_same pl ⟨.ref p,H,I,rfl,q⟩
noncomputable def tyV (K:PySem.W.Frag) (T:String) (x:V) (H:Hp):Prop:=match x with
 | .str _=>T = "str"
 | .int _=>T = "int"
 | .ref p=>(T = "list"/\∃ xs,SqL K H p xs) ∨ (T = "tuple"/\∃ o,K.lookup p = some o/\o.cls = .type "tuple"/\o.dict = none) ∨
   (T = "dict"/\((∃ kvs,H p = some (.dK kvs)) ∨ ∃ kvs,H p = some (.dT kvs))) ∨ (T = "set"/\∃ S n,H p = some (.set S n))
 | _=>False
theorem aGK {pins:List (Addr × Obj)} {σ:St} {H:Hp} {s:Shared} {T:String} {x:V} {v:Value} (I:Inv X pins σ H s) (r:cR x v) (ty:tyV X.K T x H) :
  s.TypeIs v T/\∀ a,v = .ref a->∃ ob,s.heap.get? a = some ob/\ob.dict = none:=by
 cases x with
 | str z =>
  obtain ⟨t,rfl⟩:=r
  cases (show T = "str" from ty)
  exact ⟨typeIs_str s z t,fun _ e=>nomatch e⟩
 | int i =>
  obtain ⟨t,rfl⟩:=r
  cases (show T = "int" from ty)
  exact ⟨typeIs_int s i t,fun _ e=>nomatch e⟩
 | ref p =>
  cases r
  rcases ty with ⟨rfl,xs,hq⟩ | ⟨rfl,o,hk,hc,hd⟩ | ⟨rfl,hk⟩ | ⟨rfl,S,n,hk⟩
  ·obtain ⟨its,_,pl,_⟩:=I.list hq
   refine ⟨pl.isList.typeIs,fun a e=>?_⟩
   cases e
   obtain ⟨o,n,e,c,hd,_⟩:=pl
   exact ⟨o,e,hd⟩
  ·refine ⟨⟨o,I.kIn p o hk,hc⟩,fun a e=>?_⟩
   cases e
   exact ⟨o,I.kIn _ o hk,hd⟩
  ·have z:∃ o,s.heap.get? p = some o/\o.ExactDict:=by
    rcases hk with ⟨kvs,hk⟩ | ⟨kvs,hk⟩
    ·obtain ⟨_,_,_,_,o,_,_,e,ex,_⟩:=I.hok p _ hk
     exact ⟨o,e,ex⟩
    ·obtain ⟨_,_,_,_,o,_,_,e,ex,_⟩:=I.hok p _ hk
     exact ⟨o,e,ex⟩
   obtain ⟨o,e,ex⟩:=z
   refine ⟨⟨o,e,ex.1⟩,fun a e2=>?_⟩
   cases e2
   exact ⟨o,e,ex.2.1⟩
  ·obtain ⟨o,_,_,_,e,ex,_⟩:=I.hok p _ hk
   refine ⟨⟨o,e,ex.1⟩,fun a e2=>?_⟩
   cases e2
   exact ⟨o,e,ex.2.1⟩
 | _=>exact False.elim ty
noncomputable def aON (K:PySem.W.Frag) (T:String) (r:V->List V->Hp->VK->Prop) (to:TE):TE:=fun σ H Q=>to σ H fun x H1=>tyV K T x H1/\r x [] H1 Q
noncomputable def tBM (K:PySem.W.Frag) (T:String) (r:V->List V->Hp->VK->Prop) (to:TE) (t:TA):TE:=fun σ H Q=>to σ H fun x H1=>tyV K T x H1/\t σ H1 fun xs H2=>r x xs H2 Q
variable {o e:Expr} {es:List Expr} {to:TE} {t:TA} {name:Str} {apos cpos:Pos} {T id:String} {r:V->List V->Hp->VK->Prop}
theorem aDt (pa:PlainAttrs T) (slot:Slot T name id) (hty:typeOf (.builtin id) = pure (.type "method_descriptor")) (hm:MtR X id r) (ho:PE X o to)
  (hbase:attributeBase o name X.env (eval o X.env) = eval o X.env:=by rfl) (hline:(apos.endLine == cpos.line) = true:=by rfl):PE X (.Call (.Attribute o name apos) [] [] cpos) (aON X.K T r to):=by
 intro pins s σ H Q I h
 refine wpAny_Call_method0_late hbase hline (thn (ho pins s σ H _ I h) fun v s1 ⟨x,H1,I1,r1,ty,q1⟩=>?_)
 obtain ⟨h1,h2⟩:=aGK I1 r1 ty
 exact ⟨T,id,pa,slot,hty,h1,h2,Calls.callWith_builtin rfl (PySem.evalArgs_none (hm pins s1 σ H1 x [] v [] Q I1 r1 .nil q1))⟩
theorem aCA (pa:PlainAttrs T) (slot:Slot T name id) (hty:typeOf (.builtin id) = pure (.type "method_descriptor")) (hm:MtR X id r) (ho:PE X o to) (ha:PA X (e :: es) t)
  (hbase:attributeBase o name X.env (eval o X.env) = eval o X.env:=by rfl)
  (hfew:((backTo cpos (starEach (e :: es) X.env)).all (fun x=>!x.1) && (backToKw cpos (keywordEach [] X.env)).all (fun x=>x.1.isSome)
   && decide ((e :: es).length + ([]:List Keyword).length + (if ([]:List Keyword).isEmpty then 0 else 1) < 30)) = true:=by rfl)
  (hline:(apos.endLine == cpos.line) = true:=by rfl) (hs:starEach (e :: es) X.env = (false,eval e X.env) :: starEach es X.env:=by rfl) (hplain:(backTo cpos (starEach es X.env)).any (·.1) = false:=by rfl) :
  PE X (.Call (.Attribute o name apos) (e :: es) [] cpos) (tBM X.K T r to t):=by
 intro pins s σ H Q I h
 refine wpAny_Call_method_late hbase hfew hline rfl (thn (ho pins s σ H _ I h) fun v s1 ⟨x,H1,I1,r1,ty,q1⟩=>?_)
 obtain ⟨h1,h2⟩:=aGK I1 r1 ty
 refine ⟨T,id,pa,slot,hty,h1,h2,?_⟩
 have hA:=ha cpos pins s1 σ H1 _ I1 q1
 rw [hs] at hA ⊢
 refine Calls.callWith_builtin (by show (false || (backTo cpos (starEach es X.env)).any (·.1)) = false;rw [hplain]<;>rfl) (Calls.evalArgs_plain ?_)
 exact thn hA fun us s2 ⟨vs,H2,I2,r2,q2⟩=>hm pins s2 σ H2 x vs v us Q I2 r1 r2 q2
end
end L2
namespace L2
open PySem PySem.Spec PyProof.Rows
noncomputable def MtM (X:Cx) (id:String) (r:V->List V->Hp->VK->Prop):Prop :=
 ∀ (pins:List (Addr × Obj)) (s:Shared) (σ:St) (H:Hp) (x:V) (xs:List V) (v:Value) (us:List Value) (Q:VK),Inv X pins σ H s->cR x v->cA xs us->r x xs H Q ->
  wpAny (model X.prog X.w) X.A (call (.builtin id) (v :: us)) (EP X pins σ Q) X.xe s
theorem cA.one:∀ {x:V} {us:List Value},cA [x] us->∃ u,us = [u]/\cR x u
 | _,_,.cons r .nil=>⟨_,rfl,r⟩
theorem cA.two:∀ {x y:V} {us:List Value},cA [x,y] us->∃ u v,us = [u,v]/\cR x u/\cR y v
 | _,_,_,.cons r (.cons q .nil)=>⟨_,_,rfl,r,q⟩
theorem cA.zero:∀ {us:List Value},cA [] us->us = []
 | _,.nil=>rfl
theorem cA.dropLast {xs:List V} {us:List Value} (h:cA xs us):cA xs.dropLast us.dropLast:=by
 induction h with
 | nil=>exact .nil
 | cons r t ih =>
  cases t with
  | nil=>exact .nil
  | cons q t'=>exact .cons r ih
theorem aDh {α:Type} (l:List α):l.eraseIdx (l.length - 1) = l.dropLast:=by
 induction l with
 | nil=>rfl
 | cons a r ih =>
  cases r with
  | nil=>rfl
  | cons b r =>
   have e:(a :: b :: r).length - 1 = ((b :: r).length - 1) + 1:=by
    have h1:(a :: b :: r).length = r.length + 2:=rfl
    have h2:(b :: r).length = r.length + 1:=rfl
    omega
   rw [e,List.eraseIdx_cons_succ,ih]
   all_goals rfl
section
variable {X:Cx} {pins:List (Addr × Obj)} {σ:St} {H:Hp} {s:Shared} {l b:Addr} {xs ys zs:List V}
theorem Inv.lset {its its':List Value} {n:Nat} {f:Array Value->Array Value} {t':Nat} (I:Inv X pins σ H s) (hH:H l = some (.lst xs))
  (e:s.heap.get? l = some { cls:=.type "list",data:=.seq its.toArray n }) (hf:f its.toArray = its'.toArray) (hv:cA ys its') (hz:ys.length<=sizeLine) :
  Inv X pins σ (upd H l (.lst ys)) { s with heap:=s.heap.update l (Obj.mapSeq f),toks:=t' }:=by
 have q:=PySem.IsL.update e f
 rw [hf] at q
 refine I.write (x:=l) (e:=l) (by rw [hH];exact trivial) (.inl rfl) (fun b' u hb hu=>(Heap.get?_update_other s.heap (Obj.mapSeq f) (Ne.symm hb)).trans hu) ⟨_,q⟩ ?_
 exact ⟨hz,its',_,hv,q⟩
theorem Inv.lnew {its:List Value} {t':Nat} (I:Inv X pins σ H s) (hv:cA ys its) (hz:ys.length<=sizeLine) :
  Inv X pins σ (upd H s.heap.objs.size (.lst ys)) { s with heap:=s.heap.push { cls:=.type "list",data:=.seq its.toArray },toks:=t' } :=
 I.laid (fun _ _ q=>Heap.get?_push_of_some _ q) (Nat.le_refl _) ⟨hz,its,0,hv,Heap.get?_push_size _ rfl⟩
theorem Inv.fresh (I:Inv X pins σ H s):H s.heap.objs.size = none:=I.hok.fresh (Nat.le_refl _)
theorem Inv.lstM (I:Inv X pins σ H s) (hH:H l = some (.lst xs)):xs.length<=sizeLine/\∃ (its:List Value) (n:Nat),cA xs its/\xs.length = its.length/\s.heap.get? l = some { cls:=.type "list",data:=.seq its.toArray n }:=by
 obtain ⟨z,its,n,r,e⟩:=I.hok l _ hH
 exact ⟨z,its,n,r,r.length,e⟩
theorem aFz {n:Nat} (h:n<=sizeLine):Builtin.List.listTooLong n = false:=by
 unfold Builtin.List.listTooLong
 exact decide_eq_false (by omega)
end
section
variable {X:Cx}
noncomputable def aIL:V->List V->Hp->VK->Prop:=fun x vs H Q=>∃ l xs y,x = .ref l/\vs = [y]/\H l = some (.lst xs)/\xs.length < sizeLine/\Q .non (upd H l (.lst (xs ++ [y])))
theorem aEE:MtM X "list.append" aIL:=by
 intro pins s σ H x vs v us Q I rx rv h
 obtain ⟨l,xs,y,rfl,rfl,hH,hz,q⟩:=h
 cases rx
 obtain ⟨u,rfl,ru⟩:=rv.one
 obtain ⟨z,its,n,r,hl,e⟩:=I.lstM hH
 refine call_meets F.slot_list_append ⟨_,e,rfl⟩ F.entry_list_append (F.args_list_append_2 _ _) (PySem.list_append l its.toArray n u (by rw [List.size_toArray];omega)) ⟨e,?_⟩
 refine ⟨.non,_,I.lset (its':=its ++ [u]) hH e (by simp) (r.append (.cons ru .nil)) ?_,rfl,q⟩
 rw [List.length_append,List.length_singleton]
 omega
noncomputable def aOg:V->List V->Hp->VK->Prop:=fun x vs H Q=>∃ l xs y,x = .ref l/\vs = []/\H l = some (.lst xs)/\xs[xs.length - 1]? = some y/\Q y (upd H l (.lst xs.dropLast))
theorem aKi:MtM X "list.pop" aOg:=by
 intro pins s σ H x vs v us Q I rx rv h
 obtain ⟨l,xs,y,rfl,rfl,hH,hy,q⟩:=h
 cases rx
 have hus:=rv.zero
 subst hus
 obtain ⟨z,its,n,r,hl,e⟩:=I.lstM hH
 obtain ⟨u,hu,ru⟩:=r.get hy
 have hy':its.toArray[its.toArray.size - 1]? = some u:=by
  show its.toArray[its.length - 1]? = some u
  rw [<- Array.getElem?_toList,<- hl]
  exact hu
 refine call_meets F.slot_list_pop ⟨_,e,rfl⟩ F.entry_list_pop (F.args_list_pop_1 _) (MeetsSeq.list_pop_last l its.toArray n u hy' (by rw [List.size_toArray];omega)) ⟨e,?_⟩
 refine ⟨y,_,I.lset (its':=its.dropLast) hH e ?_ r.dropLast ?_,ru,q⟩
 ·show its.toArray.eraseIdxIfInBounds (its.toArray.size - 1) = its.dropLast.toArray
  rw [List.size_toArray,List.eraseIdxIfInBounds_toArray,aDh]
 ·rw [List.length_dropLast]
  omega
noncomputable def aOi:R2:=fun x y H Q=>∃ l b xs zs,x = .ref l/\y = .ref b/\H l = some (.lst xs)/\H b = some (.lst zs)/\xs.length + zs.length<=sizeLine/\∀ p,H p = none->Q (.ref p) (upd H p (.lst (xs ++ zs)))
theorem aKs:OpR X (binaryOp .Add) aOi:=by
 intro pins s σ H x y v u Q I rx ry h
 obtain ⟨l,b,xs,zs,rfl,rfl,hH,hB,hz,q⟩:=h
 cases rx
 cases ry
 obtain ⟨z,its,n,r,hl,e⟩:=I.lstM hH
 obtain ⟨z2,its2,n2,r2,hl2,e2⟩:=I.lstM hB
 refine PySem.P.add_list e e2 ?_ (by rw [List.size_toArray,List.size_toArray];omega)
 have ea:its.toArray ++ its2.toArray = (its ++ its2).toArray:=by simp
 rw [ea]
 exact ⟨.ref _,_,I.lnew (t':=s.toks) (r.append r2) (by rw [List.length_append];omega),rfl,q _ I.fresh⟩
theorem len_rep {α:Type} (xs:List α) (k:Nat):(List.replicate k xs).flatten.length = k * xs.length:=by
 induction k with
 | zero=>simp
 | succ k ih=>rw [List.replicate_succ,List.flatten_cons,List.length_append,ih,Nat.succ_mul,Nat.add_comm]
end
section
variable {prog:Program} {w:World} {A:Around} {E:Value->Shared->Prop} {s:Shared}
end
section
variable {X:Cx}
end
end L2
namespace Att
open PySem PySem.W PySem.Calls PyProof.Rows
theorem vY {P:Params} {h:Heap}:∀ (ns:List Int) (vs:List Value),WellAll P h vs (ns.map WData.int)->IntsAre vs ns:=by
 intro ns
 induction ns with
 | nil =>
  intro vs w
  rw [List.map_nil] at w
  cases w
  exact .nil
 | cons n ns ih =>
  intro vs w
  rw [List.map_cons] at w
  cases w with
  | cons a b =>
   cases a
   exact .cons _ _ (ih _ b)
theorem aEB {l:OpenLaw} {n:Nat} (hn:l.most = some n) {P:Params} {h:Heap} {args:List WData} {vals:List Value}
  (hpre:l.row.toRowW.claim.pre args = true) (hwl:WellAll P h vals args) :
  ∃ a vs ns,vals = [Value.ref a]/\args = [WData.list (ns.map WData.int)]/\h.get? a = some { cls:=.type "list",data:=.seq vs.toArray }/\IntsAre vs ns/\ns.length<=n:=by
 have hsh:WShape.hasAll [] args [.list .int] = true:=(pre_splitW hpre).1
 have hc:l.pre.holds [] { args:=args } = true:=(pre_splitW hpre).2
 obtain ⟨d,r,rfl,h1,h2⟩:=hasAllW_cons hsh
 obtain rfl:=hasAllW_nil h2
 obtain ⟨xs,rfl,h3⟩:=hasW_list h1
 obtain ⟨ns,rfl⟩:=items_int h3
 have hlen:ns.length<=n:=by
  unfold OpenLaw.pre at hc
  have h4:(WTm.not (.lt (.lit (.int (n:Int))) (.len (.arg 0)))).holds [] { args:=[.list (ns.map .int)] } = true:=by
   have h4:=(holds_andW hc).1
   rw [hn] at h4
   exact h4
  have h5:=condW_of h4 (w_not (w_lt w_lit (w_len_list (w_arg rfl))))
  rw [List.length_map] at h5
  refine Nat.le_of_not_lt fun q=>?_
  have q':(n:Int) < ((ns.length:Nat):Int):=by omega
  first
   | (rw [decide_eq_true q'] at h5;exact absurd h5 (by decide))
   | (simp at h5;omega)
 cases hwl with
 | cons w1 w2 =>
  cases w2
  cases w1 with
  | list ho hall=>exact ⟨_,_,ns,rfl,rfl,ho,vY ns _ hall,hlen⟩
theorem aEn (l:OpenLaw) (args:List WData):l.row.toRowW.claim.post args (.bool true) args = true :=
 postW_of (r:=l.row.toRowW) (X:=(true == true))
  (show WShape.has [] (.bool true) .bool = true by first | rfl | decide | simp [WShape.has,WShape.arms,WShape.armsAll])
  (show (WTm.eq .res (.lit (.bool true))).value [] { args:=args,res:=some (.bool true),after:=args } = some (.bool (true == true)) from w_eq_bool (w_res rfl) w_lit) rfl
theorem attach_call {l:OpenLaw} {n:Nat} {q:Program} {loose:List Str} {XP:(Str->Option Value)->Heap->Prop} {YP:World->Heap->Prop} {d:DefRec}
  (hn:l.most = some n) (hdf:d.params.defaults = [])
  (call:∀ (w:World) (s₀ s₁:Shared) (mg mb:Str->Option Value) (fa:Addr) (o:Obj) (pm cd doc:Value) (a:Addr) (vs:List Value) (ns:List Int),
   Ground q loose [] XP w s₀ mg mb s₁.heap->YP w s₁.heap ->
   s₁.heap.get? fa = some o->o.data = .func (docDef d.name d.params d.body d.scope pm cd doc)->s₁.heap.CodeRec cd d.name->mg d.name = some (.ref fa) ->
   s₁.heap.get? a = some { cls:=.type "list",data:=.seq vs.toArray }->IntsAre vs ns->ns.length<=n->s₁.gens = #[] ->
   codeAny (model l.prog w) callerA (.call (.ref fa) ⟨[.ref a],[]⟩) (fun r s'=>r = .ok (.ret (.bool true))/\OldK s₁.heap s'.heap/\s'.os = s₁.os/\AllBare s'.gens) s₁) :
  WalkO q loose XP YP l.row.toRowW d [] (fun f vs=>PySem.call f vs):=by
 intro w s₀ s₁ mg mb G Y fa o pm cd doc dV kV ho hd hcd hD hmg hg args vals as hpre hlay hrd hwl hlo
 obtain rfl:dV = .none:=Dflts.none hD hdf
 obtain rfl:kV = .none:=Dflts.noKw hD
 obtain ⟨a,vs,ns,rfl,rfl,hobj,hints,hlen⟩:=aEB hn hpre hwl
 refine enter_call (codeAny_mono (call w s₀ s₁ mg mb fa o pm cd doc a vs ns G Y ho (fd_plain hd) hcd hmg hobj hints hlen hg) fun r s' hq=>?_)
 obtain ⟨rfl,h2,h3,h4⟩:=hq
 exact ⟨.inl ⟨.bool true,.bool true,[],rfl,fun _=>rfl,.bool true,aEn l _,fun _=>⟨List.Pairwise.nil,fun _ hm=>(nomatch hm)⟩⟩,h2,h3,h4⟩
section
variable {prog:Program} {w:World} {A:Around} {E:Value->Shared->Prop} {s:Shared} {K:Frag}
end
end Att
namespace L2
open PySem PySem.Spec PyProof.Rows
theorem vB:∀ {vs:List Value} {ns:List Int},IntsAre vs ns->cA (ns.map V.int) vs
 | _,_,.nil=>.nil
 | _,_,.cons n t h=>.cons ⟨t,rfl⟩ (vB h)
noncomputable def aLg (H:Hp):Prop:=∀ b,H b = none ∨ ∃ o xs,H b = some (.frz o (.lst xs))
theorem aFc {P:Program} {w:World} {K:PySem.W.Frag} {mg mb:Str->Option Value} {CX:CXT} {k:Nat} {fa a:Addr} {fd:FuncData} {x:Str} {sp:Sp} {s₁:Shared} {vs:List Value} {ns:List Int}
  (KX:K.In s₁.heap) (hns:s₁.heap.Ns mainGlobals mg) (hb:s₁.heap.Ns builtinsNs mb) (hbb:∀ x:Str,x ≠ "__name__"->mb x = bootBuiltins x) (hlim:s₁.heap.NoLimit) (hg:s₁.gens = #[])
  (ha:s₁.heap.get? a = some { cls:=.type "list",data:=.seq vs.toArray }) (hi:IntsAre vs ns) (hl:ns.length<=sizeLine) (hr:eP k callerA)
  (F:∀ base:Heap,K.In base->base.Ns mainGlobals mg->jJ P w K mg base CX k fa fd [x] sp) (hbind:∀ (s:Shared) (u:Value),BindsTo s fd ⟨[u],[]⟩ [(x,u)])
  (hsp:∀ H:Hp,aLg H->SqL K H a (ns.map V.int)->sp [.ref a] H (fun v _=>v = .bl true) fun _ _ _=>False)
  (hCX:∀ H e s',CX [] H s₁ (fun _ _ _=>False) e s'->False) :
  codeAny (model P w) callerA (.call (.ref fa) ⟨[.ref a],[]⟩) (fun r s'=>r = .ok (.ret (.bool true))/\OldK s₁.heap s'.heap/\s'.os = s₁.os/\AllBare s'.gens) s₁:=by
 have rv:=vB hi
 have lenV:=hi.length
 have core:∀ H:Hp,aLg H->SqL K H a (ns.map V.int)->HOk P w H s₁.heap->(∀ b,H b ≠ none->b = a)->(H a ≠ none->K.lookup a = none) ->
   codeAny (model P w) callerA (.call (.ref fa) ⟨[.ref a],[]⟩) (fun r s'=>r = .ok (.ret (.bool true))/\OldK s₁.heap s'.heap/\s'.os = s₁.os/\AllBare s'.gens) s₁:=by
  intro H hO hS hok hA hK
  have base_of:∀ {b:Addr} {o:Obj},s₁.heap.get? b = some o->H b = none->(aBA s₁.heap H).get? b = some o:=fun e n=>aG8 e n
  have noA:∀ {b:Addr} {o:Obj} {es:Array DictEntry} {ep:Nat},s₁.heap.get? b = some o->o.data = .dict es ep->H b = none:=fun {b o es ep} e d=>by
   cases q:H b with
   | none=>rfl
   | some u =>
    have e':b = a:=hA b (by rw [q];simp)
    subst e'
    rw [ha] at e;cases e
    have d':Data.seq vs.toArray _ = Data.dict es ep:=d
    cases d'
  have nsK:∀ {b:Addr} {m:Str->Option Value},s₁.heap.Ns b m->(aBA s₁.heap H).Ns b m:=fun {b m} ⟨o,es,ep,e,d,r⟩=>⟨o,es,ep,base_of e (noA e d),d,r⟩
  have hKb:K.In (aBA s₁.heap H):=fun b o e=>base_of (KX b o e) (by
   cases q:H b with
   | none=>rfl
   | some u =>
    have e':b = a:=hA b (by rw [q];simp)
    subst e'
    rw [hK (by rw [q];simp)] at e;cases e)
  have hM:Mod K mg (aBA s₁.heap H):=⟨hKb,nsK hns,⟨mb,nsK hb,hbb⟩,let ⟨mc,h1,h2⟩:=hlim;⟨mc,nsK h1,h2⟩⟩
  have e0:aC8 P w K mg (aBA s₁.heap H) callerA [] s₁ H:=⟨rfl,hM,fun b o e=>aHg e,Nat.le_of_eq (aEm _ _),trivial,fun b hb=>absurd (show b ∈ ([]:List Addr) from hb) (by simp),hok,.of_eq hg⟩
  refine codeAny_mono ((F _ hKb (nsK hns)).run callerA [] s₁ H ⟨[.ref a],[]⟩ [.ref a] [.ref a] _ _ hr e0 (hbind s₁ (.ref a)) (.cons rfl .nil) (hsp H hO hS)) fun r s' h=>?_
  cases r with
  | error e=>exact (hCX H e s' h).elim
  | ok fl =>
   cases fl with
   | next=>exact False.elim h
   | brk=>exact False.elim h
   | cont=>exact False.elim h
   | ret u =>
    obtain ⟨v,H',os,bare,un,hok',r',q⟩:=h
    have q':v = .bl true:=q
    subst q'
    obtain rfl:u = Value.bool true:=r'
    refine ⟨rfl,OldK.of_keep fun b o e=>?_,os,bare⟩
    cases q:H b with
    | none=>exact un.keep b o e q (by intro z;exact absurd (show b ∈ ([]:List Addr) from z) (by simp)) (by simp)
    | some u =>
     rcases hO b with z | ⟨ob,xs,z⟩
     ·rw [q] at z;cases z
     ·have z2:=un.frzs b ob _ z
      obtain ⟨e1,_⟩:=hok b _ z
      obtain ⟨e2,_⟩:=hok' b _ z2
      rw [e] at e1;cases e1
      exact e2
 cases hk:K.lookup a with
 | some o =>
  have e:=KX a o hk
  rw [ha] at e
  cases e
  refine core (fun _=>none) (fun _=>.inl rfl) (.inr ⟨_,vs.toArray,_,hk,rfl,rfl,rfl,by rw [List.size_toArray,lenV];exact hl,by simpa using rv⟩) (fun b u z=>by have z':(none:Option HO) = some u:=z;cases z') (fun b z=>absurd rfl z) fun z=>absurd rfl z
 | none =>
  refine core (fun b=>if b = a then some (.frz { cls:=.type "list",data:=.seq vs.toArray } (.lst (ns.map V.int))) else none) (fun b=>?_) (.inl (.inr ⟨{ cls:=.type "list",data:=.seq vs.toArray },if_pos rfl⟩)) (fun b u z=>?_) (fun b z=>?_) fun _=>hk
  ·by_cases hb:b = a
   ·exact .inr ⟨_,_,if_pos hb⟩
   ·exact .inl (if_neg hb)
  ·by_cases hb:b = a
   ·have z':=(if_pos hb).symm.trans z
    cases z'
    subst hb
    exact ⟨ha,by rw [List.length_map];exact hl,vs,_,rv,ha⟩
   ·have z':=(if_neg hb).symm.trans z
    cases z'
  ·by_cases hb:b = a
   ·exact hb
   ·exact absurd (if_neg hb) z
end L2
namespace L2
open PySem PySem.Spec PyProof.Rows
end L2
namespace L2
open PySem PySem.Spec PyProof.Rows
noncomputable def nC (s:Stmt):Arguments:=match s with
 | .FunctionDef _ a _ _ _ _ _ _ _ _=>a
 | _=>{ posonlyargs:=[],args:=[],vararg:=none,kwonlyargs:=[],kw_defaults:=[],kwarg:=none,defaults:=[] }
noncomputable def eT (s:Stmt):List Stmt:=match s with
 | .FunctionDef _ _ b _ _ _ _ _ _ _=>b
 | _=>[]
noncomputable def aJ (s:Stmt):Scope:=match s with
 | .FunctionDef _ _ _ _ _ _ sc _ _ _=>sc
 | _=>{ kind:=.function,names:=[],isGenerator:=false,isCoroutine:=false }
noncomputable abbrev CX0:CXT:=fun _ _ _ _ _ _=>False
noncomputable abbrev E0:XK:=fun _ _ _=>False
theorem aGf {X:Cx}:tV CX0 X E0:=fun _ _ _ _ _ _ _ h=>h.elim
structure Fun (K:PySem.W.Frag) (x qual:Str) (st:Stmt) (f:Addr) (fd:FuncData):Prop where
 ex:∃ (oc:Value) (od:Option Addr) (kV doc pm:Value) (an:Option Addr) (cdv ct:Value) (osl:Array (Option Value)),
  fd = PySem.W.fnOf x qual (nC st) (eT st) (aJ st) .none kV doc pm an cdv ct/\K.lookup f = some ⟨oc,od,.func fd,osl⟩/\PySem.W.codeIn K cdv qual = true
 kp:PySem.W.keepIn K (.ref f) = true
section
variable {P:Program} {w:World} {K:PySem.W.Frag} {mg:Str->Option Value} {base:Heap}
theorem Fun.ok {x qual:Str} {st:Stmt} {f:Addr} {fd:FuncData} {N ps:List Str} {k:Nat} {sp:Sp} (F:Fun K x qual st f fd) (S:aQ N ps (aJ st)) (len:∀ vs H Q E,sp vs H Q E->vs.length = ps.length)
  (hbody:∀ (cdv:Value) (A:Around) (outer:List Env) (s:Shared) (H:Hp) (vs:List V) (Q:VK) (E:XK),eP k (A.deeper (envOfC qual (aJ st) s.heap.objs.size f cdv))->sp vs H Q E ->
   ∃ t,PSs (kD CX0 P w K mg base N qual (aJ st) f cdv A outer s H E).nox (eT st) t/\t { nx:=fun _ H'=>Q .non H',rt:=Q } (start N vs) H):jJ P w K mg base CX0 (k + 1) f fd ps sp:=by
 obtain ⟨oc,od,kV,doc,pm,an,cdv,ct,osl,rfl,lk,hcd⟩:=F.ex
 refine aE6 lk hcd S len fun A outer s H vs Q E hr hsp=>?_
 obtain ⟨t,h,q⟩:=hbody cdv A outer s H vs Q E hr hsp
 exact ⟨t,h.nox,q⟩
theorem Fun.binds {x qual:Str} {st:Stmt} {f:Addr} {fd:FuncData} {ps:List Str} (F:Fun K x qual st f fd)
  (h:∀ (kV doc pm:Value) (an:Option Addr) (cdv ct:Value) (us:List Value),us.length = ps.length->bindArgs (PySem.W.fnOf x qual (nC st) (eT st) (aJ st) .none kV doc pm an cdv ct) ⟨us,[]⟩ = pure (ps.zip us)):mG K fd ps []:=by
 obtain ⟨oc,od,kV,doc,pm,an,cdv,ct,osl,rfl,lk,hcd⟩:=F.ex
 exact .all (h kV doc pm an cdv ct)
theorem fun_mk {x qual:Str} {st:Stmt} {f:Addr} {oc:Value} {od an:Option Addr} {osl:Array (Option Value)} {kV doc pm cdv ct:Value} (l:K.lookup f = some ⟨oc,od,.func (PySem.W.fnOf x qual (nC st) (eT st) (aJ st) .none kV doc pm an cdv ct),osl⟩)
  (c:PySem.W.codeIn K cdv qual = true) (k:PySem.W.keepIn K (.ref f) = true):Fun K x qual st f (PySem.W.fnOf x qual (nC st) (eT st) (aJ st) .none kV doc pm an cdv ct):=⟨⟨oc,od,kV,doc,pm,an,cdv,ct,osl,rfl,l,c⟩,k⟩
end
theorem eX {n:Nat} (h:n<=1000):n < sizeLine:=Nat.lt_of_le_of_lt h (by decide)
section
variable {X:Cx}
theorem pv (i:Nat) {x:Str} {pos:Pos} (hN:X.N[i]? = some x:=by rfl) (hv:Vis X.env.scope x:=by first | exact Or.inl rfl | exact Or.inr (Or.inl rfl) | exact Or.inr (Or.inr rfl)) (hd:(x == ("__debug__":Str)) = false:=by decide)
  (hcd:(x == ("__classdict__":Str)) = false:=by decide):PE X (.Name x pos) (aMQ i):=aBd hN hv hd hcd
end
noncomputable def aEw (H H':Hp):Prop:=∀ b o,H b = some o->H' b = some o
theorem aEw.trans {H H1 H2:Hp} (a:aEw H H1) (b:aEw H1 H2):aEw H H2:=fun c o h=>b c o (a c o h)
theorem aEw.seq {K:PySem.W.Frag} {H H':Hp} {a:Addr} {xs:List V} (e:aEw H H') (h:SqL K H a xs):SqL K H' a xs:=by
 rcases h with (h | ⟨o,h⟩) | h
 ·exact .inl (.inl (e _ _ h))
 ·exact .inl (.inr ⟨o,e _ _ h⟩)
 ·exact .inr h
end L2
set_option maxHeartbeats 4000000
namespace Dd
open PySem PySem.Spec PyProof.Rows L2
inductive D where
 | non | bl (b:Bool) | int (i:Int) | str (x:Str) | tup (xs:List D) | fz (xs:List D) | ref (a:Addr)
noncomputable def SqX (K:PySem.W.Frag) (H:Hp) (a:Addr) (xs:List V):Prop :=
 (∃ o,H a = some (.frz o (.lst xs))) ∨
 ∃ (its:Array Value) (n:Nat),K.lookup a = some { cls:=.type "list",data:=.seq its n }/\its.size<=sizeLine/\cA xs its.toList
theorem SqX.sq {K:PySem.W.Frag} {H:Hp} {a:Addr} {xs:List V} (h:SqX K H a xs):SqL K H a xs:=by
 rcases h with ⟨o,h⟩ | ⟨its,n,h,z,r⟩
 ·exact .inl (.inr ⟨o,h⟩)
 ·exact .inr ⟨_,its,n,h,rfl,rfl,rfl,z,r⟩
mutual
noncomputable def Rep (K:PySem.W.Frag) (H:Hp):D->V->Prop
 | .non,v=>v = .non
 | .bl b,v=>v = .bl b
 | .int i,v=>v = .int i
 | .str x,v=>v = .str x
 | .ref a,v=>v = .ref a
 | .tup ds,v=>∃ a xs,v = .ref a/\SqT K H a xs/\bY K H ds xs
 | .fz ds,v=>∃ a xs,v = .ref a/\SqX K H a xs/\bY K H ds xs
noncomputable def bY (K:PySem.W.Frag) (H:Hp):List D->List V->Prop
 | [],vs=>vs = []
 | d :: ds,vs=>∃ v r,vs = v :: r/\Rep K H d v/\bY K H ds r
end
structure Ext (H H':Hp):Prop where
 tup:∀ a xs,H a = some (.tup xs)->H' a = some (.tup xs)
 frz:∀ a o u,H a = some (.frz o u)->H' a = some (.frz o u)
theorem Ext.refl (H:Hp):Ext H H:=⟨fun _ _ h=>h,fun _ _ _ h=>h⟩
theorem Ext.trans {H H1 H2:Hp} (a:Ext H H1) (b:Ext H1 H2):Ext H H2:=⟨fun c xs h=>b.tup c xs (a.tup c xs h),fun c o u h=>b.frz c o u (a.frz c o u h)⟩
theorem Ext.new {H:Hp} {p:Addr} (h:H p = none) (o:HO):Ext H (upd H p o) :=
 ⟨fun a xs e=>by rw [bN (bU e h)];exact e,fun a ob u e=>by rw [bN (bU e h)];exact e⟩
theorem Ext.put {H:Hp} {p:Addr} {xs:List V} (h:H p = some (.lst xs)) (o:HO):Ext H (upd H p o) :=
 ⟨fun a ys e=>by rw [bN (aGr e h (by intro z;cases z))];exact e,fun a ob u e=>by rw [bN (aGr e h (by intro z;cases z))];exact e⟩
section
variable {K:PySem.W.Frag} {H H':Hp}
theorem nJ (e:Ext H H') {a:Addr} {xs:List V} (h:SqT K H a xs):SqT K H' a xs:=by
 rcases h with (h | ⟨o,h⟩) | h
 ·exact .inl (.inl (e.tup _ _ h))
 ·exact .inl (.inr ⟨o,e.frz _ _ _ h⟩)
 ·exact .inr h
theorem jG (e:Ext H H') {a:Addr} {xs:List V} (h:SqX K H a xs):SqX K H' a xs:=by
 rcases h with ⟨o,h⟩ | h
 ·exact .inl ⟨o,e.frz _ _ _ h⟩
 ·exact .inr h
mutual
theorem Rep.ext (e:Ext H H'):∀ {d:D} {v:V},Rep K H d v->Rep K H' d v
 | .non,_,h=>by unfold Rep at h ⊢;exact h
 | .bl _,_,h=>by unfold Rep at h ⊢;exact h
 | .int _,_,h=>by unfold Rep at h ⊢;exact h
 | .str _,_,h=>by unfold Rep at h ⊢;exact h
 | .ref _,_,h=>by unfold Rep at h ⊢;exact h
 | .tup ds,_,h=>by
  unfold Rep at h ⊢
  obtain ⟨a,xs,e1,sq,r⟩:=h
  exact ⟨a,xs,e1,nJ e sq,bY.ext e r⟩
 | .fz ds,_,h=>by
  unfold Rep at h ⊢
  obtain ⟨a,xs,e1,sq,r⟩:=h
  exact ⟨a,xs,e1,jG e sq,bY.ext e r⟩
theorem bY.ext (e:Ext H H'):∀ {ds:List D} {vs:List V},bY K H ds vs->bY K H' ds vs
 | [],_,h=>by unfold bY at h ⊢;exact h
 | d :: ds,_,h=>by
  unfold bY at h ⊢
  obtain ⟨v,r,e1,hv,hr⟩:=h
  exact ⟨v,r,e1,Rep.ext e hv,bY.ext e hr⟩
end
theorem bT {i:Int}:Rep K H (.int i) (.int i):=by unfold Rep;rfl
theorem dL {b:Bool}:Rep K H (.bl b) (.bl b):=by unfold Rep;rfl
theorem eR {x:Str}:Rep K H (.str x) (.str x):=by unfold Rep;rfl
theorem tS:Rep K H .non .non:=by unfold Rep;rfl
theorem iO {a:Addr}:Rep K H (.ref a) (.ref a):=by unfold Rep;rfl
theorem aS {i:Int} {v:V} (h:Rep K H (.int i) v):v = .int i:=by unfold Rep at h;exact h
theorem cB {b:Bool} {v:V} (h:Rep K H (.bl b) v):v = .bl b:=by unfold Rep at h;exact h
theorem bA {x:Str} {v:V} (h:Rep K H (.str x) v):v = .str x:=by unfold Rep at h;exact h
theorem cY {v:V} (h:Rep K H .non v):v = .non:=by unfold Rep at h;exact h
theorem bD {a:Addr} {v:V} (h:Rep K H (.ref a) v):v = .ref a:=by unfold Rep at h;exact h
theorem cH {ds:List D} {v:V} (h:Rep K H (.tup ds) v):∃ a xs,v = .ref a/\SqT K H a xs/\bY K H ds xs:=by unfold Rep at h;exact h
theorem lS {ds:List D} {v:V} (h:Rep K H (.fz ds) v):∃ a xs,v = .ref a/\SqX K H a xs/\bY K H ds xs:=by unfold Rep at h;exact h
theorem cG {ds:List D} {a:Addr} {xs:List V} (sq:SqT K H a xs) (r:bY K H ds xs):Rep K H (.tup ds) (.ref a):=by unfold Rep;exact ⟨a,xs,rfl,sq,r⟩
theorem cP:bY K H [] []:=by unfold bY;rfl
theorem bS {vs:List V} (h:bY K H [] vs):vs = []:=by unfold bY at h;exact h
theorem bH {d:D} {ds:List D} {v:V} {vs:List V} (h:Rep K H d v) (r:bY K H ds vs):bY K H (d :: ds) (v :: vs):=by unfold bY;exact ⟨v,vs,rfl,h,r⟩
theorem aU {d:D} {ds:List D} {vs:List V} (h:bY K H (d :: ds) vs):∃ v r,vs = v :: r/\Rep K H d v/\bY K H ds r:=by unfold bY at h;exact h
theorem bY.length:∀ {ds:List D} {vs:List V},bY K H ds vs->ds.length = vs.length
 | [],_,h=>by rw [bS h];rfl
 | d :: ds,_,h=>by
  obtain ⟨v,r,rfl,_,hr⟩:=aU h
  rw [List.length_cons,List.length_cons,bY.length hr]
theorem bY.get:∀ {ds:List D} {vs:List V} {i:Nat} {d:D},bY K H ds vs->ds[i]? = some d->∃ v,vs[i]? = some v/\Rep K H d v
 | [],_,i,d,h,e=>by simp at e
 | d0 :: ds,_,0,d,h,e=>by
  obtain ⟨v,r,rfl,hv,hr⟩:=aU h
  simp at e;subst e
  exact ⟨v,rfl,hv⟩
 | d0 :: ds,_,i + 1,d,h,e=>by
  obtain ⟨v,r,rfl,hv,hr⟩:=aU h
  exact bY.get (i:=i) hr (by simpa using e)
theorem bY.getV:∀ {ds:List D} {vs:List V} {i:Nat} {v:V},bY K H ds vs->vs[i]? = some v->∃ d,ds[i]? = some d/\Rep K H d v
 | [],_,i,v,h,e=>by rw [bS h] at e;simp at e
 | d0 :: ds,_,0,v,h,e=>by
  obtain ⟨v0,r,rfl,hv,hr⟩:=aU h
  simp at e;subst e
  exact ⟨d0,rfl,hv⟩
 | d0 :: ds,_,i + 1,v,h,e=>by
  obtain ⟨v0,r,rfl,hv,hr⟩:=aU h
  exact bY.getV (i:=i) hr (by simpa using e)
theorem bY.append:∀ {ds es:List D} {vs us:List V},bY K H ds vs->bY K H es us->bY K H (ds ++ es) (vs ++ us)
 | [],es,vs,us,h,q=>by rw [bS h];exact q
 | d :: ds,es,_,us,h,q=>by
  obtain ⟨v,r,rfl,hv,hr⟩:=aU h
  exact bH hv (bY.append hr q)
theorem bY.take:∀ {ds:List D} {vs:List V} (n:Nat),bY K H ds vs->bY K H (ds.take n) (vs.take n)
 | ds,vs,0,h=>by rw [List.take_zero,List.take_zero];exact cP
 | [],_,n + 1,h=>by rw [bS h];exact cP
 | d :: ds,_,n + 1,h=>by
  obtain ⟨v,r,rfl,hv,hr⟩:=aU h
  exact bH hv (bY.take n hr)
theorem bY.drop:∀ {ds:List D} {vs:List V} (n:Nat),bY K H ds vs->bY K H (ds.drop n) (vs.drop n)
 | ds,vs,0,h=>h
 | [],_,n + 1,h=>by rw [bS h];exact cP
 | d :: ds,_,n + 1,h=>by
  obtain ⟨v,r,rfl,hv,hr⟩:=aU h
  exact bY.drop n hr
theorem aAC:∀ (ns:List Int),bY K H (ns.map D.int) (ns.map V.int)
 | []=>cP
 | n :: ns=>bH bT (aAC ns)
end
inductive AK where
 | l (a:Addr) | d (a:Addr)
deriving DecidableEq
instance:Coe Addr AK:=⟨AK.l⟩
noncomputable abbrev DM:=AK->Option (List D)
noncomputable def bC (M:DM) (a:Addr) (ds:List D):DM:=fun b=>if b = AK.l a then some ds else M b
theorem aI {M:DM} {a:Addr} {ds:List D}:bC M a ds a = some ds:=if_pos rfl
theorem bI {M:DM} {a b:Addr} {ds:List D} (h:b ≠ a):bC M a ds b = M b:=if_neg fun e=>h (AK.l.inj e)
theorem yY {M:DM} {a:Addr} {b:AK} {ds:List D} (h:b ≠ AK.l a):bC M a ds b = M b:=if_neg h
theorem aG9 {M:DM} {a b:Addr} {ds:List D}:bC M a ds (.d b) = M (.d b):=if_neg fun e=>nomatch e
theorem aAm {M:DM} {a:Addr} {ds es:List D}:bC (bC M a ds) a es = bC M a es:=by
 funext b;unfold bC;split<;>rfl
theorem aB3 {M:DM} {a b:Addr} {o:List D} (h:M a = some o) (h':M b = none):a ≠ b:=by
 intro e;subst e;rw [h] at h';cases h'
theorem vO {M:DM} {a b:AK} {o:List D} (h:M a = some o) (h':M b = none):a ≠ b:=by
 intro e;subst e;rw [h] at h';cases h'
noncomputable def aMD (a:Addr) (es:List DictEntry):Heap->Prop:=fun h=>(a == sysModules) = false/\es.length<=sizeLine/\∃ ep,h.get? a = some { cls:=.type "dict",data:=.dict es.toArray ep }
noncomputable def aH8 (K:PySem.W.Frag) (H:Hp) (d:D) (e:DictEntry):Prop:=∃ k v kv vv,d = .tup [.int e.hash,k,v]/\cR kv e.key/\Rep K H k kv/\cR vv e.val/\Rep K H v vv
theorem aH8.ext {K:PySem.W.Frag} {H H':Hp} {d:D} {e:DictEntry} (h:aH8 K H d e) (x:Ext H H'):aH8 K H' d e :=
 let ⟨k,v,kv,vv,a,b,c,f,g⟩:=h;⟨k,v,kv,vv,a,b,c.ext x,f,g.ext x⟩
noncomputable abbrev aFj (K:PySem.W.Frag) (H:Hp) (ds:List D) (es:List DictEntry):Prop:=Paired (aH8 K H) ds es
theorem qN {K:PySem.W.Frag} {H H':Hp} {ds:List D} {es:List DictEntry} (h:aFj K H ds es) (x:Ext H H'):aFj K H' ds es:=Paired.mapP h fun _ _ r=>r.ext x
structure cO (K:PySem.W.Frag) (M:DM) (H:Hp):Prop where
 l:∀ (a:Addr) ds,M (.l a) = some ds->∃ xs,H a = some (.lst xs)/\bY K H ds xs
 d:∀ (a:Addr) ds,M (.d a) = some ds->∃ es,H a = some (.ext (aMD a es))/\aFj K H ds es
section
variable {K:PySem.W.Frag} {H H':Hp} {M M':DM}
theorem cO.fresh (h:cO K M H) {p:Addr} (e:H p = none):M p = none:=by
 cases q:M p with
 | none=>rfl
 | some ds=>obtain ⟨xs,z,_⟩:=h.l p ds q;rw [e] at z;cases z
theorem cO.new (h:cO K M H) {p:Addr} (e:H p = none) (o:HO):cO K M (upd H p o) where
 l:=fun a ds q=>by
  obtain ⟨xs,z,r⟩:=h.l a ds q
  exact ⟨xs,by rw [bN (bU z e)];exact z,r.ext (Ext.new e o)⟩
 d:=fun a ds q=>by
  obtain ⟨xs,z,r⟩:=h.d a ds q
  exact ⟨xs,by rw [bN (bU z e)];exact z,qN r (Ext.new e o)⟩
theorem cO.lnew (h:cO K M H) {p:Addr} (e:H p = none) {xs:List V} {ds:List D} (r:bY K H ds xs):cO K (bC M p ds) (upd H p (.lst xs)) where
 l:=fun a es q=>by
  by_cases ha:a = p
  ·subst ha
   rw [aI] at q
   cases q
   exact ⟨xs,dE,r.ext (Ext.new e _)⟩
  ·rw [bI ha] at q
   obtain ⟨ys,z,r2⟩:=h.l a es q
   exact ⟨ys,by rw [bN ha];exact z,r2.ext (Ext.new e _)⟩
 d:=fun a es q=>by
  rw [aG9] at q
  obtain ⟨ys,z,r2⟩:=h.d a es q
  exact ⟨ys,by rw [bN (bU z e)];exact z,qN r2 (Ext.new e _)⟩
theorem cO.put (h:cO K M H) {p:Addr} {xs0:List V} (e:H p = some (.lst xs0)) {xs:List V} {ds:List D} (r:bY K H ds xs):cO K (bC M p ds) (upd H p (.lst xs)) where
 l:=fun a es q=>by
  by_cases ha:a = p
  ·subst ha
   rw [aI] at q
   cases q
   exact ⟨xs,dE,r.ext (Ext.put e _)⟩
  ·rw [bI ha] at q
   obtain ⟨ys,z,r2⟩:=h.l a es q
   exact ⟨ys,by rw [bN ha];exact z,r2.ext (Ext.put e _)⟩
 d:=fun a es q=>by
  rw [aG9] at q
  obtain ⟨ys,z,r2⟩:=h.d a es q
  exact ⟨ys,by rw [bN (aGr z e (by intro z;cases z))];exact z,qN r2 (Ext.put e _)⟩
noncomputable def aW (M M':DM):Prop:=∀ a o,M a = some o->M' a = some o
theorem aW.refl (M:DM):aW M M:=fun _ _ h=>h
theorem aW.trans {M1 M2 M3:DM} (a:aW M1 M2) (b:aW M2 M3):aW M1 M3:=fun c o h=>b c o (a c o h)
theorem aW.new {M:DM} {p:Addr} (h:M p = none) (ds:List D):aW M (bC M p ds):=fun a o e=>by rw [yY (vO e h)];exact e
theorem cO.sub (h:cO K M' H) (s:aW M M'):cO K M H:=⟨fun a ds q=>h.l a ds (s _ ds q),fun a ds q=>h.d a ds (s _ ds q)⟩
end
noncomputable abbrev cV:=List (Option D)
structure iI (K:PySem.W.Frag) (H:Hp) (ρ:cV) (σ:L2.St):Prop where
 len:ρ.length = σ.length
 get:∀ (i:Nat) d,ρ[i]? = some (some d)->∃ v,σ[i]? = some (some v)/\Rep K H d v
section
variable {K:PySem.W.Frag} {H H':Hp} {ρ:cV} {σ:L2.St}
theorem iI.ext (h:iI K H ρ σ) (e:Ext H H'):iI K H' ρ σ:=⟨h.len,fun i d q=>let ⟨v,a,b⟩:=h.get i d q;⟨v,a,b.ext e⟩⟩
theorem iI.set (h:iI K H ρ σ) {d:D} {v:V} (r:Rep K H d v) (i:Nat):iI K H (ρ.set i (some d)) (σ.set i (some v)):=by
 refine ⟨by rw [List.length_set,List.length_set,h.len],fun j d' q=>?_⟩
 rw [List.getElem?_set] at q
 by_cases hij:i = j
 ·subst hij
  rw [if_pos rfl] at q
  by_cases hl:i < ρ.length
  ·rw [if_pos hl] at q
   cases q
   exact ⟨v,by rw [List.getElem?_set,if_pos rfl,if_pos (by rw [<- h.len];exact hl)],r⟩
  ·rw [if_neg hl] at q
   cases q
 ·rw [if_neg hij] at q
  obtain ⟨u,a,b⟩:=h.get j d' q
  exact ⟨u,by rw [List.getElem?_set,if_neg hij];exact a,b⟩
end
noncomputable abbrev DQ:=D->DM->Prop
noncomputable abbrev DE:=cV->DM->DQ->Prop
noncomputable abbrev DT:=cV->DM->(Bool->DM->Prop)->Prop
noncomputable abbrev DA:=cV->DM->(List D->DM->Prop)->Prop
structure iV where
 nx:cV->DM->Prop
 rt:DQ
 bk:cV->DM->Prop:=fun _ _=>False
 ct:cV->DM->Prop:=fun _ _=>False
noncomputable abbrev DS:=iV->cV->DM->Prop
noncomputable abbrev DG:=D->cV->DM->(cV->DM->Prop)->Prop
noncomputable abbrev DGs:=List D->cV->DM->(cV->DM->Prop)->Prop
noncomputable def LQ (K:PySem.W.Frag) (H:Hp) (Q:DQ):VK:=fun v H'=>∃ d M',Rep K H' d v/\cO K M' H'/\Ext H H'/\Q d M'
noncomputable def LT (K:PySem.W.Frag) (H:Hp) (Q:Bool->DM->Prop):Bool->Hp->Prop:=fun b H'=>∃ M',cO K M' H'/\Ext H H'/\Q b M'
noncomputable def LA (K:PySem.W.Frag) (H:Hp) (Q:List D->DM->Prop):List V->Hp->Prop:=fun vs H'=>∃ ds M',bY K H' ds vs/\cO K M' H'/\Ext H H'/\Q ds M'
noncomputable def LN (K:PySem.W.Frag) (H:Hp) (Q:cV->DM->Prop):L2.St->Hp->Prop:=fun σ' H'=>∃ ρ' M',iI K H' ρ' σ'/\cO K M' H'/\Ext H H'/\Q ρ' M'
structure rM (K:PySem.W.Frag) (H:Hp) (D:iV) (E:yH):Prop where
 nx:∀ σ' H',LN K H D.nx σ' H'->E.nx σ' H'
 rt:∀ v H',LQ K H D.rt v H'->E.rt v H'
 bk:∀ σ' H',LN K H D.bk σ' H'->E.bk σ' H'
 ct:∀ σ' H',LN K H D.ct σ' H'->E.ct σ' H'
noncomputable def low (K:PySem.W.Frag) (t:DE):TE:=fun σ H Q=>∃ ρ M Q',iI K H ρ σ/\cO K M H/\t ρ M Q'/\∀ v H',LQ K H Q' v H'->Q v H'
noncomputable def aKV (K:PySem.W.Frag) (t:DT):TT:=fun σ H Q=>∃ ρ M Q',iI K H ρ σ/\cO K M H/\t ρ M Q'/\∀ v H',LT K H Q' v H'->Q v H'
noncomputable def aML (K:PySem.W.Frag) (t:DA):TA:=fun σ H Q=>∃ ρ M Q',iI K H ρ σ/\cO K M H/\t ρ M Q'/\∀ v H',LA K H Q' v H'->Q v H'
noncomputable def aED (K:PySem.W.Frag) (t:DS):TS:=fun E σ H=>∃ ρ M D,iI K H ρ σ/\cO K M H/\t D ρ M/\rM K H D E
noncomputable def aAX (K:PySem.W.Frag) (g:DG):TG:=fun v σ H Q=>∃ d ρ M Q',Rep K H d v/\iI K H ρ σ/\cO K M H/\g d ρ M Q'/\∀ σ' H',LN K H Q' σ' H'->Q σ' H'
noncomputable def aNh (K:PySem.W.Frag) (g:DGs):TGs:=fun vs σ H Q=>∃ ds ρ M Q',bY K H ds vs/\iI K H ρ σ/\cO K M H/\g ds ρ M Q'/\∀ σ' H',LN K H Q' σ' H'->Q σ' H'
noncomputable abbrev PDE (X:Cx) (e:Expr) (t:DE):Prop:=PE X e (low X.K t)
noncomputable abbrev PDT (X:Cx) (e:Expr) (t:DT):Prop:=PT X e (aKV X.K t)
noncomputable abbrev PDW (X:Cx) (e:Expr) (t:DT):Prop:=PW X e (aKV X.K t)
noncomputable abbrev PDA (X:Cx) (es:List Expr) (t:DA):Prop:=PA X es (aML X.K t)
noncomputable abbrev PDS (X:Cx) (st:Stmt) (t:DS):Prop:=PS X st (aED X.K t)
noncomputable abbrev mQ (X:Cx) (st:List Stmt) (t:DS):Prop:=PSs X st (aED X.K t)
noncomputable abbrev PDG (X:Cx) (e:Expr) (g:DG):Prop:=PG X e (aAX X.K g)
noncomputable abbrev aBL (X:Cx) (es:List Expr) (g:DGs):Prop:=PGs X es (aNh X.K g)
section
variable {K:PySem.W.Frag} {H H1:Hp}
theorem LQ.back {Q:DQ} {v:V} {H2:Hp} (e:Ext H H1) (h:LQ K H1 Q v H2):LQ K H Q v H2:=let ⟨d,M,a,b,c,q⟩:=h;⟨d,M,a,b,e.trans c,q⟩
theorem LT.back {Q:Bool->DM->Prop} {v:Bool} {H2:Hp} (e:Ext H H1) (h:LT K H1 Q v H2):LT K H Q v H2:=let ⟨M,b,c,q⟩:=h;⟨M,b,e.trans c,q⟩
theorem LN.back {Q:cV->DM->Prop} {v:L2.St} {H2:Hp} (e:Ext H H1) (h:LN K H1 Q v H2):LN K H Q v H2:=let ⟨d,M,a,b,c,q⟩:=h;⟨d,M,a,b,e.trans c,q⟩
theorem rM.at {D:iV} {E:yH} (h:rM K H D E) (e:Ext H H1):rM K H1 D E :=
 ⟨fun s H2 q=>h.nx s H2 (q.back e),fun s H2 q=>h.rt s H2 (q.back e),fun s H2 q=>h.bk s H2 (q.back e),fun s H2 q=>h.ct s H2 (q.back e)⟩
end
section
variable {X:Cx} {e:Expr} {st:Stmt} {sts:List Stmt}
theorem cJ {t u:TE} (h:PE X e t) (k:∀ σ H Q,u σ H Q->t σ H Q):PE X e u:=fun pins s σ H Q I q=>h pins s σ H Q I (k σ H Q q)
theorem aC6 {t u:TT} (h:PT X e t) (k:∀ σ H Q,u σ H Q->t σ H Q):PT X e u:=fun pins s σ H Q I q=>h pins s σ H Q I (k σ H Q q)
theorem aGw {t u:TT} (h:PW X e t) (k:∀ σ H Q,u σ H Q->t σ H Q):PW X e u:=fun wh pins s σ H Q I q=>h wh pins s σ H Q I (k σ H Q q)
theorem aG3 {es:List Expr} {t u:TA} (h:PA X es t) (k:∀ σ H Q,u σ H Q->t σ H Q):PA X es u:=fun pos pins s σ H Q I q=>h pos pins s σ H Q I (k σ H Q q)
theorem iQ {t u:TS} (h:PS X st t) (k:∀ D σ H,u D σ H->t D σ H):PS X st u:=fun pins s σ H D I q=>h pins s σ H D I (k D σ H q)
theorem aBK {t u:TS} (h:PSs X sts t) (k:∀ D σ H,u D σ H->t D σ H):PSs X sts u:=fun pins s σ H D I q=>h pins s σ H D I (k D σ H q)
theorem aGs {t u:TG} (h:PG X e t) (k:∀ v σ H Q,u v σ H Q->t v σ H Q):PG X e u:=fun pins s σ H v w Q I r q=>h pins s σ H v w Q I r (k v σ H Q q)
theorem aDC {es:List Expr} {t u:TGs} (h:PGs X es t) (k:∀ v σ H Q,u v σ H Q->t v σ H Q):PGs X es u:=fun pins s σ H v w Q I r q=>h pins s σ H v w Q I r (k v σ H Q q)
end
section
variable {X:Cx} {a b c e:Expr} {es:List Expr} {ta tb tc te:DE} {tA tB:DT} {t:DA} {pos:Pos}
noncomputable def aAP (i:Nat):DE:=fun ρ M Q=>match ρ[i]? with
 | some (some d)=>Q d M
 | _=>False
theorem aLV (i:Nat) {x:Str} {pos:Pos} (hN:X.N[i]? = some x:=by rfl) (hv:Vis X.env.scope x:=by first | exact Or.inl rfl | exact Or.inr (Or.inl rfl) | exact Or.inr (Or.inr rfl)) (hd:(x == ("__debug__":Str)) = false:=by decide)
  (hcd:(x == ("__classdict__":Str)) = false:=by decide):PDE X (.Name x pos) (aAP i) :=
 cJ (aBd (i:=i) hN hv hd hcd) fun σ H Q ⟨ρ,M,Q',re,hm,q,k⟩=>by
  unfold aAP at q
  split at q
  ·rename_i d e
   obtain ⟨v,e1,r⟩:=re.get i d e
   exact ⟨v,e1,k v H ⟨d,M,r,hm,.refl H,q⟩⟩
  ·exact q.elim
noncomputable def dC (d:D):DE:=fun _ M Q=>Q d M
theorem aL9 {i j pos}:PDE X (.Constant (.int i) j pos) (dC (.int i)):=cJ aKF fun σ H Q ⟨ρ,M,Q',re,hm,q,k⟩=>k _ H ⟨_,M,bT,hm,.refl H,q⟩
theorem aNS {i j pos}:PDE X (.Constant (.bool i) j pos) (dC (.bl i)):=cJ aNk fun σ H Q ⟨ρ,M,Q',re,hm,q,k⟩=>k _ H ⟨_,M,dL,hm,.refl H,q⟩
theorem aLK {j pos}:PDE X (.Constant .none j pos) (dC .non):=cJ aJL fun σ H Q ⟨ρ,M,Q',re,hm,q,k⟩=>k _ H ⟨_,M,tS,hm,.refl H,q⟩
theorem aJv {x j pos}:PDE X (.Constant (.str x) j pos) (dC (.str x)):=cJ aLR fun σ H Q ⟨ρ,M,Q',re,hm,q,k⟩=>k _ H ⟨_,M,eR,hm,.refl H,q⟩
theorem aId {x:Str} {d:D} {v:V} {u:Value} {pos:Pos} (hg:Gl X x) (hm:X.mg x = some u) (r:cR v u) (hr:∀ H,Rep X.K H d v) (hd:(x == ("__debug__":Str)) = false:=by decide):PDE X (.Name x pos) (dC d) :=
 cJ (aHK hg hm r hd) fun σ H Q ⟨ρ,M,Q',re,hm,q,k⟩=>k _ H ⟨_,M,hr H,hm,.refl H,q⟩
noncomputable abbrev D2:=D->D->DM->DQ->Prop
noncomputable def OpL (K:PySem.W.Frag) (r:R2) (r':D2):Prop:=∀ x y H M dx dy Q,Rep K H dx x->Rep K H dy y->cO K M H->r' dx dy M Q->r x y H (LQ K H Q)
noncomputable def OpD (X:Cx) (f:Value->Value->Sem Value) (r':D2):Prop :=
 OpR X f fun x y H Q=>∃ dx dy M Q',Rep X.K H dx x/\Rep X.K H dy y/\cO X.K M H/\r' dx dy M Q'/\∀ v H',LQ X.K H Q' v H'->Q v H'
theorem aD1 {pins:List (Addr × Obj)} {σ:L2.St} {Q Q':VK} {u:Value} {s:Shared} (h:EP X pins σ Q u s) (k:∀ v H,Q v H->Q' v H):EP X pins σ Q' u s:=let ⟨v,H,a,b,c⟩:=h;⟨v,H,a,b,k v H c⟩
theorem OpD.of {f:Value->Value->Sem Value} {r:R2} {r':D2} (h:OpR X f r) (l:OpL X.K r r'):OpD X f r':=fun pins s σ H x y v u Q I rx ry ⟨dx,dy,M,Q',r1,r2,hm,q,k⟩ =>
 thn (h pins s σ H x y v u _ I rx ry (l x y H M dx dy Q' r1 r2 hm q)) fun v s h=>aD1 h k
noncomputable def dOp (r:D2) (ta tb:DE):DE:=fun ρ M Q=>ta ρ M fun x M1=>tb ρ M1 fun y M2=>r x y M2 Q
theorem aA4 {r':D2} {σ:L2.St} {H:Hp} {Q:VK} {R:V->V->Hp->VK->Prop} (hR:∀ x y H1 Q1,(∃ dx dy M Q',Rep X.K H1 dx x/\Rep X.K H1 dy y/\cO X.K M H1/\r' dx dy M Q'/\∀ v H',LQ X.K H1 Q' v H'->Q1 v H')->R x y H1 Q1)
  (h:low X.K (dOp r' ta tb) σ H Q):low X.K ta σ H fun x H1=>low X.K tb σ H1 fun y H2=>R x y H2 Q:=by
 obtain ⟨ρ,M,Q',re,hm,q,k⟩:=h
 refine ⟨ρ,M,_,re,hm,q,fun x H1 ⟨dx,M1,rx,hm1,e1,q1⟩=>⟨ρ,M1,_,re.ext e1,hm1,q1,fun y H2 ⟨dy,M2,ry,hm2,e2,q2⟩=>?_⟩⟩
 exact hR x y H2 Q ⟨dx,dy,M2,Q',rx.ext e2,ry,hm2,q2,fun v H' z=>k v H' (z.back (e1.trans e2))⟩
theorem aMr {op:Operator} {r:D2} (ho:OpD X (binaryOp op) r) (ha:PDE X a ta) (hb:PDE X b tb):PDE X (.BinOp a op b pos) (dOp r ta tb) :=
 cJ (aMT ho ha hb) fun σ H Q h=>aA4 (fun _ _ _ _ z=>z) h
theorem aKt {op:CmpOp} {r:D2} (ho:OpD X (compareOp op) r) (ha:PDE X a ta) (hb:PDE X b tb) (hm:behindInMarks op b = false:=by exact aAV _):PDE X (.Compare a [op] [b] pos) (dOp r ta tb) :=
 cJ (aHO ho ha hb hm) fun σ H Q h=>aA4 (fun _ _ _ _ z=>z) h
noncomputable def aAE (t:DE):DT:=fun ρ M Q=>t ρ M fun d M'=>match d with
 | .bl k=>Q k M'
 | _=>False
theorem aCq {σ:L2.St} {H:Hp} {Q:Bool->Hp->Prop} (h:aKV X.K (aAE te) σ H Q):low X.K te σ H fun x H'=>∃ k,x = .bl k/\Q k H':=by
 obtain ⟨ρ,M,Q',re,hm,q,k⟩:=h
 refine ⟨ρ,M,_,re,hm,q,fun x H1 ⟨d,M1,rd,hm1,e1,q1⟩=>?_⟩
 cases d with
 | bl c=>exact ⟨c,cB rd,k c H1 ⟨M1,hm1,e1,q1⟩⟩
 | _=>exact q1.elim
theorem aKU {op:CmpOp} {r:D2} (ho:OpD X (compareOp op) r) (ha:PDE X a ta) (hb:PDE X b tb) (hm:behindInMarks op b = false:=by exact aAV _):PDT X (.Compare a [op] [b] pos) (aAE (dOp r ta tb)) :=
 aC6 (aIp ho ha hb hm) fun σ H Q h=>aA4 (R:=fun x y H Q1=>∃ dx dy M Q',Rep X.K H dx x/\Rep X.K H dy y/\cO X.K M H/\r dx dy M Q'/\∀ v H',LQ X.K H Q' v H'->Q1 v H') (fun _ _ _ _ z=>z) (aCq h)
theorem aKY (h:PDE X e te) (he:∀ whole,isTrue e X.env whole = (do let v <- whole;standAt e.pos;holding [v] (truthy v)):=by intro _;rfl):PDT X e (aAE te) :=
 aC6 (aKI h he) fun σ H Q h=>aCq h
noncomputable def aLC (t u:DT):DT:=fun ρ M Q=>t ρ M fun c M1=>if c = true then u ρ M1 Q else Q false M1
noncomputable def dOr (t u:DT):DT:=fun ρ M Q=>t ρ M fun c M1=>if c = true then Q true M1 else u ρ M1 Q
noncomputable def aJE (t:DT):DT:=fun ρ M Q=>t ρ M fun c M1=>Q (!c) M1
variable {dF:List Expr}
theorem aHf (ha:PDT X a tA):PDW X (.BoolOp .And [a] pos) tA:=aH3 ha
theorem aKo (ha:PDT X a tA):PDW X (.BoolOp .Or [a] pos) tA:=aJP ha
theorem aJB (ha:PDT X a tA) (hb:PDW X (.BoolOp .And (b :: dF) pos) tB):PDW X (.BoolOp .And (a :: b :: dF) pos) (aLC tA tB) :=
 aGw (aLh ha hb) fun σ H Q ⟨ρ,M,Q',re,hm,q,k⟩=>⟨ρ,M,_,re,hm,q,fun c H1 ⟨M1,hm1,e1,q1⟩=>by
  cases c with
  | true=>exact ⟨ρ,M1,_,re.ext e1,hm1,q1,fun v H' z=>k v H' (z.back e1)⟩
  | false=>exact k false H1 ⟨M1,hm1,e1,q1⟩⟩
theorem aMW (ha:PDT X a tA) (hb:PDW X (.BoolOp .Or (b :: dF) pos) tB):PDW X (.BoolOp .Or (a :: b :: dF) pos) (dOr tA tB) :=
 aGw (aMC ha hb) fun σ H Q ⟨ρ,M,Q',re,hm,q,k⟩=>⟨ρ,M,_,re,hm,q,fun c H1 ⟨M1,hm1,e1,q1⟩=>by
  cases c with
  | false=>exact ⟨ρ,M1,_,re.ext e1,hm1,q1,fun v H' z=>k v H' (z.back e1)⟩
  | true=>exact k true H1 ⟨M1,hm1,e1,q1⟩⟩
theorem aOz (h:PDW X e tA):PDT X e tA:=PW.pt h
theorem aKu (ha:PDT X a tA):PDT X (.UnaryOp .Not a pos) (aJE tA) :=
 aC6 (aLW ha) fun σ H Q ⟨ρ,M,Q',re,hm,q,k⟩=>⟨ρ,M,_,re,hm,q,fun c H1 ⟨M1,hm1,e1,q1⟩=>k (!c) H1 ⟨M1,hm1,e1,q1⟩⟩
noncomputable def aGV (ta tb:DE):DE:=fun ρ M Q=>ta ρ M fun x M1=>match x with
 | .bl c=>if c = true then tb ρ M1 Q else Q (.bl false) M1
 | _=>False
noncomputable def aJM (ta tb:DE):DE:=fun ρ M Q=>ta ρ M fun x M1=>match x with
 | .bl c=>if c = true then Q (.bl true) M1 else tb ρ M1 Q
 | _=>False
noncomputable def aGQ (ta:DE):DE:=fun ρ M Q=>ta ρ M fun x M1=>match x with
 | .bl c=>Q (.bl (!c)) M1
 | _=>False
theorem aLL {op} (h:PDE X a ta):PDE X (.BoolOp op [a] pos) ta:=aKG h
theorem aL6 (ha:PDE X a ta) (hb:PDE X (.BoolOp .And (b :: dF) pos) tb):PDE X (.BoolOp .And (a :: b :: dF) pos) (aGV ta tb) :=
 cJ (aLy ha hb) fun σ H Q ⟨ρ,M,Q',re,hm,q,k⟩=>⟨ρ,M,_,re,hm,q,fun x H1 ⟨d,M1,rd,hm1,e1,q1⟩=>by
  cases d with
  | bl c =>
   refine ⟨c,cB rd,?_⟩
   cases c with
   | true=>exact ⟨ρ,M1,_,re.ext e1,hm1,q1,fun v H' z=>k v H' (z.back e1)⟩
   | false=>exact k _ H1 ⟨_,M1,dL,hm1,e1,q1⟩
  | _=>exact q1.elim⟩
theorem aNn (ha:PDE X a ta) (hb:PDE X (.BoolOp .Or (b :: dF) pos) tb):PDE X (.BoolOp .Or (a :: b :: dF) pos) (aJM ta tb) :=
 cJ (aMB ha hb) fun σ H Q ⟨ρ,M,Q',re,hm,q,k⟩=>⟨ρ,M,_,re,hm,q,fun x H1 ⟨d,M1,rd,hm1,e1,q1⟩=>by
  cases d with
  | bl c =>
   refine ⟨c,cB rd,?_⟩
   cases c with
   | false=>exact ⟨ρ,M1,_,re.ext e1,hm1,q1,fun v H' z=>k v H' (z.back e1)⟩
   | true=>exact k _ H1 ⟨_,M1,dL,hm1,e1,q1⟩
  | _=>exact q1.elim⟩
theorem aJF (ha:PDE X a ta):PDE X (.UnaryOp .Not a pos) (aGQ ta) :=
 cJ (aKR ha) fun σ H Q ⟨ρ,M,Q',re,hm,q,k⟩=>⟨ρ,M,_,re,hm,q,fun x H1 ⟨d,M1,rd,hm1,e1,q1⟩=>by
  cases d with
  | bl c=>exact ⟨c,cB rd,k _ H1 ⟨_,M1,dL,hm1,e1,q1⟩⟩
  | _=>exact q1.elim⟩
noncomputable def aKL (t:DT) (ta tb:DE):DE:=fun ρ M Q=>t ρ M fun c M1=>if c = true then ta ρ M1 Q else tb ρ M1 Q
theorem aF7 (hc:PDT X c tA) (ha:PDE X a ta) (hb:PDE X b tb):PDE X (.IfExp c a b pos) (aKL tA ta tb) :=
 cJ (aFd hc ha hb) fun σ H Q ⟨ρ,M,Q',re,hm,q,k⟩=>⟨ρ,M,_,re,hm,q,fun c H1 ⟨M1,hm1,e1,q1⟩=>by
  cases c with
  | true=>exact ⟨ρ,M1,_,re.ext e1,hm1,q1,fun v H' z=>k v H' (z.back e1)⟩
  | false=>exact ⟨ρ,M1,_,re.ext e1,hm1,q1,fun v H' z=>k v H' (z.back e1)⟩⟩
noncomputable def oF:DA:=fun _ M Q=>Q [] M
noncomputable def jS (ta:DE) (tr:DA):DA:=fun ρ M Q=>ta ρ M fun x M1=>tr ρ M1 fun xs M2=>Q (x :: xs) M2
theorem oI:PDA X [] oF:=aG3 aBH fun σ H Q ⟨ρ,M,Q',re,hm,q,k⟩=>k [] H ⟨[],M,cP,hm,.refl H,q⟩
theorem kS (ha:PDE X e te) (hr:PDA X es t) (hs:starEach (e :: es) X.env = (false,eval e X.env) :: starEach es X.env:=by rfl):PDA X (e :: es) (jS te t) :=
 aG3 (mY ha hr hs) fun σ H Q ⟨ρ,M,Q',re,hm,q,k⟩=>⟨ρ,M,_,re,hm,q,fun x H1 ⟨dx,M1,rx,hm1,e1,q1⟩=>⟨ρ,M1,_,re.ext e1,hm1,q1,fun xs H2 ⟨dxs,M2,rxs,hm2,e2,q2⟩ =>
  k _ H2 ⟨dx :: dxs,M2,bH (rx.ext e2) rxs,hm2,e1.trans e2,q2⟩⟩⟩
noncomputable def aKX (t:DA):DE:=fun ρ M Q=>t ρ M fun xs M1=>xs.length<=1000/\Q (.tup xs) M1
noncomputable def aJD (t:DA):DE:=fun ρ M Q=>t ρ M fun xs M1=>xs.length<=1000/\∀ p:Addr,M1 p = none->Q (.ref p) (bC M1 p xs)
theorem aLJ {x1} (h:PDA X es t):PDE X (.Tuple es x1 pos) (aKX t) :=
 cJ (aFI h) fun σ H Q ⟨ρ,M,Q',re,hm,q,k⟩=>⟨ρ,M,_,re,hm,q,fun xs H1 ⟨ds,M1,rs,hm1,e1,q1,q2⟩=>⟨by rw [<- rs.length];exact Nat.le_of_lt (eX q1),fun p hp =>
  k _ _ ⟨.tup ds,M1,cG (.of dE) (rs.ext (Ext.new hp _)),hm1.new hp _,e1.trans (Ext.new hp _),q2⟩⟩⟩
theorem aJH (h:PDA X es t):PDE X (.List es pos) (aJD t) :=
 cJ (aL8 h) fun σ H Q ⟨ρ,M,Q',re,hm,q,k⟩=>⟨ρ,M,_,re,hm,q,fun xs H1 ⟨ds,M1,rs,hm1,e1,q1,q2⟩=>⟨by rw [<- rs.length];exact Nat.le_of_lt (eX q1),fun p hp =>
  k _ _ ⟨.ref p,_,iO,hm1.lnew hp rs,e1.trans (Ext.new hp _),q2 p (hm1.fresh hp)⟩⟩⟩
end
end Dd
namespace Dd
open PySem PySem.Spec PyProof.Rows L2
section
variable {X:Cx} {st:Stmt} {dF:List Stmt} {t u:DS} {e:Expr} {te:DE} {pos:Pos}
noncomputable def aGe:DS:=fun E ρ M=>E.nx ρ M
noncomputable def aLA (t u:DS):DS:=fun E ρ M=>t { E with nx:=u E } ρ M
theorem aIg:mQ X [] aGe:=aBK aIa fun E σ H ⟨ρ,M,D,re,hm,q,k⟩=>k.nx σ H ⟨ρ,M,re,hm,.refl H,q⟩
theorem aGR (h1:PDS X st t) (h2:mQ X dF u):mQ X (st :: dF) (aLA t u) :=
 aBK (aCx h1 h2) fun E σ H ⟨ρ,M,D,re,hm,q,k⟩=>⟨ρ,M,{ D with nx:=u D },re,hm,q,
  ⟨fun σ' H' ⟨ρ',M',re',hm',ex,q'⟩=>⟨ρ',M',D,re',hm',q',k.at ex⟩,k.rt,k.bk,k.ct⟩⟩
theorem aHS (h1:PDS X st t):mQ X [st] t:=aD3 h1
noncomputable def aFJ (te:DE):DS:=fun E ρ M=>te ρ M fun _ M1=>E.nx ρ M1
theorem aHC (he:PDE X e te) (hs:swapsWith e none pos.line X.env = pure false:=by rfl):PDS X (.Expr e pos) (aFJ te) :=
 iQ (aIW he hs) fun E σ H ⟨ρ,M,D,re,hm,q,k⟩=>⟨ρ,M,_,re,hm,q,fun v H1 ⟨d,M1,rd,hm1,ex,q1⟩=>k.nx σ H1 ⟨ρ,M1,re.ext ex,hm1,ex,q1⟩⟩
noncomputable def aKk (te:DE):DS:=fun E ρ M=>te ρ M E.rt
theorem aKp (he:PDE X e te):PDS X (.Return (some e) pos) (aKk te) :=
 iQ (aKb he) fun E σ H ⟨ρ,M,D,re,hm,q,k⟩=>⟨ρ,M,_,re,hm,q,k.rt⟩
noncomputable def aJK (c:DT) (t u:DS):DS:=fun E ρ M=>c ρ M fun b M1=>if b = true then t E ρ M1 else u E ρ M1
theorem aM9 {c:Expr} {a b:List Stmt} {tc:DT} (hc:PDT X c tc) (ha:mQ X a t) (hb:mQ X b u):PDS X (.If c a b pos) (aJK tc t u) :=
 iQ (aMw hc ha hb) fun E σ H ⟨ρ,M,D,re,hm,q,k⟩=>⟨ρ,M,_,re,hm,q,fun b H1 ⟨M1,hm1,ex,q1⟩=>by
  cases b with
  | true=>exact ⟨ρ,M1,D,re.ext ex,hm1,q1,k.at ex⟩
  | false=>exact ⟨ρ,M1,D,re.ext ex,hm1,q1,k.at ex⟩⟩
noncomputable def aCQ:DS:=fun _ _ _=>False
theorem aGS:PDS X st aCQ:=fun _ _ _ _ _ _ ⟨_,_,_,_,_,q,_⟩=>q.elim
end
section
variable {X:Cx} {pos:Pos} {e tg:Expr} {es:List Expr} {te:DE}
noncomputable def gN (i:Nat):DG:=fun d ρ M Q=>Q (ρ.set i (some d)) M
theorem aID {i:Nat} {x:Str} (hN:X.N.Nodup) (hi:X.N[i]? = some x:=by rfl) (hx:Loc X.env.scope x:=by first | exact Or.inl rfl | exact Or.inr rfl) (hf:X.fn x = true ∨ X.env.scope.names.lookup x = some .local:=by first | exact .inl rfl | exact .inr rfl | assumption):PDG X (.Name x pos) (gN i) :=
 aGs (aIZ (i:=i) hN hi hx hf) fun v σ H Q ⟨d,ρ,M,Q',rd,re,hm,q,k⟩=>k _ H ⟨_,M,re.set rd i,hm,.refl H,q⟩
noncomputable def gNl:DGs:=fun ds ρ M Q=>match ds with
 | []=>Q ρ M
 | _=>False
noncomputable def gCn (t:DG) (u:DGs):DGs:=fun ds ρ M Q=>match ds with
 | d :: r=>t d ρ M fun ρ' M'=>u r ρ' M' Q
 | []=>False
theorem aHz:aBL X [] gNl:=aDC aHP fun v σ H Q ⟨ds,ρ,M,Q',rd,re,hm,q,k⟩=>by
 cases ds with
 | nil=>exact ⟨bS rd,k σ H ⟨ρ,M,re,hm,.refl H,q⟩⟩
 | cons _ _=>exact q.elim
theorem aFK {t:DG} {u:DGs} (h1:PDG X e t) (h2:aBL X es u) (hs:(assignEach (e :: es) X.env).map (·.2) = assign e X.env :: (assignEach es X.env).map (·.2):=by rfl):aBL X (e :: es) (gCn t u) :=
 aDC (aGL h1 h2 hs) fun v σ H Q ⟨ds,ρ,M,Q',rd,re,hm,q,k⟩=>by
  cases ds with
  | nil=>exact q.elim
  | cons d r =>
   obtain ⟨x,xs,rfl,rx,rxs⟩:=aU rd
   exact ⟨x,xs,rfl,d,ρ,M,_,rx,re,hm,q,fun σ' H' ⟨ρ',M',re',hm',ex,q'⟩=>⟨r,ρ',M',Q',rxs.ext ex,re',hm',q',fun σ2 H2 z=>k σ2 H2 (z.back ex)⟩⟩
noncomputable def gT (n:Nat) (t:DGs):DG:=fun d ρ M Q=>match d with
 | .tup ds=>ds.length = n/\t ds ρ M Q
 | _=>False
theorem aLk {k:Nat} {t:DGs} {n:Nat} (hc:X.calm = true) (h:aBL X es t) (hn:(assignEach es X.env).length = n:=by rfl) (hst:(assignEach es X.env).findIdx? (·.1) = none:=by rfl):PDG X (.Tuple es k pos) (gT n t) :=
 aGs (aJC hc h hn hst) fun v σ H Q ⟨d,ρ,M,Q',rd,re,hm,q,k⟩=>by
  cases d with
  | tup ds =>
   obtain ⟨a,xs,rfl,sq,rs⟩:=cH rd
   exact ⟨a,xs,rfl,sq,by rw [<- rs.length];exact q.1,ds,ρ,M,Q',rs,re,hm,q.2,k⟩
  | _=>exact q.elim
noncomputable def aEj (te:DE) (g:DG):DS:=fun E ρ M=>te ρ M fun x M1=>g x ρ M1 E.nx
theorem aHI {g:DG} {σ:L2.St} {H:Hp} {E:yH} (h:aED X.K (aEj te g) E σ H):low X.K te σ H fun x H1=>aAX X.K g x σ H1 E.nx:=by
 obtain ⟨ρ,M,D,re,hm,q,k⟩:=h
 exact ⟨ρ,M,_,re,hm,q,fun v H1 ⟨d,M1,rd,hm1,ex,q1⟩=>⟨d,ρ,M1,_,rd,re.ext ex,hm1,q1,fun σ' H' z=>k.nx σ' H' (z.back ex)⟩⟩
theorem aL2 {g:DG} (he:PDE X e te) (hg:PDG X tg g) (hs:swapsWithSole [tg] e pos.line X.env = pure false:=by rfl) (hw:swappedStores [tg] e X.env = pure none:=by rfl)
  (h1:(assignEach [tg] X.env).map (·.2) = [assign tg X.env]:=by rfl):PDS X (.Assign [tg] e pos) (aEj te g) :=
 iQ (aLm he hg hs hw h1) fun E σ H h=>aHI h
theorem aL4 {i:Nat} {x:Str} {pos':Pos} (hN:X.N.Nodup) (he:PDE X e te) (hi:X.N[i]? = some x:=by rfl) (hx:Loc X.env.scope x:=by first | exact Or.inl rfl | exact Or.inr rfl) (hs:swapsWith e (some (.Name x pos')) pos.line X.env = pure false:=by rfl) (hf:X.fn x = true ∨ X.env.scope.names.lookup x = some .local:=by first | exact .inl rfl | exact .inr rfl | assumption) :
  PDS X (.Assign [.Name x pos'] e pos) (aEj te (gN i)) :=
 iQ (aKe (i:=i) hN hi hx he hs hf) fun E σ H ⟨ρ,M,D,re,hm,q,k⟩=>⟨ρ,M,_,re,hm,q,fun v H1 ⟨d,M1,rd,hm1,ex,q1⟩=>k.nx _ H1 ⟨_,M1,(re.ext ex).set rd i,hm1,ex,q1⟩⟩
noncomputable def aKP (i j:Nat) (ta:DA):DS:=fun E ρ M=>ta ρ M fun ds M1=>match ds with
 | [x,y]=>E.nx ((ρ.set i (some x)).set j (some y)) M1
 | _=>False
theorem aLx {i j:Nat} {x y:Str} {a b:Expr} {ta:DA} {px py pt:Pos} {kt k2 pt2} (hc:X.calm = true) (hN:X.N.Nodup) (ha:PDA X [a,b] ta) (hi:X.N[i]? = some x:=by rfl) (hj:X.N[j]? = some y:=by rfl) (hij:i ≠ j:=by decide)
  (hx:X.env.scope.names.lookup x = some .local:=by rfl) (hy:X.env.scope.names.lookup y = some .local:=by rfl)
  (hw:swappedStores [.Tuple [.Name x px,.Name y py] kt pt] (.Tuple [a,b] k2 pt2) X.env = pure (some [x,y]):=by rfl)
  (hs:swapsWithSole [.Tuple [.Name x px,.Name y py] kt pt] (.Tuple [a,b] k2 pt2) pos.line X.env = pure false:=by rfl) :
  PDS X (.Assign [.Tuple [.Name x px,.Name y py] kt pt] (.Tuple [a,b] k2 pt2) pos) (aKP i j ta) :=
 iQ (aJG (i:=i) (j:=j) hc hN hi hj hij hx hy ha hw hs) fun E σ H ⟨ρ,M,D,re,hm,q,k⟩=>⟨ρ,M,_,re,hm,q,fun vs H1 ⟨ds,M1,rs,hm1,ex,q1⟩=>by
  match ds,q1 with
  | [d1,d2],q1 =>
   obtain ⟨v1,r1,rfl,rv1,rr1⟩:=aU rs
   obtain ⟨v2,r2,rfl,rv2,rr2⟩:=aU rr1
   obtain rfl:=bS rr2
   exact ⟨v1,v2,rfl,k.nx _ H1 ⟨_,M1,((re.ext ex).set rv1 i).set rv2 j,hm1,ex,q1⟩⟩
  | [],q1=>exact q1.elim
  | [_],q1=>exact q1.elim
  | _ :: _ :: _ :: _,q1=>exact q1.elim⟩
end
section
variable {X:Cx} {pos:Pos}
noncomputable def aDp (c:DT) (tb:DS):DS:=fun E ρ M=>∃ W:Nat->cV->DM->Prop,(∃ m,W m ρ M)/\∀ m ρ M,W m ρ M ->
 c ρ M fun b M1=>if b = true then tb { E with nx:=fun ρ' M'=>∃ m',m' < m/\W m' ρ' M',ct:=fun ρ' M'=>∃ m',m' < m/\W m' ρ' M',bk:=E.nx } ρ M1 else E.nx ρ M1
theorem aGB {c:Expr} {body:List Stmt} {tc:DT} {tb:DS} (hp:PassesOwn (model X.prog X.w) X.A X.env X.xe) (hc:PDT X c tc) (hb:mQ X body tb):PDS X (.While c body [] pos) (aDp tc tb) :=
 iQ (aFv hp hc hb) fun E σ H ⟨ρ,M,D,re,hm,⟨W,⟨m0,w0⟩,turn⟩,k⟩=>by
  refine ⟨fun m σ' H'=>∃ ρ' M',iI X.K H' ρ' σ'/\cO X.K M' H'/\Ext H H'/\W m ρ' M',⟨m0,ρ,M,re,hm,.refl H,w0⟩,?_⟩
  rintro m σ1 H1 ⟨ρ1,M1,re1,hm1,e1,w1⟩
  refine ⟨ρ1,M1,_,re1,hm1,turn m ρ1 M1 w1,fun b H2 ⟨M2,hm2,e2,q2⟩=>?_⟩
  cases b with
  | false=>exact k.nx σ1 H2 ⟨ρ1,M2,re1.ext e2,hm2,e1.trans e2,q2⟩
  | true =>
   refine ⟨fun σ' H'=>∃ m',m' < m/\∃ ρ' M',iI X.K H' ρ' σ'/\cO X.K M' H'/\Ext H H'/\W m' ρ' M',fun σ' H' z=>z,?_⟩
   refine ⟨ρ1,M2,_,re1.ext e2,hm2,q2,?_⟩
   have ex:=e1.trans e2
   exact ⟨fun σ' H' ⟨ρ',M',a,b,c,m',l,d⟩=>⟨m',l,ρ',M',a,b,ex.trans c,d⟩,fun v H' z=>k.rt v H' (z.back ex),fun σ' H' z=>k.nx σ' H' (z.back ex),fun σ' H' ⟨ρ',M',a,b,c,m',l,d⟩=>⟨m',l,ρ',M',a,b,ex.trans c,d⟩⟩
theorem kE {c:DT} {tb:DS} {E:iV} {ρ:cV} {M:DM} (Pv:Nat->cV->DM->Prop) (m0:Nat) (h0:Pv m0 ρ M)
  (hs:∀ m ρ M,Pv m ρ M->c ρ M fun b M1=>if b = true then tb { E with nx:=fun ρ' M'=>∃ m',m' < m/\Pv m' ρ' M',ct:=fun ρ' M'=>∃ m',m' < m/\Pv m' ρ' M',bk:=E.nx } ρ M1 else E.nx ρ M1):aDp c tb E ρ M:=⟨Pv,⟨m0,h0⟩,hs⟩
noncomputable def dIt (at':Option Addr) (ds:List D) (g:DG) (tb:DS):DS:=fun E ρ M=>∃ Pv:Nat->cV->DM->Prop,Pv 0 ρ M /\
 (∀ i ρ M,i<=ds.length->Pv i ρ M->∀ a,at' = some a->M a = some ds) /\
 (∀ i d ρ M,ds[i]? = some d->Pv i ρ M->g d ρ M fun ρ2 M2=>tb { E with nx:=Pv (i + 1),ct:=Pv (i + 1),bk:=E.nx } ρ2 M2)/\∀ ρ M,Pv ds.length ρ M->E.nx ρ M
noncomputable def aCc (tl:DE) (g:DG) (tb:DS):DS:=fun E ρ M=>tl ρ M fun d M1=>match d with
 | .tup ds=>dIt none ds g tb E ρ M1
 | _=>False
noncomputable def aCa (tl:DE) (g:DG) (tb:DS):DS:=fun E ρ M=>tl ρ M fun d M1=>match d with
 | .fz ds=>dIt none ds g tb E ρ M1
 | .ref a=>∃ ds,M1 a = some ds/\dIt (some a) ds g tb E ρ M1
 | _=>False
variable {iter tg:Expr} {body:List Stmt} {tl:DE} {g:DG} {tb:DS}
theorem aFg {K:PySem.W.Frag} {a':Option Addr} {ds:List D} {E:yH} {Dn:iV} {σ:L2.St} {ρ:cV} {M:DM} {H0 H:Hp} {J:It} (ex0:Ext H0 H) (re:iI K H ρ σ) (hm:cO K M H) (k:rM K H0 Dn E) (h:dIt a' ds g tb Dn ρ M)
  (seq:∀ H',Ext H H'->(∀ M',cO K M' H'->(∀ a,a' = some a->M' a = some ds)->∃ xs,bY K H' ds xs/\(∀ i,xs.length<=i->J.stop i H')/\(∀ i,i < xs.length->J.go i H')/\∀ i x H2,J.yld i H' x H2->H2 = H'/\xs[i]? = some x)) :
  ∃ W:Nat->Nat->L2.St->Hp->Prop,(∃ m,W 0 m σ H)/\∀ i m σ H,W i m σ H ->
   (J.stop i H/\E.nx σ H) ∨ (J.go i H/\∃ N:L2.St->Hp->Prop,(∀ σ' H',N σ' H'->∃ m',m' < m/\W (i + 1) m' σ' H')/\∀ x H',J.yld i H x H'->aAX K g x σ H' fun σ2 H2=>aED K tb { E with nx:=N,ct:=N,bk:=E.nx } σ2 H2):=by
 obtain ⟨Pv,p0,hat,step,done⟩:=h
 refine ⟨fun i m σ' H'=>∃ ρ' M',iI K H' ρ' σ'/\cO K M' H'/\Ext H H'/\m = ds.length - i/\i<=ds.length/\Pv i ρ' M',⟨ds.length,ρ,M,re,hm,.refl H,rfl,Nat.zero_le _,p0⟩,?_⟩
 rintro i m σ1 H1 ⟨ρ1,M1,re1,hm1,e1,rfl,hi,w1⟩
 obtain ⟨xs,rs,hst,hgo,hy⟩:=seq H1 e1 M1 hm1 (hat i ρ1 M1 hi w1)
 have hl:=rs.length
 by_cases hlt:i < ds.length
 ·refine .inr ⟨hgo i (by omega),fun σ' H'=>∃ ρ' M',iI K H' ρ' σ'/\cO K M' H'/\Ext H H'/\Pv (i + 1) ρ' M',fun σ' H' ⟨ρ',M',a,b,c,d⟩=>⟨ds.length - (i + 1),by omega,ρ',M',a,b,c,rfl,hlt,d⟩,fun x H' y=>?_⟩
  obtain ⟨rfl,hx⟩:=hy i x H' y
  obtain ⟨d,hd,rd⟩:=rs.getV hx
  refine ⟨d,ρ1,M1,_,rd,re1,hm1,step i d ρ1 M1 hd w1,fun σ2 H2 ⟨ρ2,M2,re2,hm2,e2,q2⟩=>⟨ρ2,M2,_,re2,hm2,q2,?_⟩⟩
  have ex:=e1.trans e2
  exact ⟨fun σ' H' ⟨ρ',M',a,b,c,d⟩=>⟨ρ',M',a,b,ex.trans c,d⟩,fun v H' z=>k.rt v H' (z.back (ex0.trans ex)),fun σ' H' z=>k.nx σ' H' (z.back (ex0.trans ex)),fun σ' H' ⟨ρ',M',a,b,c,d⟩=>⟨ρ',M',a,b,ex.trans c,d⟩⟩
 ·have e:i = ds.length:=by omega
  subst e
  exact .inl ⟨hst _ (by omega),k.nx σ1 H1 ⟨ρ1,M1,re1,hm1,ex0.trans e1,done ρ1 M1 w1⟩⟩
noncomputable def aNA (lo:Int) (n:Nat) (g:DG) (tb:DS):DS:=fun E ρ M=>∃ Pv:Nat->cV->DM->Prop,Pv 0 ρ M /\
 (∀ i ρ M,i < n->Pv i ρ M->g (.int (lo + i)) ρ M fun ρ2 M2=>tb { E with nx:=Pv (i + 1),ct:=Pv (i + 1),bk:=E.nx } ρ2 M2)/\∀ ρ M,Pv n ρ M->E.nx ρ M
noncomputable def aE5 (ta:DA) (g:DG) (tb:DS):DS:=fun E ρ M=>ta ρ M fun ds M1=>match ds with
 | [.int j]=>(-(2 ^ 62)<=j/\j < 2 ^ 62)/\aNA 0 j.toNat g tb E ρ M1
 | _=>False
theorem aK0 {K:PySem.W.Frag} {lo:Int} {n:Nat} {E:yH} {Dn:iV} {σ:L2.St} {ρ:cV} {M:DM} {H0 H:Hp} (ex0:Ext H0 H) (re:iI K H ρ σ) (hm:cO K M H) (k:rM K H0 Dn E) (h:aNA lo n g tb Dn ρ M) :
  ∃ W:Nat->Nat->L2.St->Hp->Prop,(∃ m,W 0 m σ H)/\∀ i m σ H,W i m σ H ->
   ((Itr lo n).stop i H/\E.nx σ H) ∨ ((Itr lo n).go i H/\∃ N:L2.St->Hp->Prop,(∀ σ' H',N σ' H'->∃ m',m' < m/\W (i + 1) m' σ' H')/\∀ x H',(Itr lo n).yld i H x H'->aAX K g x σ H' fun σ2 H2=>aED K tb { E with nx:=N,ct:=N,bk:=E.nx } σ2 H2):=by
 obtain ⟨Pv,p0,step,done⟩:=h
 refine ⟨fun i m σ' H'=>∃ ρ' M',iI K H' ρ' σ'/\cO K M' H'/\Ext H H'/\m = n - i/\i<=n/\Pv i ρ' M',⟨n,ρ,M,re,hm,.refl H,rfl,Nat.zero_le _,p0⟩,?_⟩
 rintro i m σ1 H1 ⟨ρ1,M1,re1,hm1,e1,rfl,hi,w1⟩
 by_cases hlt:i < n
 ·refine .inr ⟨hlt,fun σ' H'=>∃ ρ' M',iI K H' ρ' σ'/\cO K M' H'/\Ext H H'/\Pv (i + 1) ρ' M',fun σ' H' ⟨ρ',M',a,b,c,d⟩=>⟨n - (i + 1),by omega,ρ',M',a,b,c,rfl,hlt,d⟩,fun x H' y=>?_⟩
  obtain ⟨rfl,rfl⟩:=y
  refine ⟨_,ρ1,M1,_,bT,re1,hm1,step i ρ1 M1 hlt w1,fun σ2 H2 ⟨ρ2,M2,re2,hm2,e2,q2⟩=>⟨ρ2,M2,_,re2,hm2,q2,?_⟩⟩
  have ex:=e1.trans e2
  exact ⟨fun σ' H' ⟨ρ',M',a,b,c,d⟩=>⟨ρ',M',a,b,ex.trans c,d⟩,fun v H' z=>k.rt v H' (z.back (ex0.trans ex)),fun σ' H' z=>k.nx σ' H' (z.back (ex0.trans ex)),fun σ' H' ⟨ρ',M',a,b,c,d⟩=>⟨ρ',M',a,b,ex.trans c,d⟩⟩
 ·have e:i = n:=by omega
  subst e
  exact .inl ⟨Nat.le_refl _,k.nx σ1 H1 ⟨ρ1,M1,re1,hm1,ex0.trans e1,done ρ1 M1 w1⟩⟩
end
end Dd
namespace Dd
open PySem PySem.Spec PyProof.Rows L2
section
variable {X:Cx} {pos:Pos} {iter tg:Expr} {body:List Stmt} {tl:DE} {g:DG} {tb:DS} {ta:DA}
theorem aD2 (hp:PassesOwn (model X.prog X.w) X.A X.env X.xe) (hc:X.calm = true) (hi:PDE X iter tl) (hg:PDG X tg g) (hb:mQ X body tb) (hs:∀ x,foldedSetIterable iter X.env x = pure x:=by intro _;rfl):PDS X (.For tg iter body [] pos) (aCc tl g tb) :=
 iQ (aBl hp hc (aE4 hi) hg hb hs) fun E σ H ⟨ρ,M,Dn,re,hm,q,k⟩=>⟨ρ,M,_,re,hm,q,fun v H1 ⟨d,M1,rd,hm1,ex,q1⟩=>by
  cases d with
  | tup ds =>
   obtain ⟨a,xs,rfl,sq,rs⟩:=cH rd
   refine ⟨a,rfl,⟨xs,sq⟩,aFg ex (re.ext ex) hm1 k q1 fun H' e' M' hm' _=>⟨xs,rs.ext e',fun i hi=>⟨xs,nJ e' sq,hi⟩,fun i hi=>⟨xs,xs[i],nJ e' sq,by simp [hi]⟩,fun i x H2 y=>⟨y.1,y.2 xs (nJ e' sq)⟩⟩⟩
  | _=>exact q1.elim⟩
theorem aD7 (hp:PassesOwn (model X.prog X.w) X.A X.env X.xe) (hc:X.calm = true) (hi:PDE X iter tl) (hg:PDG X tg g) (hb:mQ X body tb) (hs:∀ x,foldedSetIterable iter X.env x = pure x:=by intro _;rfl):PDS X (.For tg iter body [] pos) (aCa tl g tb) :=
 iQ (aBl hp hc (aAL hi) hg hb hs) fun E σ H ⟨ρ,M,Dn,re,hm,q,k⟩=>⟨ρ,M,_,re,hm,q,fun v H1 ⟨d,M1,rd,hm1,ex,q1⟩=>by
  cases d with
  | fz ds =>
   obtain ⟨a,xs,rfl,sq,rs⟩:=lS rd
   exact ⟨a,rfl,⟨xs,sq.sq⟩,aFg ex (re.ext ex) hm1 k q1 fun H' e' M' hm' _=>⟨xs,rs.ext e',fun i hi=>⟨xs,(jG e' sq).sq,hi⟩,fun i hi=>⟨xs,xs[i],(jG e' sq).sq,by simp [hi]⟩,fun i x H2 y=>⟨y.1,y.2 xs (jG e' sq).sq⟩⟩⟩
  | ref a =>
   obtain ⟨ds,ha,q1⟩:=q1
   obtain rfl:=bD rd
   obtain ⟨xs,hx,rs⟩:=hm1.l a ds ha
   refine ⟨a,rfl,⟨xs,.of hx⟩,aFg ex (re.ext ex) hm1 k q1 fun H' e' M' hm' hat=>?_⟩
   obtain ⟨ys,hy,rs'⟩:=hm'.l a ds (hat a rfl)
   exact ⟨ys,rs',fun i hi=>⟨ys,.of hy,hi⟩,fun i hi=>⟨ys,ys[i],.of hy,by simp [hi]⟩,fun i x H2 y=>⟨y.1,y.2 ys (.of hy)⟩⟩
  | _=>exact q1.elim⟩
theorem aIP {a:Expr} {p pos':Pos} (hp:PassesOwn (model X.prog X.w) X.A X.env X.xe) (hc:X.calm = true) (hmg:X.mg "range" = none) (ha:PDA X [a] ta) (hg:PDG X tg g) (hb:mQ X body tb) (hgl:Gl X "range":=by rfl) (hse:starEach [a] X.env = [(false,eval a X.env)]:=by rfl)
  (hs:∀ x,foldedSetIterable (.Call (.Name "range" p) [a] [] pos') X.env x = pure x:=by intro _;rfl):PDS X (.For tg (.Call (.Name "range" p) [a] [] pos') body [] pos) (aE5 ta g tb) :=
 iQ (aBl hp hc (aEk hgl hmg ha hse) hg hb hs) fun E σ H ⟨ρ,M,Dn,re,hm,q,k⟩=>⟨ρ,M,_,re,hm,q,fun vs H1 ⟨ds,M1,rs,hm1,ex,q1⟩=>by
  rcases ds with _ | ⟨d,_ | ⟨d2,r⟩⟩
  ·exact q1.elim
  ·cases d with
   | int j =>
    obtain ⟨⟨j1,j2⟩,q1⟩:=q1
    obtain ⟨v1,r1,rfl,rv1,rr1⟩:=aU rs
    obtain rfl:=bS rr1
    obtain rfl:=aS rv1
    exact ⟨j,rfl,j1,j2,aK0 ex (re.ext ex) hm1 k q1⟩
   | _=>exact q1.elim
  ·cases d<;>exact q1.elim⟩
end
mutual
noncomputable def eqD:D->D->Bool
 | .tup xs,.tup ys=>mV xs ys
 | .non,.non=>true
 | .bl a,.bl b=>a == b
 | .bl a,.int b=>(if a then 1 else 0) == b
 | .int a,.bl b=>a == (if b then 1 else 0)
 | .int a,.int b=>a == b
 | .str a,.str b=>a == b
 | _,_=>false
noncomputable def mV:List D->List D->Bool
 | [],[]=>true
 | x :: xs,y :: ys=>eqD x y && mV xs ys
 | _,_=>false
end
noncomputable def bM:Nat->D->Bool
 | _,.ref _=>false
 | _,.fz _=>false
 | 0,.tup _=>false
 | n + 1,.tup ds=>ds.all (bM n)
 | _,_=>true
noncomputable def vH:List D->List D->Nat->Bool
 | x :: _,y :: _,0=>eqD x y
 | _ :: xs,_ :: ys,j + 1=>vH xs ys j
 | _,_,_=>true
theorem yJ (n:Nat) (e:Nat->Bool):(List.range (n + 1)).all e = (e 0 && (List.range n).all fun j=>e (j + 1)):=by
 rw [List.range_succ_eq_map,List.all_cons,List.all_map]
 rfl
theorem kL:∀ (xs ys:List D),mV xs ys = ((List.range (min xs.length ys.length)).all (vH xs ys) && xs.length == ys.length)
 | [],[]=>by simp [mV]
 | [],_ :: _=>by simp [mV]
 | _ :: _,[]=>by simp [mV]
 | x :: xs,y :: ys=>by
  have ih:=kL xs ys
  have e1:min (x :: xs).length (y :: ys).length = min xs.length ys.length + 1:=by simp only [List.length_cons];omega
  have e2:((x :: xs).length == (y :: ys).length) = (xs.length == ys.length):=by simp
  rw [e1,e2,yJ]
  show (eqD x y && mV xs ys) = ((eqD x y && (List.range (min xs.length ys.length)).all fun j=>vH xs ys j) && xs.length == ys.length)
  rw [ih,Bool.and_assoc]
section
variable {X:Cx} {pins:List (Addr × Obj)} {σ:L2.St} {H:Hp} {s:Shared}
theorem aAp {n:Nat} {d:D} (p:bM n d = true) (h:∀ xs,d ≠ .tup xs):bM 0 d = true:=by
 cases d with
 | tup xs=>exact absurd rfl (h xs)
 | ref b=>cases n<;>exact absurd p Bool.false_ne_true
 | fz b=>cases n<;>exact absurd p Bool.false_ne_true
 | _=>rfl
theorem aBS {d d':D} {v:V} (p:bM 0 d = true) (p':bM 0 d' = true) (r:Rep X.K H d v) (r':Rep X.K H d' v):eqD d d' = true:=by
 cases d<;>cases d'<;>first
  | (exact absurd p Bool.false_ne_true)
  | (exact absurd p' Bool.false_ne_true)
  | (unfold Rep at r r';subst r;cases r'<;>simp [eqD])
theorem aB1 {d:D} {a:Addr} (p:bM 0 d = true) (r:Rep X.K H d (.ref a)):False:=by
 cases d<;>first
  | (exact absurd p Bool.false_ne_true)
  | (unfold Rep at r;cases r)
theorem aB4 {n:Nat} (ih:∀ {d d':D} {v:V},bM n d = true->bM n d' = true->Rep X.K H d v->Rep X.K H d' v->eqD d d' = true) :
  ∀ {xs ys:List D} {us:List V},xs.all (bM n) = true->ys.all (bM n) = true->bY X.K H xs us->bY X.K H ys us->mV xs ys = true
 | [],[],_,_,_,_,_=>by simp [mV]
 | [],_ :: _,_,_,_,r,r'=>by
  rw [bS r] at r'
  obtain ⟨_,_,z,_⟩:=aU r'
  cases z
 | _ :: _,[],_,_,_,r,r'=>by
  rw [bS r'] at r
  obtain ⟨_,_,z,_⟩:=aU r
  cases z
 | x :: xs,y :: ys,_,p1,p2,r,r'=>by
  obtain ⟨v0,r0,rfl,h1,h2⟩:=aU r
  obtain ⟨v0',r0',e0,h1',h2'⟩:=aU r'
  cases e0
  rw [List.all_cons,Bool.and_eq_true] at p1 p2
  show (eqD x y && mV xs ys) = true
  rw [ih p1.1 p2.1 h1 h1',aB4 ih p1.2 p2.2 h2 h2']
  rfl
theorem aHN (I:Inv X pins σ H s):∀ (n:Nat) {d d':D} {v:V},bM n d = true->bM n d' = true->Rep X.K H d v->Rep X.K H d' v->eqD d d' = true:=by
 intro n
 induction n with
 | zero=>intro d d' v p p' r r';exact aBS p p' r r'
 | succ n ih =>
  intro d d' v p p' r r'
  by_cases h1:∃ xs,d = .tup xs
  ·obtain ⟨xs,rfl⟩:=h1
   obtain ⟨a,us,rfl,sq,rs⟩:=cH r
   by_cases h2:∃ ys,d' = .tup ys
   ·obtain ⟨ys,rfl⟩:=h2
    obtain ⟨a',us',e1',sq',rs'⟩:=cH r'
    cases e1'
    obtain rfl:=I.tuple_inj sq sq'
    exact aB4 ih p p' rs rs'
   ·exact (aB1 (aAp p' fun xs e=>h2 ⟨xs,e⟩) r').elim
  ·have p0:=aAp p fun xs e=>h1 ⟨xs,e⟩
   by_cases h2:∃ ys,d' = .tup ys
   ·obtain ⟨ys,rfl⟩:=h2
    obtain ⟨a',us',rfl,sq',rs'⟩:=cH r'
    exact (aB1 p0 r).elim
   ·exact aBS p0 (aAp p' fun xs e=>h2 ⟨xs,e⟩) r r'
theorem kG (I:Inv X pins σ H s) {a:Addr} {xs:List V} (sq:SqT X.K H a xs):∃ its:List Value,cA xs its/\s.heap.IsTuple a its.toArray:=let ⟨its,r,p,_⟩:=I.tuple sq;⟨its,r,p⟩
theorem wI {d:D} {v:V} {n:Nat} (h:Rep X.K H d v) (p:bM 0 d = true):aFY v = true:=by
 cases d with
 | non=>unfold Rep at h;subst h;rfl
 | bl b=>unfold Rep at h;subst h;rfl
 | int b=>unfold Rep at h;subst h;rfl
 | str b=>unfold Rep at h;subst h;rfl
 | tup b=>exact absurd p Bool.false_ne_true
 | ref b=>exact absurd p Bool.false_ne_true
 | fz b=>exact absurd p Bool.false_ne_true
theorem sI {A:Around} {n:Nat} (ih:∀ {d d':D} {v v':V} {u u':Value},bM n d = true->bM n d' = true->Rep X.K H d v->Rep X.K H d' v'->cR v u->cR v' u'->SeqAt.EqAt A s u u' (eqD d d')) :
  ∀ {xs ys:List D} {us us':List V} {its its':List Value},xs.all (bM n) = true->ys.all (bM n) = true->bY X.K H xs us->bY X.K H ys us'->cA us its->cA us' its'->∀ j (h1:j < its.length) (h2:j < its'.length),SeqAt.EqAt A s its[j] its'[j] (vH xs ys j)
 | [],ys,us,us',its,its',_,_,r1,_,v1,_,j,h1,_=>by rw [bS r1] at v1;cases v1;exact absurd h1 (Nat.not_lt_zero _)
 | _ :: _,[],us,us',its,its',_,_,_,r2,_,v2,j,_,h2=>by rw [bS r2] at v2;cases v2;exact absurd h2 (Nat.not_lt_zero _)
 | x :: xs,y :: ys,us,us',its,its',p1,p2,r1,r2,v1,v2,j,h1,h2=>by
  obtain ⟨a,ra,rfl,ha,hra⟩:=aU r1
  obtain ⟨b,rb,rfl,hb,hrb⟩:=aU r2
  rw [List.all_cons,Bool.and_eq_true] at p1 p2
  cases v1 with
  | cons q1 w1 =>
   cases v2 with
   | cons q2 w2 =>
    cases j with
    | zero=>exact ih p1.1 p2.1 ha hb q1 q2
    | succ j=>exact sI ih p1.2 p2.2 hra hrb w1 w2 j (Nat.lt_of_succ_lt_succ h1) (Nat.lt_of_succ_lt_succ h2)
theorem aE9 {d d':D} {v v':V} (p:bM 0 d = true) (p':bM 0 d' = true) (r:Rep X.K H d v) (r':Rep X.K H d' v'):eqV v v' = eqD d d':=by
 cases d<;>cases d'<;>first
  | (exact absurd p Bool.false_ne_true)
  | (exact absurd p' Bool.false_ne_true)
  | (unfold Rep at r r';subst r;subst r';simp [eqD,eqV])
theorem aGu (I:Inv X pins σ H s):∀ (n:Nat) {A:Around} {d d':D} {v v':V} {u u':Value},A.units + n < cLine->bM n d = true->bM n d' = true->Rep X.K H d v->Rep X.K H d' v'->cR v u->cR v' u'->SeqAt.EqAt A s u u' (eqD d d'):=by
 intro n
 induction n with
 | zero =>
  intro A d d' v v' u u' hu p p' r r' q q'
  have:=aGN (A:=A) (s:=s) q q' (wI (n:=0) r p) (wI (n:=0) r' p')
  rw [aE9 p p' r r'] at this
  exact this
 | succ n ih =>
  intro A d d' v v' u u' hu p p' r r' q q'
  by_cases h1:∃ xs,d = .tup xs
  ·obtain ⟨xs,rfl⟩:=h1
   obtain ⟨a,us,rfl,sq,rs⟩:=cH r
   obtain ⟨its,rv,ht⟩:=kG I sq
   cases q
   by_cases h2:∃ ys,d' = .tup ys
   ·obtain ⟨ys,rfl⟩:=h2
    obtain ⟨a',us',rfl,sq',rs'⟩:=cH r'
    obtain ⟨its',rv',ht'⟩:=kG I sq'
    cases q'
    by_cases hll:a = a'
    ·subst hll
     rw [aHN I (n + 1) p p' r r']
     exact SeqAt.EqAt.same _
    ·have e1:=rs.length
     have e2:=rv.length
     have e3:=rs'.length
     have e4:=rv'.length
     show SeqAt.EqAt A s (.ref a) (.ref a') (mV xs ys)
     rw [kL,show xs.length = its.toArray.size by rw [List.size_toArray];omega,show ys.length = its'.toArray.size by rw [List.size_toArray];omega]
     refine SeqAt.EqAt.of_refs hll (SeqAt.RcAt.tuples ht ht' (by omega) fun j j1 j2=>?_)
     have hu':A.in1.units + n < cLine:=by show A.units + 1 + n < cLine;omega
     have:=sI (A:=A.in1) (s:=s) (fun {d d' v v' u u'} p p' r r' q q'=>ih hu' p p' r r' q q') p p' rs rs' rv rv' j (by simpa using j1) (by simpa using j2)
     simpa using this
   ·have p0:=aAp p' (fun xs e=>h2 ⟨xs,e⟩)
    cases d' with
    | non=>rw [cY r'] at q';cases q';exact SeqAt.EqAt.tuple_none ht (by omega)
    | bl b=>rw [cB r'] at q';cases q';exact SeqAt.EqAt.tuple_bool b ht (by omega)
    | int b=>rw [aS r'] at q';obtain ⟨t,rfl⟩:=q';exact SeqAt.EqAt.tuple_int b t ht (by omega)
    | str b=>rw [bA r'] at q';obtain ⟨t,rfl⟩:=q';exact SeqAt.EqAt.tuple_str b t ht (by omega)
    | tup b=>exact absurd p0 Bool.false_ne_true
    | ref b=>exact absurd p0 Bool.false_ne_true
    | fz b=>exact absurd p0 Bool.false_ne_true
  ·have p0:=aAp p (fun xs e=>h1 ⟨xs,e⟩)
   by_cases h2:∃ ys,d' = .tup ys
   ·obtain ⟨ys,rfl⟩:=h2
    obtain ⟨a',us',rfl,sq',rs'⟩:=cH r'
    obtain ⟨its',rv',ht'⟩:=kG I sq'
    cases q'
    cases d with
    | non=>rw [cY r] at q;cases q;exact SeqAt.EqAt.none_tuple ht' (by omega)
    | bl b=>rw [cB r] at q;cases q;exact SeqAt.EqAt.bool_tuple b ht' (by omega)
    | int b=>rw [aS r] at q;obtain ⟨t,rfl⟩:=q;exact SeqAt.EqAt.int_tuple b t ht' (by omega)
    | str b=>rw [bA r] at q;obtain ⟨t,rfl⟩:=q;exact SeqAt.EqAt.str_tuple b t ht' (by omega)
    | tup b=>exact absurd p0 Bool.false_ne_true
    | ref b=>exact absurd p0 Bool.false_ne_true
    | fz b=>exact absurd p0 Bool.false_ne_true
   ·have p0':=aAp p' (fun xs e=>h2 ⟨xs,e⟩)
    have:=aGN (A:=A) (s:=s) q q' (wI (n:=0) r p0) (wI (n:=0) r' p0')
    rw [aE9 p0 p0' r r'] at this
    exact this
theorem aN3 (I:Inv X pins σ H s) {A:Around} (hu:A.units + 60 < cLine) {d d':D} {v v':V} {u u':Value} (p:bM 60 d = true) (p':bM 60 d' = true) (r:Rep X.K H d v) (r':Rep X.K H d' v') (q:cR v u) (q':cR v' u') :
  SeqAt.RcAt A s u u' (eqD d d')/\SeqAt.RcNeAt A s u u' (!eqD d d'):=by
 have hu0:A.units < cLine:=by omega
 cases d with
 | ref b=>exact absurd p Bool.false_ne_true
 | fz b=>exact absurd p Bool.false_ne_true
 | tup xs =>
  obtain ⟨a,us,rfl,sq,rs⟩:=cH r
  obtain ⟨its,rv,ht⟩:=kG I sq
  cases q
  cases d' with
  | ref b=>exact absurd p' Bool.false_ne_true
  | fz b=>exact absurd p' Bool.false_ne_true
  | non=>rw [cY r'] at q';cases q';exact ⟨SeqAt.RcAt.tuple_none ht hu0,SeqAt.RcNeAt.tuple_none ht hu0⟩
  | bl b=>rw [cB r'] at q';cases q';exact ⟨SeqAt.RcAt.tuple_bool b ht hu0,SeqAt.RcNeAt.tuple_bool b ht hu0⟩
  | int b=>rw [aS r'] at q';obtain ⟨t,rfl⟩:=q';exact ⟨SeqAt.RcAt.tuple_int b t ht hu0,SeqAt.RcNeAt.tuple_int b t ht hu0⟩
  | str b=>rw [bA r'] at q';obtain ⟨t,rfl⟩:=q';exact ⟨SeqAt.RcAt.tuple_str b t ht hu0,SeqAt.RcNeAt.tuple_str b t ht hu0⟩
  | tup ys =>
   obtain ⟨a',us',rfl,sq',rs'⟩:=cH r'
   obtain ⟨its',rv',ht'⟩:=kG I sq'
   cases q'
   have e1:=rs.length
   have e2:=rv.length
   have e3:=rs'.length
   have e4:=rv'.length
   have hit:∀ j (h1:j < its.toArray.size) (h2:j < its'.toArray.size),SeqAt.EqAt A.in1 s its.toArray[j] its'.toArray[j] (vH xs ys j):=fun j j1 j2=>by
    have hu':A.in1.units + 59 < cLine:=by show A.units + 1 + 59 < cLine;omega
    have:=sI (A:=A.in1) (s:=s) (fun {d d' v v' u u'} p p' r r' q q'=>aGu I 59 hu' p p' r r' q q') p p' rs rs' rv rv' j (by simpa using j1) (by simpa using j2)
    simpa using this
   have hz:eqD (.tup xs) (.tup ys) = ((List.range (min its.toArray.size its'.toArray.size)).all (vH xs ys) && its.toArray.size == its'.toArray.size):=by
    show mV xs ys = _
    rw [kL,show xs.length = its.toArray.size by rw [List.size_toArray];omega,show ys.length = its'.toArray.size by rw [List.size_toArray];omega]
   rw [hz]
   exact ⟨SeqAt.RcAt.tuples ht ht' hu0 hit,SeqAt.RcNeAt.tuples ht ht' hu0 hit⟩
 | non =>
  rw [cY r] at q;cases q
  cases d' with
  | ref b=>exact absurd p' Bool.false_ne_true
  | fz b=>exact absurd p' Bool.false_ne_true
  | non=>rw [cY r'] at q';cases q';exact ⟨SeqAt.RcAt.none_none,SeqAt.RcNeAt.none_none⟩
  | bl b=>rw [cB r'] at q';cases q';exact ⟨SeqAt.RcAt.none_bool b,SeqAt.RcNeAt.none_bool b⟩
  | int b=>rw [aS r'] at q';obtain ⟨t,rfl⟩:=q';exact ⟨SeqAt.RcAt.none_int b t,SeqAt.RcNeAt.none_int b t⟩
  | str b=>rw [bA r'] at q';obtain ⟨t,rfl⟩:=q';exact ⟨SeqAt.RcAt.none_str b t,SeqAt.RcNeAt.none_str b t⟩
  | tup ys =>
   obtain ⟨a',us',rfl,sq',rs'⟩:=cH r'
   obtain ⟨its',rv',ht'⟩:=kG I sq'
   cases q'
   exact ⟨SeqAt.RcAt.none_tuple ht' hu0,SeqAt.RcNeAt.none_tuple ht' hu0⟩
 | bl z =>
  rw [cB r] at q;cases q
  cases d' with
  | ref b=>exact absurd p' Bool.false_ne_true
  | fz b=>exact absurd p' Bool.false_ne_true
  | non=>rw [cY r'] at q';cases q';exact ⟨SeqAt.RcAt.bool_none z,SeqAt.RcNeAt.bool_none z⟩
  | bl b=>rw [cB r'] at q';cases q';exact ⟨SeqAt.RcAt.bool_bool z b,SeqAt.RcNeAt.bool_bool z b⟩
  | int b=>rw [aS r'] at q';obtain ⟨t,rfl⟩:=q';exact ⟨SeqAt.RcAt.bool_int z b t,SeqAt.RcNeAt.bool_int z b t⟩
  | str b=>rw [bA r'] at q';obtain ⟨t,rfl⟩:=q';exact ⟨SeqAt.RcAt.bool_str z b t,SeqAt.RcNeAt.bool_str z b t⟩
  | tup ys =>
   obtain ⟨a',us',rfl,sq',rs'⟩:=cH r'
   obtain ⟨its',rv',ht'⟩:=kG I sq'
   cases q'
   exact ⟨SeqAt.RcAt.bool_tuple z ht' hu0,SeqAt.RcNeAt.bool_tuple z ht' hu0⟩
 | int z =>
  rw [aS r] at q;obtain ⟨tz,rfl⟩:=q
  cases d' with
  | ref b=>exact absurd p' Bool.false_ne_true
  | fz b=>exact absurd p' Bool.false_ne_true
  | non=>rw [cY r'] at q';cases q';exact ⟨SeqAt.RcAt.int_none z tz,SeqAt.RcNeAt.int_none z tz⟩
  | bl b=>rw [cB r'] at q';cases q';exact ⟨SeqAt.RcAt.int_bool z tz b,SeqAt.RcNeAt.int_bool z tz b⟩
  | int b=>rw [aS r'] at q';obtain ⟨t,rfl⟩:=q';exact ⟨SeqAt.RcAt.int_int z tz b t,SeqAt.RcNeAt.int_int z tz b t⟩
  | str b=>rw [bA r'] at q';obtain ⟨t,rfl⟩:=q';exact ⟨SeqAt.RcAt.int_str z tz b t,SeqAt.RcNeAt.int_str z tz b t⟩
  | tup ys =>
   obtain ⟨a',us',rfl,sq',rs'⟩:=cH r'
   obtain ⟨its',rv',ht'⟩:=kG I sq'
   cases q'
   exact ⟨SeqAt.RcAt.int_tuple z tz ht' hu0,SeqAt.RcNeAt.int_tuple z tz ht' hu0⟩
 | str z =>
  rw [bA r] at q;obtain ⟨tz,rfl⟩:=q
  cases d' with
  | ref b=>exact absurd p' Bool.false_ne_true
  | fz b=>exact absurd p' Bool.false_ne_true
  | non=>rw [cY r'] at q';cases q';exact ⟨SeqAt.RcAt.str_none z tz,SeqAt.RcNeAt.str_none z tz⟩
  | bl b=>rw [cB r'] at q';cases q';exact ⟨SeqAt.RcAt.str_bool z tz b,SeqAt.RcNeAt.str_bool z tz b⟩
  | int b=>rw [aS r'] at q';obtain ⟨t,rfl⟩:=q';exact ⟨SeqAt.RcAt.str_int z tz b t,SeqAt.RcNeAt.str_int z tz b t⟩
  | str b=>rw [bA r'] at q';obtain ⟨t,rfl⟩:=q';exact ⟨SeqAt.RcAt.str_str z tz b t,SeqAt.RcNeAt.str_str z tz b t⟩
  | tup ys =>
   obtain ⟨a',us',rfl,sq',rs'⟩:=cH r'
   obtain ⟨its',rv',ht'⟩:=kG I sq'
   cases q'
   exact ⟨SeqAt.RcAt.str_tuple z tz ht' hu0,SeqAt.RcNeAt.str_tuple z tz ht' hu0⟩
end
end Dd
namespace Dd
open PySem PySem.Spec PyProof.Rows L2
section
variable {X:Cx} {a b e o:Expr} {es:List Expr} {ta tb te to:DE} {t:DA} {pos:Pos}
noncomputable def d2I (C:Int->Int->Prop) (g:Int->Int->D):D2:=fun x y M Q=>match x,y with
 | .int i,.int j=>C i j/\Q (g i j) M
 | _,_=>False
noncomputable def d2J (g:Int->Int->D):D2:=fun x y M Q=>match x,y with
 | .int i,.int j=>Q (g i j) M
 | _,_=>False
theorem aHG {f:Value->Value->Sem Value} {C:Int->Int->Prop} {g:Int->Int->D} {g':Int->Int->V} (h:OpR X f (rI C g')) (hg:∀ H i j,Rep X.K H (g i j) (g' i j)):OpD X f (d2I C g) :=
 OpD.of h fun x y H M dx dy Q rx ry hm q=>by
  cases dx with
  | int i =>
   cases dy with
   | int j=>exact ⟨i,j,aS rx,aS ry,q.1,_,M,hg H i j,hm,.refl H,q.2⟩
   | _=>exact q.elim
  | _=>exact q.elim
theorem aF8 {f:Value->Value->Sem Value} {g:Int->Int->D} {g':Int->Int->V} (h:OpR X f (rI0 g')) (hg:∀ H i j,Rep X.K H (g i j) (g' i j)):OpD X f (d2J g) :=
 OpD.of h fun x y H M dx dy Q rx ry hm q=>by
  cases dx with
  | int i =>
   cases dy with
   | int j=>exact ⟨i,j,aS rx,aS ry,_,M,hg H i j,hm,.refl H,q⟩
   | _=>exact q.elim
  | _=>exact q.elim
theorem pJ:OpD X (binaryOp .Sub) (d2J fun i j=>.int (i - j)):=aF8 aKl fun _ _ _=>bT
theorem aIe:OpR X (binaryOp .Mult) (rI IntMulOk fun i j=>.int (i * j)):=opI fun _ _ _ _ _ _ _ hc q=>mul_int q hc
theorem bL:OpD X (binaryOp .Mult) (d2I IntMulOk fun i j=>.int (i * j)):=aHG aIe fun _ _ _=>bT
noncomputable def CFd (i j:Int):Prop:=j ≠ 0/\j.natAbs.log2 < 9000
theorem aLZ:OpR X (binaryOp .FloorDiv) (rI CFd fun i j=>.int (i.fdiv j)):=opI fun _ _ _ _ _ _ _ hc q=>floordiv_int hc.1 q (.inl (PyProof.noPylong_of_log2 hc.2))
theorem dH:OpD X (binaryOp .FloorDiv) (d2I CFd fun i j=>.int (i.fdiv j)):=aHG aLZ fun _ _ _=>bT
theorem dU:OpD X (binaryOp .Mod) (d2I (fun _ j=>j ≠ 0) fun i j=>.int (i.fmod j)):=aHG aHk fun _ _ _=>bT
theorem yE:OpD X (binaryOp .Pow) (d2I aMN fun i j=>.int (i ^ j.toNat)):=aHG aLB fun _ _ _=>bT
theorem yG:OpD X (compareOp .Lt) (d2J fun i j=>.bl (decide (i < j))):=aF8 aMS fun _ _ _=>dL
theorem xC:OpD X (compareOp .LtE) (d2J fun i j=>.bl (decide (i<=j))):=aF8 aMK fun _ _ _=>dL
theorem iD:OpD X (compareOp .Gt) (d2J fun i j=>.bl (decide (j < i))):=aF8 aM5 fun _ _ _=>dL
theorem aNg:OpD X (compareOp .GtE) (d2J fun i j=>.bl (decide (j<=i))):=aF8 aM0 fun _ _ _=>dL
noncomputable def aNV:D2:=fun x y M Q=>match x,y with
 | .int i,.int j=>Q (.int (i + j)) M
 | .ref a,.ref b=>∃ xs ys,M a = some xs/\M b = some ys/\xs.length + ys.length<=1000/\∀ p:Addr,M p = none->Q (.ref p) (bC M p (xs ++ ys))
 | .fz xs,.ref b=>∃ ys,M b = some ys/\xs.length + ys.length<=1000/\∀ p:Addr,M p = none->Q (.ref p) (bC M p (xs ++ ys))
 | .tup xs,.tup ys=>xs ≠ []/\ys ≠ []/\xs.length + ys.length<=1000/\Q (.tup (xs ++ ys)) M
 | _,_=>False
theorem aC7 {pins:List (Addr × Obj)} {σ:L2.St} {H:Hp} {s:Shared} (I:Inv X pins σ H s) {a:Addr} {xs:List V} (h:SqX X.K H a xs):xs.length<=sizeLine/\∃ (its:List Value) (n:Nat),cA xs its/\s.heap.get? a = some { cls:=.type "list",data:=.seq its.toArray n }:=by
 rcases h with ⟨o,h⟩ | ⟨its,n,hk,hz,r⟩
 ·obtain ⟨_,z,its,n,r,e⟩:=I.hok a _ h
  exact ⟨z,its,n,r,e⟩
 ·have e:=r.length
  simp only [Array.length_toList] at e
  exact ⟨by omega,its.toList,n,r,by simpa using I.kIn a _ hk⟩
theorem cU:OpD X (binaryOp .Add) aNV:=by
 intro pins s σ H x y v u Q I rx ry ⟨dx,dy,M,Q',r1,r2,hm,q,k⟩
 cases dx with
 | int i =>
  cases dy with
  | int j=>exact aKE pins s σ H x y v u Q I rx ry ⟨i,j,aS r1,aS r2,k _ H ⟨_,M,bT,hm,.refl H,q⟩⟩
  | _=>exact q.elim
 | ref a =>
  cases dy with
  | ref b =>
   obtain ⟨xs,ys,ha,hb,hl,q⟩:=q
   obtain ⟨us,hu,ru⟩:=hm.l a xs ha
   obtain ⟨ws,hw,rw'⟩:=hm.l b ys hb
   refine aKs pins s σ H x y v u Q I rx ry ⟨a,b,us,ws,bD r1,bD r2,hu,hw,?_,fun p hp=>k _ _ ⟨.ref p,_,iO,hm.lnew hp (ru.append rw'),Ext.new hp _,q p (hm.fresh hp)⟩⟩
   rw [<- ru.length,<- rw'.length];exact Nat.le_of_lt (eX hl)
  | _=>exact q.elim
 | fz xs =>
  cases dy with
  | ref b =>
   obtain ⟨ys,hb,hl,q⟩:=q
   obtain ⟨a,us,rfl,sq,ru⟩:=lS r1
   obtain ⟨ws,hw,rw'⟩:=hm.l b ys hb
   obtain rfl:=bD r2
   cases rx
   cases ry
   obtain ⟨z,its,n,r,e⟩:=aC7 I sq
   obtain ⟨z2,its2,n2,r3,hl2,e2⟩:=I.lstM hw
   have l1:=r.length
   have l2:=r3.length
   have l3:=ru.length
   have l4:=rw'.length
   have hz:=eX hl
   refine PySem.P.add_list e e2 ?_ (by rw [List.size_toArray,List.size_toArray];omega)
   have ea:its.toArray ++ its2.toArray = (its ++ its2).toArray:=by simp
   rw [ea]
   refine ⟨.ref _,_,I.lnew (t':=s.toks) (r.append r3) (by rw [List.length_append];omega),rfl,k _ _ ⟨.ref _,_,iO,hm.lnew I.fresh (ru.append rw'),Ext.new I.fresh _,q _ (hm.fresh I.fresh)⟩⟩
  | _=>exact q.elim
 | tup xs =>
  cases dy with
  | tup ys =>
   obtain ⟨h1,h2,hl,q⟩:=q
   obtain ⟨a,us,rfl,sq,ru⟩:=cH r1
   obtain ⟨b,ws,rfl,sq2,rw'⟩:=cH r2
   have l3:=ru.length
   have l4:=rw'.length
   refine aDP pins s σ H _ _ v u Q I rx ry ?_
   have n1:us ≠ []:=fun z=>by rw [z] at l3;exact h1 (List.length_eq_zero_iff.mp l3)
   have n2:ws ≠ []:=fun z=>by rw [z] at l4;exact h2 (List.length_eq_zero_iff.mp l4)
   exact ⟨a,b,us,ws,rfl,rfl,sq,sq2,n1,by rw [<- l3,<- l4];exact Nat.le_of_lt (eX hl),fun z=>absurd z n2,fun _ p hp=>k _ _ ⟨.tup _,M,cG (.of dE) ((ru.append rw').ext (Ext.new hp _)),hm.new hp _,Ext.new hp _,q⟩⟩
  | _=>exact q.elim
 | _=>exact q.elim
noncomputable def dEq (g:Bool->Bool):D2:=fun x y M Q=>match x,y with
 | .ref a,.ref b=>∃ xs ys,M a = some xs/\M b = some ys/\(a ≠ b)/\xs.all (bM 59) = true/\ys.all (bM 59) = true/\Q (.bl (g (mV xs ys))) M
 | x,y=>bM 60 x = true/\bM 60 y = true/\Q (.bl (g (eqD x y))) M
theorem aFk {pins:List (Addr × Obj)} {σ:L2.St} {H:Hp} {s:Shared} (I:Inv X pins σ H s) {A:Around} (hu:A.units + 60 < cLine) {a b:Addr} {us ws:List V} {xs ys:List D} (ha:H a = some (.lst us)) (hb:H b = some (.lst ws)) (ru:bY X.K H xs us) (rw':bY X.K H ys ws)
  (p:xs.all (bM 59) = true) (p':ys.all (bM 59) = true):SeqAt.RcAt A s (.ref a) (.ref b) (mV xs ys)/\SeqAt.RcNeAt A s (.ref a) (.ref b) (!mV xs ys):=by
 obtain ⟨z,its,n,r,hl,e⟩:=I.lstM ha
 obtain ⟨z2,its2,n2,r3,hl2,e2⟩:=I.lstM hb
 have i1:s.heap.IsList a its.toArray:=⟨_,e,rfl,_,rfl⟩
 have i2:s.heap.IsList b its2.toArray:=⟨_,e2,rfl,_,rfl⟩
 have l3:=ru.length
 have l4:=rw'.length
 have hu0:A.units < cLine:=by omega
 by_cases hz:its.toArray.size = its2.toArray.size
 ·have hz':=hz
  rw [List.size_toArray,List.size_toArray] at hz'
  have hit:∀ j (h1:j < its.toArray.size) (h2:j < its2.toArray.size),SeqAt.EqAt A.in1 s its.toArray[j] its2.toArray[j] (vH xs ys j):=fun j j1 j2=>by
   have hu':A.in1.units + 59 < cLine:=by show A.units + 1 + 59 < cLine;omega
   have:=sI (A:=A.in1) (s:=s) (fun {d d' v v' u u'} p p' r r' q q'=>aGu I 59 hu' p p' r r' q q') p p' ru rw' r r3 j (by simpa using j1) (by simpa using j2)
   simpa using this
  have hz2:mV xs ys = (List.range its.toArray.size).all (vH xs ys):=by
   rw [kL,show min xs.length ys.length = its.toArray.size by rw [List.size_toArray];omega,show (xs.length == ys.length) = true by simp;omega,Bool.and_true]
  rw [hz2]
  exact ⟨SeqAt.RcAt.lists i1 i2 hz hu0 hit,SeqAt.RcNeAt.lists i1 i2 hz hu0 hit⟩
 ·have hz':=hz
  rw [List.size_toArray,List.size_toArray] at hz'
  have hz2:mV xs ys = false:=by
   rw [kL,show (xs.length == ys.length) = false by simp;omega,Bool.and_false]
  rw [hz2]
  exact ⟨SeqAt.RcAt.lists_lengths i1 i2 (by simpa using hz) hu0,SeqAt.RcNeAt.lists_lengths i1 i2 (by simpa using hz) hu0⟩
theorem aFE (hu:X.A.units + 60 < cLine):OpD X (compareOp .Eq) (dEq id)/\OpD X (compareOp .NotEq) (dEq not):=by
 have key:∀ {pins:List (Addr × Obj)} {s:Shared} {σ:L2.St} {H:Hp} {x y:V} {v u:Value} {dx dy:D} {M:DM} {Q':DQ} {g:Bool->Bool},Inv X pins σ H s->cR x v->cR y u->Rep X.K H dx x->Rep X.K H dy y->cO X.K M H->dEq g dx dy M Q' ->
   ∃ b,SeqAt.RcAt X.A s v u b/\SeqAt.RcNeAt X.A s v u (!b)/\Q' (.bl (g b)) M:=by
  intro pins s σ H x y v u dx dy M Q' g I rx ry r1 r2 hm q
  have gen:bM 60 dx = true->bM 60 dy = true->Q' (.bl (g (eqD dx dy))) M->∃ b,SeqAt.RcAt X.A s v u b/\SeqAt.RcNeAt X.A s v u (!b)/\Q' (.bl (g b)) M:=fun p p' q=>let ⟨h1,h2⟩:=aN3 I hu p p' r1 r2 rx ry;⟨_,h1,h2,q⟩
  cases dx with
  | ref a =>
   cases dy with
   | ref b =>
    obtain ⟨xs,ys,ha,hb,_,p,p',q⟩:=q
    obtain ⟨us,hu',ru⟩:=hm.l a xs ha
    obtain ⟨ws,hw,rw'⟩:=hm.l b ys hb
    obtain rfl:=bD r1
    obtain rfl:=bD r2
    cases rx
    cases ry
    obtain ⟨h1,h2⟩:=aFk I hu hu' hw ru rw' p p'
    exact ⟨_,h1,h2,q⟩
   | _=>exact gen q.1 q.2.1 q.2.2
  | _=>exact gen q.1 q.2.1 q.2.2
 refine ⟨fun pins s σ H x y v u Q I rx ry ⟨dx,dy,M,Q',r1,r2,hm,q,k⟩=>?_,fun pins s σ H x y v u Q I rx ry ⟨dx,dy,M,Q',r1,r2,hm,q,k⟩=>?_⟩
 ·obtain ⟨b,h1,_,q⟩:=key I rx ry r1 r2 hm q
  exact h1 X.prog X.w X.xe _ ⟨.bl b,H,I,rfl,k _ H ⟨.bl b,M,dL,hm,.refl H,q⟩⟩
 ·obtain ⟨b,_,h2,q⟩:=key I rx ry r1 r2 hm q
  exact h2 X.prog X.w X.xe _ ⟨.bl (!b),H,I,rfl,k _ H ⟨.bl (!b),M,dL,hm,.refl H,q⟩⟩
theorem bZ {k:Nat} (hr:eP k X.A):OpD X (compareOp .Eq) (dEq id):=(aFE (by have:=hr.un;omega)).1
theorem mE {k:Nat} (hr:eP k X.A):OpD X (compareOp .NotEq) (dEq not):=(aFE (by have:=hr.un;omega)).2
noncomputable def aJY (ta:DE):DE:=fun ρ M Q=>ta ρ M fun x M1=>match x with
 | .int i=>Q (.int (-i)) M1
 | _=>False
theorem aKf (ha:PDE X a ta):PDE X (.UnaryOp .USub a pos) (aJY ta) :=
 cJ (aNw aLt ha) fun σ H Q ⟨ρ,M,Q',re,hm,q,k⟩=>⟨ρ,M,_,re,hm,q,fun x H1 ⟨d,M1,rd,hm1,ex,q1⟩=>by
  cases d with
  | int i=>exact ⟨i,aS rd,k _ H1 ⟨_,M1,bT,hm1,ex,q1⟩⟩
  | _=>exact q1.elim⟩
noncomputable def mP:D2:=fun x y M Q=>match x,y with
 | .tup ds,.int i=>match atI ds i with
  | some d=>Q d M
  | none=>False
 | .fz ds,.int i=>match atI ds i with
  | some d=>Q d M
  | none=>False
 | .ref a,.int i=>∃ ds d,M a = some ds/\atI ds i = some d/\Q d M
 | _,_=>False
theorem zC {K:PySem.W.Frag} {H:Hp} {ds:List D} {xs:List V} {i:Int} {d:D} (r:bY K H ds xs) (h:atI ds i = some d):∃ v,atI xs i = some v/\Rep K H d v:=by
 unfold atI at h ⊢
 rw [<- r.length]
 cases e:ixN ds.length i with
 | none=>rw [e] at h;cases h
 | some j =>
  rw [e] at h
  exact r.get h
theorem ixd:IxR X fun x y H Q=>∃ dx dy M Q',Rep X.K H dx x/\Rep X.K H dy y/\cO X.K M H/\mP dx dy M Q'/\∀ v H',LQ X.K H Q' v H'->Q v H':=by
 intro value slice pins s σ H x y v u Q I rx ry ⟨dx,dy,M,Q',r1,r2,hm,q,k⟩ hs
 cases dx with
 | tup ds =>
  cases dy with
  | int i =>
   obtain ⟨a,us,rfl,sq,ru⟩:=cH r1
   obtain rfl:=aS r2
   cases e:atI ds i with
   | none=>exact absurd q (by show ¬ (match atI ds i with | some d=>Q' d M | none=>False);rw [e];exact id)
   | some d =>
    have q':Q' d M:=by
     have z:(match atI ds i with | some d=>Q' d M | none=>False):=q
     rw [e] at z;exact z
    obtain ⟨w,hw,rw'⟩:=zC ru e
    exact aKT value slice pins s σ H _ _ v u Q I rx ry ⟨a,us,i,w,rfl,rfl,sq,hw,k _ H ⟨d,M,rw',hm,.refl H,q'⟩⟩ hs
  | _=>exact q.elim
 | fz ds =>
  cases dy with
  | int i =>
   obtain ⟨a,us,rfl,sq,ru⟩:=lS r1
   obtain rfl:=aS r2
   cases e:atI ds i with
   | none=>exact absurd q (by show ¬ (match atI ds i with | some d=>Q' d M | none=>False);rw [e];exact id)
   | some d =>
    have q':Q' d M:=by
     have z:(match atI ds i with | some d=>Q' d M | none=>False):=q
     rw [e] at z;exact z
    obtain ⟨w,hw,rw'⟩:=zC ru e
    exact aEc value slice pins s σ H _ _ v u Q I rx ry ⟨a,us,i,w,rfl,rfl,sq.sq,hw,k _ H ⟨d,M,rw',hm,.refl H,q'⟩⟩ hs
  | _=>exact q.elim
 | ref a =>
  cases dy with
  | int i =>
   obtain ⟨ds,d,ha,e,q'⟩:=q
   obtain rfl:=bD r1
   obtain rfl:=aS r2
   obtain ⟨us,hu,ru⟩:=hm.l a ds ha
   obtain ⟨w,hw,rw'⟩:=zC ru e
   exact aEc value slice pins s σ H _ _ v u Q I rx ry ⟨a,us,i,w,rfl,rfl,.of hu,hw,k _ H ⟨d,M,rw',hm,.refl H,q'⟩⟩ hs
  | _=>exact q.elim
 | _=>exact q.elim
theorem aNY (ha:PDE X a ta) (hb:PDE X b tb) (hs:sS b:=by exact fun _ _=>rfl):PDE X (.Subscript a b pos) (dOp mP ta tb) :=
 cJ (aMk ixd ha hb hs) fun σ H Q h=>aA4 (fun _ _ _ _ z=>z) h
noncomputable abbrev DO:=cV->DM->(Option Int->DM->Prop)->Prop
noncomputable def yK (K:PySem.W.Frag) (t:DO):TO:=fun σ H Q=>∃ ρ M Q',iI K H ρ σ/\cO K M H/\t ρ M Q'/\∀ i H',(∃ M',cO K M' H'/\Ext H H'/\Q' i M')->Q i H'
noncomputable def aLN:DO:=fun _ M Q=>Q none M
noncomputable def dPt (t:DE):DO:=fun ρ M Q=>t ρ M fun x M1=>match x with
 | .int i=>Q (some i) M1
 | _=>False
theorem aHv:PO X none (yK X.K aLN):=fun pins s σ H Q I ⟨ρ,M,Q',re,hm,q,k⟩=>aIN pins s σ H Q I (k none H ⟨M,hm,.refl H,q⟩)
theorem aIs (h:PDE X e te):PO X (some e) (yK X.K (dPt te)):=fun pins s σ H Q I ⟨ρ,M,Q',re,hm,q,k⟩=>aH2 h pins s σ H Q I ⟨ρ,M,_,re,hm,q,fun v H1 ⟨d,M1,rd,hm1,ex,q1⟩=>by
 cases d with
 | int i=>exact ⟨i,aS rd,k (some i) H1 ⟨M1,hm1,ex,q1⟩⟩
 | _=>exact q1.elim⟩
noncomputable def cutD (xs:List D) (lo hi:Option Int):List D:=(xs.drop (HT.sIx xs.length 0 lo)).take (HT.sIx xs.length xs.length hi - HT.sIx xs.length 0 lo)
theorem yV {K:PySem.W.Frag} {H:Hp} {ds:List D} {xs:List V} (r:bY K H ds xs) (lo hi:Option Int):bY K H (cutD ds lo hi) (aB7 xs lo hi):=by
 unfold cutD aB7
 rw [r.length]
 exact (r.drop _).take _
noncomputable def aNs (x:D) (lo hi:Option Int) (M:DM) (Q:DQ):Prop:=match x with
 | .fz ds=>∀ p:Addr,M p = none->Q (.ref p) (bC M p (cutD ds lo hi))
 | .ref a=>∃ ds,M a = some ds/\∀ p:Addr,M p = none->Q (.ref p) (bC M p (cutD ds lo hi))
 | _=>False
noncomputable def dSl (te:DE) (tl th:DO):DE:=fun ρ M Q=>te ρ M fun x M1=>tl ρ M1 fun l M2=>th ρ M2 fun h M3=>aNs x l h M3 Q
variable {lo hi:Option Expr} {tl th:DO} {p2:Pos}
theorem aGX (he:PDE X e te) (hl:PO X lo (yK X.K tl)) (hu:PO X hi (yK X.K th)):PDE X (.Subscript e (.Slice lo hi none p2) pos) (dSl te tl th) :=
 cJ (xA aHW he hl hu) fun σ H Q ⟨ρ,M,Q',re,hm,q,k⟩=>⟨ρ,M,_,re,hm,q,fun v H1 ⟨d,M1,rd,hm1,e1,q1⟩=>⟨ρ,M1,_,re.ext e1,hm1,q1,fun l H2 ⟨M2,hm2,e2,q2⟩=>⟨ρ,M2,_,(re.ext e1).ext e2,hm2,q2,fun h H3 ⟨M3,hm3,e3,q3⟩=>by
  have rd3:=(rd.ext e2).ext e3
  have ex:=(e1.trans e2).trans e3
  cases d with
  | fz ds =>
   obtain ⟨a,us,rfl,sq,ru⟩:=lS rd3
   exact ⟨a,us,rfl,sq.sq,fun p hp=>k _ _ ⟨.ref p,_,iO,hm3.lnew hp (yV ru l h),ex.trans (Ext.new hp _),q3 p (hm3.fresh hp)⟩⟩
  | ref a =>
   obtain ⟨ds,ha,q3⟩:=q3
   obtain rfl:=bD rd
   obtain ⟨us,hu,ru⟩:=hm3.l a ds ha
   exact ⟨a,us,rfl,.of hu,fun p hp=>k _ _ ⟨.ref p,_,iO,hm3.lnew hp (yV ru l h),ex.trans (Ext.new hp _),q3 p (hm3.fresh hp)⟩⟩
  | _=>exact q3.elim⟩⟩⟩
noncomputable abbrev DSp:=List D->DM->DQ->Prop
noncomputable def vG (K:PySem.W.Frag) (sp:DSp):Sp:=fun vs H Q _=>∃ ds M Q',bY K H ds vs/\cO K M H/\sp ds M Q'/\∀ v H',LQ K H Q' v H'->Q v H'
noncomputable def oB (sp:DSp) (t:DA):DE:=fun ρ M Q=>t ρ M fun ds M1=>sp ds M1 Q
variable {CX:CXT} {k:Nat} {f:Addr} {fd:FuncData} {ps:List Str} {sp:DSp} {E:XK} {x:Str} {p:Pos}
theorem aIh (F:jJ X.prog X.w X.K X.mg X.base CX k f fd ps (vG X.K sp)) (hr:eP k X.A) (hm:X.mg x = some (.ref f)) (hk:PySem.W.keepIn X.K (.ref f) = true) (hb:mG X.K fd ps []) (hx:tV CX X E) (ha:PDA X (e :: es) t) (hg:Gl X x:=by rfl)
  (hdb:(x == ("__debug__":Str)) = false:=by decide) (he:starEach (e :: es) X.env = (false,eval e X.env) :: starEach es X.env:=by rfl) (hpl:(backTo pos (starEach es X.env)).any (·.1) = false:=by rfl) :
  PDE X (.Call (.Name x p) (e :: es) [] pos) (oB sp t) :=
 cJ (aHA F hr hg hm hk hb .nil hx ha hdb he hpl) fun σ H Q ⟨ρ,M,Q',re,hm,q,k⟩=>⟨ρ,M,_,re,hm,q,fun vs H1 ⟨ds,M1,rs,hm1,ex,q1⟩=>⟨ds,M1,Q',by rw [List.append_nil];exact rs,hm1,q1,fun v H' z=>k v H' (z.back ex)⟩⟩
theorem aGd (F:jJ X.prog X.w X.K X.mg X.base CX k f fd ps (vG X.K sp)) (hr:eP k X.A) (hm:X.mg x = some (.ref f)) (hk:PySem.W.keepIn X.K (.ref f) = true) (hb:mG X.K fd ps []) (hx:tV CX X E) (hg:Gl X x:=by rfl)
  (hdb:(x == ("__debug__":Str)) = false:=by decide):PDE X (.Call (.Name x p) [] [] pos) (oB sp oF) :=
 cJ (aGO F hr hg hm hk hb .nil hx hdb) fun σ H Q ⟨ρ,M,Q',re,hm,q,k⟩=>⟨[],M,Q',cP,hm,q,k⟩
noncomputable def gM (X:Cx) (fv:Value) (r:DSp):Prop:=lA X fv fun vs H Q=>∃ ds M Q',bY X.K H ds vs/\cO X.K M H/\r ds M Q'/\∀ v H',LQ X.K H Q' v H'->Q v H'
theorem gM.of {fv:Value} {r:List V->Hp->VK->Prop} {r':DSp} (h:lA X fv r) (l:∀ vs H M ds Q,bY X.K H ds vs->cO X.K M H->r' ds M Q->r vs H (LQ X.K H Q)):gM X fv r':=fun pins s σ H xs us Q I rs ⟨ds,M,Q',r1,hm,q,k⟩ =>
 thn (h pins s σ H xs us _ I rs (l xs H M ds Q' r1 hm q)) fun v s h=>aD1 h k
theorem aFQ {r:DSp} {σ:L2.St} {H:Hp} {Q:VK} (h:low X.K (oB r t) σ H Q):aML X.K t σ H fun vs H1=>∃ ds M Q',bY X.K H1 ds vs/\cO X.K M H1/\r ds M Q'/\∀ v H',LQ X.K H1 Q' v H'->Q v H':=by
 obtain ⟨ρ,M,Q',re,hm,q,k⟩:=h
 exact ⟨ρ,M,_,re,hm,q,fun vs H1 ⟨ds,M1,rs,hm1,ex,q1⟩=>⟨ds,M1,Q',rs,hm1,q1,fun v H' z=>k v H' (z.back ex)⟩⟩
theorem aFe {id:String} {r:DSp} (hc:gM X (.builtin id) r) (hm:X.mg x = none) (ha:PDA X (e :: es) t) (hv:bootBuiltins x = some (.builtin id):=by rfl) (hg:Gl X x:=by rfl) (hn:x ≠ "__name__":=by decide) (hdb:(x == ("__debug__":Str)) = false:=by decide)
  (he:starEach (e :: es) X.env = (false,eval e X.env) :: starEach es X.env:=by rfl) (hpl:(backTo pos (starEach es X.env)).any (·.1) = false:=by rfl):PDE X (.Call (.Name x p) (e :: es) [] pos) (oB r t) :=
 cJ (zE hc hg hm hv ha hn hdb he hpl) fun σ H Q h=>aFQ h
theorem aEu {T:String} {r:DSp} (hc:gM X (.type T) r) (hm:X.mg x = none) (ha:PDA X (e :: es) t) (hv:bootBuiltins x = some (.type T):=by rfl) (hg:Gl X x:=by rfl) (hn:x ≠ "__name__":=by decide) (hdb:(x == ("__debug__":Str)) = false:=by decide)
  (he:starEach (e :: es) X.env = (false,eval e X.env) :: starEach es X.env:=by rfl) (hpl:(backTo pos (starEach es X.env)).any (·.1) = false:=by rfl):PDE X (.Call (.Name x p) (e :: es) [] pos) (oB r t) :=
 cJ (aEO hc hg hm hv ha hn hdb he hpl) fun σ H Q h=>aFQ h
end
end Dd
namespace Dd
open PySem PySem.Spec PyProof.Rows L2
section
variable {X:Cx} {a b e o:Expr} {es:List Expr} {ta tb te to:DE} {t:DA} {pos:Pos}
noncomputable def aMl:DSp:=fun ds M Q=>match ds with
 | [.int i]=>Q (.int (if i < 0 then -i else i)) M
 | _=>False
theorem eV {K:PySem.W.Frag} {H:Hp} {d:D} {vs:List V} (h:bY K H [d] vs):∃ v,vs = [v]/\Rep K H d v:=by
 obtain ⟨v,r,rfl,rv,rr⟩:=aU h
 obtain rfl:=bS rr
 exact ⟨v,rfl,rv⟩
theorem aLr {K:PySem.W.Frag} {H:Hp} {d d2:D} {vs:List V} (h:bY K H [d,d2] vs):∃ v v2,vs = [v,v2]/\Rep K H d v/\Rep K H d2 v2:=by
 obtain ⟨v,r,rfl,rv,rr⟩:=aU h
 obtain ⟨v2,rfl,rv2⟩:=eV rr
 exact ⟨v,v2,rfl,rv,rv2⟩
theorem yU:gM X (.builtin "abs") aMl:=gM.of aG2 fun vs H M ds Q rs hm q=>by
 rcases ds with _ | ⟨d,_ | ⟨d2,r⟩⟩
 ·exact q.elim
 ·cases d with
  | int i =>
   obtain ⟨v,rfl,rv⟩:=eV rs
   obtain rfl:=aS rv
   exact ⟨i,rfl,_,M,bT,hm,.refl H,q⟩
  | _=>exact q.elim
 ·cases d<;>exact q.elim
noncomputable def aMq:DSp:=fun ds M Q=>match ds with
 | [.int i]=>Q (.int i) M
 | [.bl k]=>Q (.int (if k then 1 else 0)) M
 | _=>False
theorem uQ:gM X (.type "int") aMq:=gM.of aEC fun vs H M ds Q rs hm q=>by
 rcases ds with _ | ⟨d,_ | ⟨d2,r⟩⟩
 ·exact q.elim
 ·cases d with
  | int i =>
   obtain ⟨v,rfl,rv⟩:=eV rs
   obtain rfl:=aS rv
   exact .inl ⟨i,rfl,_,M,bT,hm,.refl H,q⟩
  | bl i =>
   obtain ⟨v,rfl,rv⟩:=eV rs
   obtain rfl:=cB rv
   exact .inr ⟨i,rfl,_,M,bT,hm,.refl H,q⟩
  | _=>exact q.elim
 ·cases d<;>exact q.elim
noncomputable def sW:DSp:=fun ds M Q=>match ds with
 | [.tup xs]=>Q (.int xs.length) M
 | [.fz xs]=>Q (.int xs.length) M
 | [.ref a]=>∃ xs,M a = some xs/\Q (.int xs.length) M
 | _=>False
theorem jO:gM X (.builtin "len") sW:=gM.of aBB fun vs H M ds Q rs hm q=>by
 rcases ds with _ | ⟨d,_ | ⟨d2,r⟩⟩
 ·exact q.elim
 ·cases d with
  | tup xs =>
   obtain ⟨v,rfl,rv⟩:=eV rs
   obtain ⟨a,us,rfl,sq,ru⟩:=cH rv
   exact ⟨a,us,rfl,.inr sq,_,M,by rw [<- ru.length];exact bT,hm,.refl H,q⟩
  | fz xs =>
   obtain ⟨v,rfl,rv⟩:=eV rs
   obtain ⟨a,us,rfl,sq,ru⟩:=lS rv
   exact ⟨a,us,rfl,.inl sq.sq,_,M,by rw [<- ru.length];exact bT,hm,.refl H,q⟩
  | ref a =>
   obtain ⟨v,rfl,rv⟩:=eV rs
   obtain rfl:=bD rv
   obtain ⟨xs,ha,q⟩:=q
   obtain ⟨us,hu,ru⟩:=hm.l a xs ha
   exact ⟨a,us,rfl,.inl (.of hu),_,M,by rw [<- ru.length];exact bT,hm,.refl H,q⟩
  | _=>exact q.elim
 ·cases d<;>exact q.elim
noncomputable def aJW:DSp:=fun ds M Q=>match ds with
 | [.tup xs]=>Q (.tup xs) M
 | [.ref a]=>∃ xs,M a = some xs/\Q (.tup xs) M
 | _=>False
theorem mF:gM X (.type "tuple") aJW:=gM.of aAg fun vs H M ds Q rs hm q=>by
 rcases ds with _ | ⟨d,_ | ⟨d2,r⟩⟩
 ·exact q.elim
 ·cases d with
  | tup xs =>
   obtain ⟨v,rfl,rv⟩:=eV rs
   obtain ⟨a,us,rfl,sq,ru⟩:=cH rv
   exact ⟨a,us,rfl,.inr ⟨sq,_,M,cG sq ru,hm,.refl H,q⟩⟩
  | ref a =>
   obtain ⟨v,rfl,rv⟩:=eV rs
   obtain rfl:=bD rv
   obtain ⟨xs,ha,q⟩:=q
   obtain ⟨us,hu,ru⟩:=hm.l a xs ha
   exact ⟨a,us,rfl,.inl ⟨.of hu,fun p hp=>⟨.tup xs,M,cG (.of dE) (ru.ext (Ext.new hp _)),hm.new hp _,Ext.new hp _,q⟩⟩⟩
  | _=>exact q.elim
 ·cases d<;>exact q.elim
noncomputable def aBG (to te:DE):DE:=fun ρ M Q=>to ρ M fun x M1=>match x with
 | .ref p=>(∃ ds,M1 p = some ds)/\jS te oF ρ M1 fun ys M2=>∃ ds y,ys = [y]/\M2 p = some ds/\ds.length < 1000/\Q .non (bC M2 p (ds ++ [y]))
 | _=>False
theorem aEg {apos cpos:Pos} (ho:PDE X o to) (he:PDE X e te) (hse:starEach [e] X.env = (false,eval e X.env) :: starEach [] X.env:=by rfl)
  (hbase:attributeBase o "append" X.env (eval o X.env) = eval o X.env:=by rfl)
  (hfew:((backTo cpos (starEach [e] X.env)).all (fun x=>!x.1) && (backToKw cpos (keywordEach [] X.env)).all (fun x=>x.1.isSome)
   && decide ([e].length + ([]:List Keyword).length + (if ([]:List Keyword).isEmpty then 0 else 1) < 30)) = true:=by rfl)
  (hline:(apos.endLine == cpos.line) = true:=by rfl) (hplain:(backTo cpos (starEach [] X.env)).any (·.1) = false:=by rfl) :
  PDE X (.Call (.Attribute o "append" apos) [e] [] cpos) (aBG to te) :=
 cJ (aCA PySem.F.plainAttrs_list PySem.F.slot_list_append PySem.F.type_list_append aEE ho (kS he oI hse) hbase hfew hline hse hplain) fun σ H Q ⟨ρ,M,Q',re,hm,q,k⟩=>⟨ρ,M,_,re,hm,q,fun v H1 ⟨d,M1,rd,hm1,e1,q1⟩=>by
  cases d with
  | ref p =>
   obtain rfl:=bD rd
   obtain ⟨⟨ds0,h0⟩,q1⟩:=q1
   obtain ⟨us0,hu0,_⟩:=hm1.l p ds0 h0
   refine ⟨.inl ⟨rfl,us0,.of hu0⟩,ρ,M1,_,re.ext e1,hm1,q1,fun vs H2 ⟨dvs,M2,rs,hm2,e2,ds,y,ey,hp,hl,q2⟩=>?_⟩
   subst ey
   obtain ⟨w,rfl,rw'⟩:=eV rs
   obtain ⟨us,hu,ru⟩:=hm2.l p ds hp
   exact ⟨p,us,w,rfl,rfl,hu,by rw [<- ru.length];exact eX (Nat.le_of_lt hl),k _ _ ⟨.non,_,tS,hm2.put hu (ru.append (bH rw' cP)),(e1.trans e2).trans (Ext.put hu _),q2⟩⟩
  | _=>exact q1.elim⟩
noncomputable def tyD:D->Option String
 | .non=>some "NoneType"
 | .bl _=>some "bool"
 | .int _=>some "int"
 | .str _=>some "str"
 | .tup _=>some "tuple"
 | .fz _=>some "list"
 | .ref _=>none
theorem tyT {K:PySem.W.Frag} {H:Hp} {s:Shared} {pins:List (Addr × Obj)} {σ:L2.St} (I:Inv X pins σ H s) {a:Addr} {xs:List V} (sq:SqT X.K H a xs):∃ o,s.heap.get? a = some o/\o.cls = .type "tuple":=by
 obtain ⟨its,_,⟨o,h1,h2,_⟩,_⟩:=I.tuple sq
 exact ⟨o,h1,h2⟩
theorem aMz {K:PySem.W.Frag} {H:Hp} {s:Shared} {pins:List (Addr × Obj)} {σ:L2.St} {A:Around} {E:Value->Shared->Prop} {Q:Value->Shared->Prop} {c:Value} {d:D} {v:V} {u:Value} {T:String} {k:Bool} (I:Inv X pins σ H s) (rd:Rep X.K H d v) (rv:cR v u) (ty:tyD d = some T)
  (e:PySem.W.kitOne X.K (.type T) c = some k) (h:∀ tk,Q (.bool k) { s with toks:=tk }):wpAny (model X.prog X.w) A (call (.builtin "isinstance") [u,c]) Q E s:=by
 cases d with
 | non=>cases ty;rw [cY rd] at rv;exact mB I rv (.non) e h
 | bl b=>cases ty;rw [cB rd] at rv;exact mB I rv (.bl b) e h
 | int b=>cases ty;rw [aS rd] at rv;exact mB I rv (.int b) e h
 | str b=>cases ty;rw [bA rd] at rv;exact mB I rv (.str b) e h
 | ref b=>cases ty
 | tup b =>
  cases ty
  obtain ⟨a,us,rfl,sq,ru⟩:=cH rd
  cases rv
  obtain ⟨o,h1,h2⟩:=tyT (K:=K) I sq
  exact PySem.W.kia_one PySem.W.kitx_tuple I.kIn ⟨o,h1,h2⟩ e (fun z=>nomatch z) h
 | fz b =>
  cases ty
  obtain ⟨a,us,rfl,sq,ru⟩:=lS rd
  cases rv
  obtain ⟨z,its,n,r,e1⟩:=aC7 I sq
  exact PySem.W.kia_one PySem.W.kitx_list I.kIn ⟨_,e1,rfl⟩ e (fun z=>nomatch z) h
noncomputable def dIs (K:PySem.W.Frag) (c:Value) (te:DE):DE:=fun ρ M Q=>te ρ M fun d M1=>(∃ T k,tyD d = some T/\PySem.W.kitOne K (.type T) c = some k/\Q (.bl k) M1) ∨ (∃ (p:Addr) (xs:List D) (k:Bool),d = .ref p/\M1 p = some xs/\PySem.W.kitOne K (.type "list") c = some k/\Q (.bl k) M1)
theorem aIH {T:String} {x:Str} {p p2:Pos} (he:PDE X e te) (hm:X.mg "isinstance" = none) (hmx:X.mg x = none) (hv:bootBuiltins x = some (.type T):=by rfl) (hg:Gl X "isinstance":=by rfl) (hgx:Gl X x:=by rfl) (hn:x ≠ "__name__":=by decide) (hdb:(x == ("__debug__":Str)) = false:=by decide)
  (hse:starEach [e,.Name x p2] X.env = (false,eval e X.env) :: starEach [.Name x p2] X.env:=by rfl) (hse2:starEach [.Name x p2] X.env = (false,eval (.Name x p2) X.env) :: starEach [] X.env:=by rfl) (hpl:(backTo pos (starEach [.Name x p2] X.env)).any (·.1) = false:=by rfl) :
  PDE X (.Call (.Name "isinstance" p) [e,.Name x p2] [] pos) (dIs X.K (.type T) te):=by
 have hc:lA X (.builtin "isinstance") fun vs H Q=>∃ d M Q' v,vs = [v,.ty T]/\Rep X.K H d v/\cO X.K M H/\((∃ T' k,tyD d = some T'/\PySem.W.kitOne X.K (.type T') (.type T) = some k/\Q' (.bl k) M) ∨ (∃ (p:Addr) (xs:List D) (k:Bool),d = .ref p/\M p = some xs/\PySem.W.kitOne X.K (.type "list") (.type T) = some k/\Q' (.bl k) M))/\∀ v H',LQ X.K H Q' v H'->Q v H':=by
  intro pins s σ H xs us Q I rs ⟨d,M,Q',v,e1,rd,hm,q,k⟩
  subst e1
  obtain ⟨u1,u2,rfl,rv,rt⟩:=rs.two
  cases rt
  rcases q with ⟨T',b,ty,e2,q⟩ | ⟨p,ys,b,rfl,hp,e2,q⟩
  ·exact aMz (K:=X.K) I rd rv ty e2 fun tk=>⟨.bl b,H,I.tok tk,rfl,k _ H ⟨_,M,dL,hm,.refl H,q⟩⟩
  ·obtain rfl:=bD rd
   obtain ⟨us,hu,ru⟩:=hm.l p ys hp
   exact mB I rv (.lst hu) e2 fun tk=>⟨.bl b,H,I.tok tk,rfl,k _ H ⟨_,M,dL,hm,.refl H,q⟩⟩
 refine cJ (zE hc hg hm rfl (mY he (mY (aBI hgx hmx hv (v:=.ty T) rfl hn hdb) aBH hse2) hse) (by decide) (by decide) hse hpl) fun σ H Q ⟨ρ,M,Q',re,hm,q,k⟩=>?_
 exact ⟨ρ,M,_,re,hm,q,fun v H1 ⟨d,M1,rd,hm1,ex,q1⟩=>⟨d,M1,Q',v,rfl,rd,hm1,q1,fun v H' z=>k v H' (z.back ex)⟩⟩
end
noncomputable def iJ (N:List Str) (ds:List D):cV:=ds.map some ++ List.replicate (N.length - ds.length) none
noncomputable def Dn (Q:DQ):DQ:=fun d M=>∃ M',aW M' M/\Q d M'
section
variable {P:Program} {w:World} {K:PySem.W.Frag} {mg:Str->Option Value} {base:Heap}
theorem rC {H:Hp} {ds:List D} {vs:List V} (r:bY K H ds vs) (N:List Str):iI K H (iJ N ds) (L2.start N vs):=by
 have hl:=r.length
 refine ⟨by unfold iJ L2.start;simp only [List.length_append,List.length_map,List.length_replicate,hl],fun i d q=>?_⟩
 unfold iJ at q
 unfold L2.start
 by_cases hi:i < ds.length
 ·rw [List.getElem?_append_left (by simpa using hi),List.getElem?_map] at q
  rw [List.getElem?_append_left (by simpa [<- hl] using hi),List.getElem?_map]
  cases e:ds[i]? with
  | none=>rw [e] at q;cases q
  | some d' =>
   rw [e] at q
   cases q
   obtain ⟨v,e2,rv⟩:=r.get e
   exact ⟨v,by rw [e2];rfl,rv⟩
 ·rw [List.getElem?_append_right (by simpa using hi),List.getElem?_replicate] at q
  split at q<;>cases q
theorem Fun.okD {x qual:Str} {st:Stmt} {f:Addr} {fd:FuncData} {N ps:List Str} {k:Nat} {sp:DSp} (F:L2.Fun K x qual st f fd) (S:aQ N ps (aJ st)) (len:∀ ds M Q,sp ds M Q->ds.length = ps.length)
  (hbody:∀ (cdv:Value) (A:Around) (outer:List Env) (s:Shared) (H:Hp) (ds:List D) (M:DM) (Q:DQ) (E:XK),eP k (A.deeper (envOfC qual (aJ st) s.heap.objs.size f cdv))->sp ds M Q ->
   ∃ t,mQ (kD CX0 P w K mg base N qual (aJ st) f cdv A outer s H E).nox (eT st) t/\t { nx:=fun _ M'=>Dn Q .non M',rt:=Dn Q } (iJ N ds) M):jJ P w K mg base CX0 (k + 1) f fd ps (vG K sp):=by
 refine F.ok S (fun vs H Q E ⟨ds,M,Q',rs,hm,q,_⟩=>by rw [<- rs.length];exact len ds M Q' q) fun cdv A outer s H vs Q E hr ⟨ds,M,Q',rs,hm,q,k'⟩=>?_
 obtain ⟨t,h1,h2⟩:=hbody cdv A outer s H ds M Q' E hr q
 have fin:∀ v H',LQ K H (Dn Q') v H'->Q v H':=fun v H' ⟨d,M1,rd,hm1,ex,M2,sub,q2⟩=>k' v H' ⟨d,M2,rd,hm1.sub sub,ex,q2⟩
 refine ⟨_,h1,iJ N ds,M,_,rC rs N,hm,h2,⟨fun σ' H' ⟨ρ',M',_,hm',ex,q'⟩=>fin _ H' ⟨.non,M',tS,hm',ex,q'⟩,fin,fun σ' H' ⟨_,_,_,_,_,z⟩=>z.elim,fun σ' H' ⟨_,_,_,_,_,z⟩=>z.elim⟩⟩
end
theorem aEi {P:Program} {w:World} {K:PySem.W.Frag} {mg mb:Str->Option Value} {CX:CXT} {k:Nat} {fa a:Addr} {fd:FuncData} {x:Str} {sp:Sp} {s₁:Shared} {vs:List Value} {ns:List Int}
  (KX:K.In s₁.heap) (hns:s₁.heap.Ns mainGlobals mg) (hb:s₁.heap.Ns builtinsNs mb) (hbb:∀ x:Str,x ≠ "__name__"->mb x = bootBuiltins x) (hlim:s₁.heap.NoLimit) (hg:s₁.gens = #[])
  (ha:s₁.heap.get? a = some { cls:=.type "list",data:=.seq vs.toArray }) (hi:IntsAre vs ns) (hl:ns.length<=sizeLine) (hr:eP k callerA)
  (F:∀ base:Heap,K.In base->base.Ns mainGlobals mg->jJ P w K mg base CX k fa fd [x] sp) (hbind:∀ (s:Shared) (u:Value),BindsTo s fd ⟨[u],[]⟩ [(x,u)])
  (hsp:∀ H:Hp,aLg H->SqX K H a (ns.map V.int)->sp [.ref a] H (fun v _=>v = .bl true) fun _ _ _=>False)
  (hCX:∀ H e s',CX [] H s₁ (fun _ _ _=>False) e s'->False) :
  codeAny (model P w) callerA (.call (.ref fa) ⟨[.ref a],[]⟩) (fun r s'=>r = .ok (.ret (.bool true))/\OldK s₁.heap s'.heap/\s'.os = s₁.os/\AllBare s'.gens) s₁:=by
 have rv:=vB hi
 have lenV:=hi.length
 refine aFc (ns:=ns) (sp:=fun vs H Q E=>SqX K H a (ns.map V.int)/\sp vs H Q E) KX hns hb hbb hlim hg ha hi hl hr (fun base h1 h2=>(F base h1 h2).imp fun _ _ _ _ z=>z.2) hbind (fun H hO hS=>?_) hCX
 have sx:SqX K H a (ns.map V.int):=by
  rcases hS with (h | h) | ⟨o,its,n,hk,hc,hd,hs,hz,r⟩
  ·rcases hO a with z | ⟨o,xs,z⟩
   ·rw [h] at z;cases z
   ·rw [h] at z;cases z
  ·exact .inl h
  ·have e:=KX a o hk
   rw [ha] at e
   cases e
   cases hs
   exact .inr ⟨_,_,hk,hz,r⟩
 exact ⟨sx,hsp H hO sx⟩
theorem walk_ofD {l:PySem.W.OpenLaw} {n k:Nat} {q:Program} {loose:List Str} {XP:(Str->Option Value)->Heap->Prop} {YP:World->Heap->Prop} {d:DefRec} {K:Params->PySem.W.Frag} {sp:DSp} {x:Str}
  (hn:l.most = some n) (hn2:n<=sizeLine) (hdf:d.params.defaults = []) (hr:eP k callerA)
  (hY:∀ (w:World) (h:Heap),YP w h->(K w.params).In h)
  (F:∀ (w:World) (mg:Str->Option Value) (fa:Addr) (h:Heap),(K w.params).In h->h.Ns mainGlobals mg->mg d.name = some (.ref fa) ->
   ∃ fd:FuncData,(∀ (s:Shared) (u:Value),BindsTo s fd ⟨[u],[]⟩ [(x,u)]) /\
    ∀ base:Heap,(K w.params).In base->base.Ns mainGlobals mg->jJ l.prog w (K w.params) mg base CX0 k fa fd [x] (vG (K w.params) sp))
  (hsp:∀ (ns:List Int),ns.length<=n->∀ M,sp [.fz (ns.map D.int)] M fun d _=>d = .bl true) :
  PySem.W.WalkO q loose XP YP l.row.toRowW d [] (fun f vs=>PySem.call f vs):=by
 refine Att.attach_call hn hdf fun w s₀ s₁ mg mb fa o pm cd doc a vs ns G Y ho hd hcd hmg hobj hints hlen hg=>?_
 have KX:=hY w _ Y
 obtain ⟨fd,hb,hF⟩:=F w mg fa _ KX G.T.g hmg
 refine aEi KX G.T.g G.T.b G.T.builtins G.T.nolimit hg hobj hints (Nat.le_trans hlen hn2) hr hF hb (fun H hO hS=>?_) fun H e s' h=>h
 refine ⟨[.fz (ns.map D.int)],fun _=>none,_,bH (by unfold Rep;exact ⟨a,_,rfl,hS,aAC ns⟩) cP,⟨(fun _ _ z=>by cases z),(fun _ _ z=>by cases z)⟩,hsp ns hlen _,fun v H' z=>?_⟩
 obtain ⟨d,M',rd,_,_,e⟩:=z
 have e':d = .bl true:=e
 subst e'
 exact cB rd
end Dd
namespace Dd
open PySem PySem.Spec PyProof.Rows L2
noncomputable def bX (K:PySem.W.Frag) (mg:Str->Option Value) (x:Str) (st:Stmt) (ps:List Str):Prop:=∃ f fd,L2.Fun K x x st f fd/\mg x = some (.ref f)/\mG K fd ps []
noncomputable def Has (P:Program) (w:World) (K:PySem.W.Frag) (mg:Str->Option Value) (base:Heap) (k:Nat) (x:Str) (ps:List Str) (sp:DSp):Prop :=
 ∃ f fd,jJ P w K mg base CX0 k f fd ps (vG K sp)/\mg x = some (.ref f)/\PySem.W.keepIn K (.ref f) = true/\mG K fd ps []
noncomputable def fC (K:PySem.W.Frag) (mg:Str->Option Value) (x:Str) (d:D):Prop:=∃ u v,mg x = some u/\cR v u/\∀ H,Rep K H d v
section
variable {P:Program} {w:World} {K:PySem.W.Frag} {mg:Str->Option Value} {base:Heap}
theorem Has.mk {x:Str} {st:Stmt} {N ps:List Str} {k:Nat} {sp:DSp} (h:bX K mg x st ps) (S:aQ N ps (aJ st)) (len:∀ ds M Q,sp ds M Q->ds.length = ps.length)
  (hbody:∀ (f:Addr) (cdv:Value) (A:Around) (outer:List Env) (s:Shared) (H:Hp) (ds:List D) (M:DM) (Q:DQ) (E:XK),eP k (A.deeper (envOfC x (aJ st) s.heap.objs.size f cdv))->sp ds M Q ->
   ∃ t,mQ (kD CX0 P w K mg base N x (aJ st) f cdv A outer s H E).nox (eT st) t/\t { nx:=fun _ M'=>Dn Q .non M',rt:=Dn Q } (iJ N ds) M):Has P w K mg base (k + 1) x ps sp:=by
 obtain ⟨f,fd,F,hm,hb⟩:=h
 exact ⟨f,fd,Fun.okD F S len fun cdv A outer s H ds M Q E hr q=>hbody f cdv A outer s H ds M Q E hr q,hm,F.kp,hb⟩
theorem Has.imp {x:Str} {ps:List Str} {k:Nat} {sp sp':DSp} (h:Has P w K mg base k x ps sp) (i:∀ ds M Q,sp' ds M Q->sp ds M Q):Has P w K mg base k x ps sp':=by
 obtain ⟨f,fd,F,hm,hk,hb⟩:=h
 exact ⟨f,fd,F.imp fun vs H Q E ⟨ds,M,Q',a,b,c,d⟩=>⟨ds,M,Q',a,b,i _ _ _ c,d⟩,hm,hk,hb⟩
end
section
variable {X:Cx} {a b c e:Expr} {es:List Expr} {ta tb te:DE} {t:DA} {pos p:Pos} {x:Str} {ps:List Str} {sp:DSp} {k j:Nat}
theorem aG1 (h:Has X.prog X.w X.K X.mg X.base k x ps sp) (hr:eP j X.A) (hkj:k<=j) (ha:PDA X (e :: es) t) (hg:Gl X x:=by rfl)
  (hdb:(x == ("__debug__":Str)) = false:=by decide) (he:starEach (e :: es) X.env = (false,eval e X.env) :: starEach es X.env:=by rfl) (hpl:(backTo pos (starEach es X.env)).any (·.1) = false:=by rfl) :
  PDE X (.Call (.Name x p) (e :: es) [] pos) (oB sp t):=by
 obtain ⟨f,fd,F,hm,hk,hb⟩:=h
 exact aIh F (hr.mono hkj) hm hk hb aGf ha hg hdb he hpl
theorem aEP (h:Has X.prog X.w X.K X.mg X.base k x ps sp) (hr:eP j X.A) (hkj:k<=j) (hg:Gl X x:=by rfl) (hdb:(x == ("__debug__":Str)) = false:=by decide):PDE X (.Call (.Name x p) [] [] pos) (oB sp oF):=by
 obtain ⟨f,fd,F,hm,hk,hb⟩:=h
 exact aGd F (hr.mono hkj) hm hk hb aGf hg hdb
theorem aFx {d:D} (h:fC X.K X.mg x d) (hg:Gl X x:=by rfl) (hd:(x == ("__debug__":Str)) = false:=by decide):PDE X (.Name x pos) (dC d):=by
 obtain ⟨u,v,hm,rv,hr⟩:=h
 exact aId hg hm rv hr hd
noncomputable def aHi (i:Nat) (te:DE) (g:Int->Int->Int):DS:=fun E ρ M=>match ρ[i]? with
 | some (some (.int z))=>te ρ M fun y M1=>match y with
  | .int j=>E.nx (ρ.set i (some (.int (g z j)))) M1
  | _=>False
 | _=>False
theorem aIz {i:Nat} {op:Operator} {g:Int->Int->Int} {pos':Pos} (ho:PIp X op (ipI g)) (hN:X.N.Nodup) (he:PDE X e te) (hi:X.N[i]? = some x:=by rfl) (hx:Loc X.env.scope x:=by first | exact Or.inl rfl | exact Or.inr rfl) (hf:X.fn x = true ∨ X.env.scope.names.lookup x = some .local:=by first | exact .inl rfl | exact .inr rfl | assumption) :
  PDS X (.AugAssign (.Name x pos') op e pos) (aHi i te g) :=
 iQ (aGj (i:=i) hN hi hx he ho hf) fun E σ H ⟨ρ,M,Dn,re,hm,q,k⟩=>by
  unfold aHi at q
  split at q
  ·rename_i z e1
   obtain ⟨v,e2,rv⟩:=re.get i _ e1
   obtain rfl:=aS rv
   refine ⟨_,e2,ρ,M,_,re,hm,q,fun w H1 ⟨d,M1,rd,hm1,ex,q1⟩=>?_⟩
   cases d with
   | int j=>exact ⟨z,j,rfl,aS rd,k.nx _ H1 ⟨_,M1,(re.ext ex).set bT i,hm1,ex,q1⟩⟩
   | _=>exact q1.elim
  ·exact q.elim
end
theorem dif {c A B:Prop} [Decidable c] (h1:c->A) (h2:¬ c->B):if decide c = true then A else B:=by
 by_cases h:c
 ·rw [decide_eq_true h];exact h1 h
 ·rw [decide_eq_false h];exact h2 h
theorem aM6 {b:Bool} {A B:Prop} (h1:b = true->A) (h2:b = false->B):if b = true then A else B:=by
 cases b
 ·exact h2 rfl
 ·exact h1 rfl
end Dd
namespace Dd
open PySem PySem.Spec PyProof.Rows L2
section
variable {prog:Program} {w:World} {A:Around} {E:Value->Shared->Prop} {s:Shared}
theorem sD {h h':Heap} {it t:Addr} {items:Array Value} (ht:h.IsList t items) (hs:Heap.SameBut it h h') (hne:t ≠ it):h'.IsList t items:=by
 obtain ⟨o,e,r⟩:=ht
 exact ⟨o,(hs.2 t hne).trans e,r⟩
theorem kZ {h:Heap} {t:Addr} {items:Array Value} (ht:h.IsList t items) (o:Obj):(h.push o).IsList t items:=by
 obtain ⟨o',e,r⟩:=ht
 exact ⟨o',Heap.get?_push_of_some _ e,r⟩
theorem vD {it t:Addr} {items:Array Value} (hne:t ≠ it):∀ (n i:Nat) (s:Shared) (Q:List Value->Shared->Prop),s.heap.IsListIter it t i->s.heap.IsList t items->i + n<=items.size ->
  (∀ h',h'.IsListIter it t (i + n)->Heap.SameBut it s.heap h'->Q ((items.toList.drop i).take n) { s with heap:=h' })->wpAny (model prog w) A (draw (.ref it) n) Q E s
 | 0,i,s,Q,hit,_,_,hQ=>by
  show wpAny _ _ (pure []) Q E s
  exact wpAny_pure (by simpa using hQ s.heap hit (Heap.SameBut.refl ..))
 | n + 1,i,s,Q,hit,ht,hle,hQ=>by
  have hlt:i < items.size:=by omega
  show wpAny _ _ (pyNext (.ref it) >>= _) Q E s
  refine wpAny_bind (wpAny_pyNext_list_item hit ht (x:=items[i]) (by simp [hlt]) fun h₁ hit₁ hs₁=>?_)
  refine wpAny_bind (wpAny_holding (vD hne n (i + 1) _ _ hit₁ (sD ht hs₁ hne) (by omega) fun h₂ hit₂ hs₂=>wpAny_pure ?_))
  have hd:items.toList.drop i = items[i] :: items.toList.drop (i + 1):=by simp [List.drop_eq_getElem_cons,hlt]
  have:=hQ h₂ (by rw [show i + (n + 1) = i + 1 + n by omega];exact hit₂) (hs₁.trans hs₂)
  rw [hd,List.take_succ_cons] at this
  exact this
theorem uN {t:Addr} {items:Array Value} {Q:List Value->Shared->Prop} (hh:A.handled = none) (ht:s.heap.IsList t items)
  (hQ:∀ h',Heap.ExtBut s.heap.objs.size s.heap h'->Q items.toList { s with heap:=h' }):wpAny (model prog w) A (unpackItems (.ref t) items.size none) Q E s:=by
 have hlt:t ≠ s.heap.objs.size:=by obtain ⟨o,ho,_⟩:=ht;exact Nat.ne_of_lt (Heap.lt_size ho)
 unfold unpackItems
 refine wpAny_bind ?_
 ·unfold notIterableAtAll
  refine wpAny_bind (wpAny_specialOf ht.typeIs slot_list_iter.lookup ?_)
  refine wpAny_pure ?_
  simp only [Bool.false_eq_true,if_false]
  refine wpAny_bind (wpAny_holding (wpAny_pyIter_list ht ?_))
  refine wpAny_bind (wpAny_holding (vD hlt items.size 0 _ _ ⟨_,Heap.get?_push_size _ rfl,rfl,rfl⟩ (kZ ht _) (by omega) fun h₁ hit₁ hs₁=>?_))
  have hall:List.take items.size (List.drop 0 items.toList) = items.toList:=by
   rw [List.drop_zero];exact List.take_of_length_le (by simp)
  rw [hall]
  rw [if_neg (by simp)]
  have ht₁:h₁.IsList t items:=sD (kZ ht _) hs₁ hlt
  refine wpAny_bind (wpAny_holding (wpAny_pyNext_list_end hh hit₁ ht₁ (by simp) fun h₂ he₂=>?_))
  simp only [Option.isSome_none,Bool.false_eq_true,if_false]
  refine wpAny_pure (hQ h₂ fun b o hb e=>he₂ b o hb (hs₁.extBut b o hb (Heap.get?_push_of_some _ e)))
theorem tN {env:Env} {elts:List Expr} {x1} {pos:Pos} {t:Addr} {items:Array Value} {Q:Unit->Shared->Prop} (hh:A.handled = none) (ht:s.heap.IsList t items)
  (hn:(assignEach elts env).length = items.size) (hstar:(assignEach elts env).findIdx? (·.1) = none)
  (h:∀ h',Heap.ExtBut s.heap.objs.size s.heap h'->wpAny (model prog w) A (assignInOrder ((assignEach elts env).map (·.2)) items.toList) Q E { s with heap:=h' }) :
  wpAny (model prog w) A (assign (.Tuple elts x1 pos) env (.ref t)) Q E s:=by
 rw [assign_Tuple]
 refine wpAny_bind (wpAny_standAt ?_)
 unfold unpack
 rw [hn,hstar]
 exact wpAny_bind (wpAny_holding (uN hh ht h))
end
section
variable {X:Cx} {pos:Pos} {e a b:Expr} {es:List Expr} {te ta tb:DE}
noncomputable def gU (n:Nat) (t:DGs):DG:=fun d ρ M Q=>match d with
 | .tup ds=>ds.length = n/\t ds ρ M Q
 | .ref a=>∃ ds,M a = some ds/\ds.length = n/\t ds ρ M Q
 | _=>False
theorem aJO {k:Nat} {t:DGs} {n:Nat} (hc:X.calm = true) (h:aBL X es t) (hn:(assignEach es X.env).length = n:=by rfl) (hst:(assignEach es X.env).findIdx? (·.1) = none:=by rfl):PDG X (.Tuple es k pos) (gU n t):=by
 intro pins s σ H v u Q I r ⟨d,ρ,M,Q',rd,re,hm,q,k'⟩
 cases d with
 | tup ds=>exact aLk hc h hn hst pins s σ H v u Q I r ⟨.tup ds,ρ,M,Q',rd,re,hm,q,k'⟩
 | ref p =>
  obtain ⟨ds,hp,hl,q⟩:=q
  obtain rfl:=bD rd
  cases r
  obtain ⟨us,hu,ru⟩:=hm.l p ds hp
  obtain ⟨z,its,nn,rv,hlen,e1⟩:=I.lstM hu
  have l1:=ru.length
  refine tN (I.ok.hd hc) ⟨_,e1,rfl,_,rfl⟩ (by rw [hn,List.size_toArray];omega) hst fun h' hx=>?_
  have I1:Inv X pins σ H { s with heap:=h' }:=I.kept (t':=s.toks) fun b o e=>hx b o (Nat.ne_of_lt (Heap.lt_size e)) e
  exact h pins _ σ H us _ Q I1 (by simpa using rv) ⟨ds,ρ,M,Q',ru,re,hm,q,k'⟩
 | _=>exact q.elim
noncomputable def isV:D->D->Option Bool
 | .non,.non=>some true
 | .bl a,.bl b=>some (a == b)
 | .non,.bl _=>some false
 | .bl _,.non=>some false
 | .int _,.non=>some false
 | .str _,.non=>some false
 | .tup _,.non=>some false
 | .ref _,.non=>some false
 | .fz _,.non=>some false
 | .tup _,.bl _=>some false
 | _,_=>none
noncomputable def aGo (g:Bool->Bool):D2:=fun x y M Q=>match isV x y with
 | some k=>Q (.bl (g k)) M
 | none=>False
theorem aFm {K:PySem.W.Frag} {H:Hp} {x y:V} {v u:Value} {dx dy:D} {k:Bool} (rx:cR x v) (ry:cR y u) (r1:Rep K H dx x) (r2:Rep K H dy y) (h:isV dx dy = some k):plainIs v u = true/\(v == u) = k:=by
 cases dx<;>cases dy<;>first
  | (cases (show (none:Option Bool) = some k from h))
  | (
    first
    | (rw [cY r1] at rx;cases rx)
    | (rw [cB r1] at rx;cases rx)
    | (rw [aS r1] at rx;obtain ⟨t,rfl⟩:=rx)
    | (rw [bA r1] at rx;obtain ⟨t,rfl⟩:=rx)
    | (rw [bD r1] at rx;cases rx)
    | (obtain ⟨a,us,rfl,_,_⟩:=cH r1;cases rx)
    | (obtain ⟨a,us,rfl,_,_⟩:=lS r1;cases rx)
    first
    | (rw [cY r2] at ry;cases ry)
    | (rw [cB r2] at ry;cases ry)
    simp only [isV,Option.some.injEq] at h
    subst h
    constructor<;>first | rfl | (rename_i b1 b2;cases b1<;>cases b2<;>rfl))
theorem wW:OpD X (compareOp .Is) (aGo id):=fun pins s σ H x y v u Q I rx ry ⟨dx,dy,M,Q',r1,r2,hm,q,k⟩=>by
 unfold aGo at q
 split at q
 ·rename_i b e
  obtain ⟨h1,h2⟩:=aFm rx ry r1 r2 e
  exact wpAny_is_plain h1 (by rw [h2];exact ⟨.bl b,H,I,rfl,k _ H ⟨_,M,dL,hm,.refl H,q⟩⟩)
 ·exact q.elim
theorem aCp:OpD X (compareOp .IsNot) (aGo not):=fun pins s σ H x y v u Q I rx ry ⟨dx,dy,M,Q',r1,r2,hm,q,k⟩=>by
 unfold aGo at q
 split at q
 ·rename_i b e
  obtain ⟨h1,h2⟩:=aFm rx ry r1 r2 e
  exact wpAny_isNot_plain h1 (by rw [h2];exact ⟨.bl (!b),H,I,rfl,k _ H ⟨_,M,dL,hm,.refl H,q⟩⟩)
 ·exact q.elim
end
end Dd
namespace Dd
open PySem PySem.Spec PyProof.Rows L2
section
variable {M:DM} {Q:DQ} {g:Bool->Bool} {ds:List D} {i:Int} {a:Addr} {α:Type} {x0 x1 x2 x3 x4 x5:α} {l:List α}
theorem ixT:mP (.tup ds) (.int i) M Q = (match atI ds i with | some d=>Q d M | none=>False):=rfl
theorem ixF:mP (.fz ds) (.int i) M Q = (match atI ds i with | some d=>Q d M | none=>False):=rfl
theorem aOG:mP (.ref a) (.int i) M Q = (∃ ds d,M a = some ds/\atI ds i = some d/\Q d M):=rfl
theorem aKH:atI [x0] 0 = some x0:=rfl
theorem aJ2:atI [x0] (-1) = some x0:=rfl
theorem aJQ:atI [x0,x1] 0 = some x0:=rfl
theorem aLT:atI [x0,x1] 1 = some x1:=rfl
theorem aLq:atI [x0,x1] (-1) = some x1:=rfl
theorem aJ4:atI [x0,x1,x2] 0 = some x0:=rfl
theorem aKJ:atI [x0,x1,x2] 1 = some x1:=rfl
theorem aJu:atI [x0,x1,x2] 2 = some x2:=rfl
theorem aK4:atI [x0,x1,x2] (-1) = some x2:=rfl
theorem aJI:atI [x0,x1,x2,x3] 0 = some x0:=rfl
theorem aKZ:atI [x0,x1,x2,x3] 1 = some x1:=rfl
theorem aJJ:atI [x0,x1,x2,x3] 2 = some x2:=rfl
theorem aLM:atI [x0,x1,x2,x3] 3 = some x3:=rfl
theorem aJ1:atI [x0,x1,x2,x3] (-1) = some x3:=rfl
theorem aLD:atI [x0,x1,x2,x3,x4] 0 = some x0:=rfl
theorem aLH:atI [x0,x1,x2,x3,x4] 1 = some x1:=rfl
theorem aMb:atI [x0,x1,x2,x3,x4] 2 = some x2:=rfl
theorem aJR:atI [x0,x1,x2,x3,x4] 3 = some x3:=rfl
theorem aJV:atI [x0,x1,x2,x3,x4] 4 = some x4:=rfl
theorem aJz:atI [x0,x1,x2,x3,x4] (-1) = some x4:=rfl
theorem aJA:atI [x0,x1,x2,x3,x4,x5] 0 = some x0:=rfl
theorem aKg:atI [x0,x1,x2,x3,x4,x5] 1 = some x1:=rfl
theorem aKw:atI [x0,x1,x2,x3,x4,x5] 2 = some x2:=rfl
theorem aLG:atI [x0,x1,x2,x3,x4,x5] 3 = some x3:=rfl
theorem aLe:atI [x0,x1,x2,x3,x4,x5] 4 = some x4:=rfl
theorem aL7:atI [x0,x1,x2,x3,x4,x5] 5 = some x5:=rfl
theorem aKy:atI [x0,x1,x2,x3,x4,x5] (-1) = some x5:=rfl
theorem aKQ {n:Nat} {t:DGs} {ρ:cV} {R:cV->DM->Prop}:gU n t (.tup ds) ρ M R = (ds.length = n/\t ds ρ M R):=rfl
theorem aLF {n:Nat} {t:DGs} {ρ:cV} {R:cV->DM->Prop}:gU n t (.ref a) ρ M R = (∃ ds,M a = some ds/\ds.length = n/\t ds ρ M R):=rfl
theorem cK {i j:Int}:dEq g (.int i) (.int j) M Q = Q (.bl (g (decide (i = j)))) M:=by
 show (bM 60 (.int i) = true/\bM 60 (.int j) = true/\Q (.bl (g (eqD (.int i) (.int j)))) M) = _
 have e:eqD (.int i) (.int j) = decide (i = j):=by show (i == j) = _;by_cases h:i = j<;>simp [h]
 rw [e]
 exact propext ⟨fun h=>h.2.2,fun h=>⟨rfl,rfl,h⟩⟩
theorem aK {x y:Str}:dEq g (.str x) (.str y) M Q = Q (.bl (g (decide (x = y)))) M:=by
 show (bM 60 (.str x) = true/\bM 60 (.str y) = true/\Q (.bl (g (eqD (.str x) (.str y)))) M) = _
 have e:eqD (.str x) (.str y) = decide (x = y):=by show (x == y) = _;by_cases h:x = y<;>simp [h]
 rw [e]
 exact propext ⟨fun h=>h.2.2,fun h=>⟨rfl,rfl,h⟩⟩
theorem le2 {α:Type} {x y:α}:([x,y]:List α).length<=1000:=by show (2:Nat)<=1000;decide
noncomputable def isK (K:PySem.W.Frag) (c:Value) (d:D) (M:DM) (Q:DQ):Prop:=(∃ T k,tyD d = some T/\PySem.W.kitOne K (.type T) c = some k/\Q (.bl k) M) ∨ (∃ (p:Addr) (xs:List D) (k:Bool),d = .ref p/\M p = some xs/\PySem.W.kitOne K (.type "list") c = some k/\Q (.bl k) M)
theorem aKc {K:PySem.W.Frag} {c:Value} {te:DE} {ρ:cV}:dIs K c te ρ M Q = te ρ M fun d M1=>isK K c d M1 Q:=rfl
end
end Dd
namespace L2
open PySem PySem.Spec PyProof.Rows
noncomputable def clo (cells:List (Str × Addr)):List (Str × NameKind)->List (Str × Addr)->List (Str × Addr)
 | [],cs=>cs
 | (n,k) :: r,cs=>clo cells r (if k == .free then (n,(cells.lookup n).getD 0) :: cs else cs)
noncomputable def aCD (env:Env) (x:Str × NameKind) (r:List (Str × Addr)):Sem (ForInStep (List (Str × Addr))) :=
 if (x.2 == NameKind.free) = true then do let a <- cellOf env x.1;pure (ForInStep.yield ((x.1,a) :: r)) else pure (ForInStep.yield r)
theorem aBT {env:Env}:∀ (names:List (Str × NameKind)) (cs:List (Str × Addr)),(∀ y ∈ names,y.2 = .free->∃ c,env.cells.lookup y.1 = some c)->(forIn names cs (aCD env):Sem (List (Str × Addr))) = pure (clo env.cells names cs)
 | [],cs,_=>rfl
 | (n,k) :: r,cs,hh=>by
  rw [List.forIn_cons]
  have ih:=fun cs=>aBT (env:=env) r cs fun z hz=>hh z (List.mem_cons_of_mem _ hz)
  cases hk:k == NameKind.free with
  | true =>
   have hf:k = .free:=by simpa using hk
   obtain ⟨c,hc⟩:=hh (n,k) List.mem_cons_self hf
   have hc:env.cells.lookup n = some c:=hc
   have e:aCD env (n,k) cs = pure (ForInStep.yield ((n,c) :: cs)):=by
    unfold aCD
    rw [if_pos hk]
    show (cellOf env n >>= _) = _
    unfold cellOf
    rw [hc]
    rfl
   rw [e]
   refine Eq.trans (b:=(forIn r ((n,c) :: cs) (aCD env):Sem (List (Str × Addr)))) rfl ?_
   rw [ih]
   show _ = pure (clo env.cells r (if k == .free then (n,(env.cells.lookup n).getD 0) :: cs else cs))
   rw [hk,if_pos rfl,hc]
   rfl
  | false =>
   have e:aCD env (n,k) cs = pure (ForInStep.yield cs):=by
    unfold aCD
    rw [if_neg (by rw [hk];decide)]
   rw [e]
   refine Eq.trans (b:=(forIn r cs (aCD env):Sem (List (Str × Addr)))) rfl ?_
   rw [ih]
   show _ = pure (clo env.cells r (if k == .free then (n,(env.cells.lookup n).getD 0) :: cs else cs))
   rw [hk,if_neg (by decide)]
theorem aBZ {scope:Scope} {env:Env} (h:∀ y ∈ scope.names,y.2 = .free->∃ c,env.cells.lookup y.1 = some c):closureFor scope env = pure (clo env.cells scope.names []):=by
 have e:closureFor scope env = ((forIn scope.names [] (aCD env):Sem (List (Str × Addr))) >>= fun cs=>pure cs):=rfl
 rw [e,aBT _ _ h]
 rfl
theorem aDX {cells:List (Str × Addr)} {x:Str} {c:Addr}:∀ {names:List (Str × NameKind)} {cs:List (Str × Addr)},(∀ y ∈ names,y.2 = .free->∃ c,cells.lookup y.1 = some c)->(cs.lookup x = some c->cells.lookup x = some c)->(clo cells names cs).lookup x = some c->cells.lookup x = some c
 | [],cs,_,h,e=>h e
 | (n,k) :: r,cs,hh,h,e=>by
  unfold clo at e
  refine aDX (fun y hy=>hh y (List.mem_cons_of_mem _ hy)) (fun e2=>?_) e
  cases hk:k == NameKind.free with
  | false=>rw [hk,if_neg (by decide)] at e2;exact h e2
  | true =>
   rw [hk,if_pos rfl] at e2
   have hk':k = .free:=by simpa using hk
   obtain ⟨c',hc'⟩:=hh (n,k) List.mem_cons_self hk'
   have hc':cells.lookup n = some c':=hc'
   rw [List.lookup_cons] at e2
   cases hx:x == n with
   | true =>
    rw [hx] at e2
    have:x = n:=by simpa using hx
    subst this
    rw [hc'] at e2 ⊢
    exact e2
   | false=>rw [hx] at e2;exact h e2
theorem aBP {cells:List (Str × Addr)} {x:Str}:∀ {names:List (Str × NameKind)} {cs:List (Str × Addr)},((x,NameKind.free) ∈ names ∨ ∃ c,cs.lookup x = some c)->∃ c,(clo cells names cs).lookup x = some c
 | [],cs,h=>by
  rcases h with h | h
  ·exact nomatch h
  ·exact h
 | (n,k) :: r,cs,h=>by
  unfold clo
  refine aBP ?_
  have ins:∀ {v:Addr},(∃ c,cs.lookup x = some c)->∃ c,((n,v) :: cs).lookup x = some c:=fun {v} ⟨c,e⟩=>by
   rw [List.lookup_cons]
   cases x == n with
   | true=>exact ⟨_,rfl⟩
   | false=>exact ⟨c,e⟩
  rcases h with h | h
  ·rcases List.mem_cons.mp h with e | e
   ·cases e
    refine .inr ⟨_,by rw [if_pos (by rfl),List.lookup_cons,beq_self_eq_true]⟩
   ·exact .inl e
  ·cases hk:k == NameKind.free with
   | true=>rw [if_pos rfl];exact .inr (ins h)
   | false=>rw [if_neg (by decide)];exact .inr h
theorem vK {g:Str->NameKind->NameKind} {x:Str}:∀ {names:List (Str × NameKind)},(names.map fun p=>(p.1,g p.1 p.2)).lookup x = (names.lookup x).map (g x)
 | []=>rfl
 | (n,k) :: r=>by
  rw [List.map_cons,List.lookup_cons,List.lookup_cons]
  cases hx:x == n with
  | true =>
   have:x = n:=by simpa using hx
   subst this
   rfl
  | false=>exact vK
theorem qD {scope:Scope} {env:Env} {x:Str}:(relabel scope env).names.lookup x = (scope.names.lookup x).map fun k=>if (k == NameKind.free && env.scope.kind == .function && env.kindOf x == some .cell) = true then .cell else k:=by
 rw [<- vK (g:=fun x k=>if (k == NameKind.free && env.scope.kind == .function && env.kindOf x == some .cell) = true then .cell else k)]
 unfold relabel
 dsimp only
 congr 1
 refine List.map_congr_left fun p _=>?_
 obtain ⟨n,k⟩:=p
 dsimp only
 split<;>rfl
noncomputable abbrev Cx.blk (X:Cx) (N':List Str) (scope:Scope) (C:Addr) (s:Shared) (H:Hp) (fp:List Addr) (pins:List (Addr × Obj)):Cx :=
 { X with N:=N',s₀:=s,H₀:=H,env:=compEnvC scope (clo X.env.cells scope.names []) C X.env,outer:=X.stack,ex:=fp,fn:=fun _=>false,pn:=X.pn ++ pins,xe:=fun _ _=>False }
structure fQ (X:Cx) (N':List Str) (fr:List (Option Nat)) (scope:Scope):Prop where
 kind:scope.kind = .function
 nocell:∀ y ∈ scope.names,y.2 ≠ .cell
 names:∀ y ∈ scope.names,y.2 = .local->scope.names.lookup y.1 = some .local
 free:∀ y ∈ scope.names,y.2 = .free->X.env.scope.names.lookup y.1 = some .cell
 len:fr.length = N'.length
 at':∀ (i j:Nat) (x:Str),N'[i]? = some x->fr[i]? = some (some j)->X.N[j]? = some x/\scope.names.lookup x = some .free
structure qP (oN:List Str) (osc:Scope) (N':List Str) (fr:List (Option Nat)) (scope:Scope):Prop where
 kind:scope.kind = .function
 nocell:∀ y ∈ scope.names,y.2 ≠ .cell
 names:∀ y ∈ scope.names,y.2 = .local->scope.names.lookup y.1 = some .local
 free:∀ y ∈ scope.names,y.2 = .free->osc.names.lookup y.1 = some .cell
 len:fr.length = N'.length
 at':∀ p ∈ N'.zip fr,∀ j ∈ p.2,oN[j]? = some p.1/\scope.names.lookup p.1 = some .free
theorem qP.scope {X:Cx} {oN:List Str} {osc:Scope} {N':List Str} {fr:List (Option Nat)} {scope:Scope} (B:qP oN osc N' fr scope) (hN:X.N = oN) (ho:X.env.scope = osc):fQ X N' fr scope:=by
 subst hN ho
 refine ⟨B.kind,B.nocell,B.names,B.free,B.len,fun i j x h1 h2=>?_⟩
 have:(x,some j) ∈ N'.zip fr:=by
  refine List.mem_of_getElem? (i:=i) ?_
  rw [List.getElem?_zip_eq_some]
  exact ⟨h1,h2⟩
 exact B.at' _ this j rfl
noncomputable def uW (fr:List (Option Nat)) (σ:St):St:=fr.map fun o=>match o with
 | some j=>(σ[j]?).join
 | none=>none
section
variable {X:Cx} {pins:List (Addr × Obj)} {σ:St} {H:Hp} {s:Shared} {N':List Str} {fr:List (Option Nat)} {scope:Scope} {C:Addr} {fp:List Addr}
theorem fQ.hasC (S:fQ X N' fr scope) (ok:X.Ok):∀ y ∈ scope.names,y.2 = .free->∃ c,X.env.cells.lookup y.1 = some c:=fun y hy e=>ok.has y.1 (.inl (S.free y hy e))
theorem fQ.sub (S:fQ X N' fr scope) (ok:X.Ok) {x:Str} {c:Addr} (h:(clo X.env.cells scope.names []).lookup x = some c):X.env.cells.lookup x = some c:=aDX (S.hasC ok) (fun z=>by cases z) h
theorem aD4 (S:fQ X N' fr scope) (I:Inv X pins σ H s) {h':Heap} {m:Str->Option Value} (k:∀ x c v,(clo X.env.cells scope.names []).lookup x = some c->s.heap.IsCell c v->h'.IsCell c v) :
  ∀ (i:Nat) (x:Str) (v:V),N'[i]? = some x->(uW fr σ)[i]? = some (some v)->∃ u,cR v u/\aNu (compEnvC scope (clo X.env.cells scope.names []) C X.env) h' m x u:=by
 intro i x v hx hv
 unfold uW at hv
 rw [List.getElem?_map] at hv
 cases hf:fr[i]? with
 | none=>rw [hf] at hv;cases hv
 | some o =>
  rw [hf] at hv
  cases o with
  | none=>cases hv
  | some j =>
   have hv:(σ[j]?).join = some v:=Option.some.inj hv
   obtain ⟨hN,hfree⟩:=S.at' i j x hx hf
   have hσ:σ[j]? = some (some v):=by
    cases e:σ[j]? with
    | none=>rw [e] at hv;cases hv
    | some o=>rw [e] at hv;rw [show o = some v from hv]
   have hmem:(x,NameKind.free) ∈ scope.names:=PySem.mem_of_lookup hfree
   have hcell:=S.free _ hmem rfl
   obtain ⟨mm,_,hl⟩:=I.loc
   obtain ⟨u,r,l⟩:=hl j x v hN hσ (.inr (.inl hcell))
   refine ⟨u,r,.inr ⟨.inl ?_,?_⟩⟩
   ·show (relabel scope X.env).names.lookup x = some .cell
    rw [qD,hfree]
    have h1:X.env.scope.kind = .function:=I.ok.kind
    have h2:X.env.kindOf x = some .cell:=hcell
    rw [h1,h2]
    rfl
   ·rcases l with ⟨k1,_⟩ | ⟨_,c,e,z⟩
    ·have:X.env.scope.names.lookup x = some .local:=k1
     rw [hcell] at this;cases this
    ·obtain ⟨c',e'⟩:=aBP (cells:=X.env.cells) (x:=x) (names:=scope.names) (cs:=[]) (.inl hmem)
     have e2:=S.sub I.ok e'
     rw [e] at e2
     cases e2
     exact ⟨c,e',k x c _ e' z⟩
theorem aHB (S:fQ X N' fr scope) (I:Inv X pins σ H s) (hf:∀ b ∈ fp,zJ X pins H b) (ho:∀ b ∈ fp,∃ o,s.heap.get? b = some o) {s1:Shared} {m:Str->Option Value} (hos:s1.os = s.os) (hg:s1.gens = s.gens) (hC:s.heap.objs.size<=C) (k:∀ b o,s.heap.get? b = some o->s1.heap.get? b = some o) (hn:s1.heap.Ns C m) :
  Inv (X.blk N' scope C s H fp pins) [] (uW fr σ) H s1:=by
 have lt:∀ b o,s.heap.get? b = some o->b ≠ C:=fun b o e=>Nat.ne_of_lt (Nat.lt_of_lt_of_le (Heap.lt_size e) hC)
 have stk:∀ b,b ≠ X.env.locals->b ∉ X.fs->b ∉ frs X.stack:=fun b h1 h2 hb=>(List.mem_cons.mp (I.stkSub b hb)).elim h1 h2
 have cellK:∀ x c v,(clo X.env.cells scope.names []).lookup x = some c->s.heap.IsCell c v->s1.heap.IsCell c v:=fun x c v _ ⟨o,e,d⟩=>⟨o,k c o e,d⟩
 refine ⟨⟨I.ok.mod,S.kind,I.ok.glob,I.ok.blt,hC,fun x y c h1 h2=>I.ok.inj x y c (S.sub I.ok h1) (S.sub I.ok h2),fun x hx=>?_,(fun x c z=>by cases z),I.ok.hd,I.ok.frames,.inl rfl,fun b hb=>?_,I.bs,Nat.le_trans I.ok.bsz I.sz,fun b o e hb=>?_,fun b hb=>?_,I.stack,I.stkFree⟩,
  hos,by rw [hg];exact I.bare,Un.kept k,⟨m,hn,fun i x v h1 h2 _=>aD4 S I cellK i x v h1 h2⟩,fun x c e=>?_,I.hok.fresh hC,fun x c e=>I.freeC x c (S.sub I.ok e),fun p hp=>?_,I.hok.kept k,?_⟩
 ·have hx:(relabel scope X.env).names.lookup x = some .cell ∨ (relabel scope X.env).names.lookup x = some .free:=hx
  rw [qD] at hx
  have hfree:(x,NameKind.free) ∈ scope.names:=by
   cases e:scope.names.lookup x with
   | none=>rw [e] at hx;rcases hx with z | z<;>cases z
   | some kk =>
    rw [e] at hx
    have hm:=PySem.mem_of_lookup e
    cases kk with
    | free=>exact hm
    | cell=>exact absurd rfl (S.nocell _ hm)
    | _=>rcases hx with z | z<;>cases z
  exact aBP (.inl hfree)
 ·obtain ⟨o,e⟩:=ho b hb
  obtain ⟨_,_,_,_,f4,_⟩:=hf b hb
  exact ⟨lt b o e,fun x c z=>f4 x c (S.sub I.ok z)⟩
 ·obtain ⟨_,_,_,f3,_⟩:=hf b hb
  rcases f3 with z | z
  ·exact I.ok.noex b o e z
  ·exact absurd (Nat.lt_of_lt_of_le (Heap.lt_size e) (Nat.le_trans I.ok.bsz z)) (Nat.lt_irrefl _)
 ·obtain ⟨_,f1,f2,_⟩:=hf b hb
  exact stk b f1 f2
 ·obtain ⟨v,z⟩:=I.cell x c (S.sub I.ok e)
  exact ⟨v,cellK x c v e z⟩
 ·rw [List.append_nil] at hp
  obtain ⟨e,n,ne,nf,d⟩:=I.pin p hp
  exact ⟨k p.1 p.2 e,n,lt p.1 p.2 e,stk p.1 ne nf,d⟩
 ·unfold uW
  rw [List.length_map]
  exact S.len
theorem aEs (S:fQ X N' fr scope) {s1:Shared} {H1:Hp} {σ1:St} {pl:List (Addr × Obj)} (I:Inv X pins σ H s) (J:Inv (X.blk N' scope C s H fp pins) pl σ1 H1 s1):Inv (X.blk N' scope C s H fp pins) pl (uW fr σ) H1 s1:=by
 obtain ⟨m,hn,_⟩:=id J.loc
 refine ⟨J.ok,J.os,J.bare,J.base,⟨m,hn,fun i x v h1 h2 _=>aD4 S I (fun x c v e z=>?_) i x v h1 h2⟩,J.cell,J.free,J.freeC,J.pin,J.hok,?_⟩
 ·obtain ⟨o,eo,d⟩:=z
  have e':=S.sub I.ok e
  have hfree:=I.freeC x c e'
  have nex:c ∉ fp:=fun hb=>(J.ok.exf c hb).2 x c e rfl
  by_cases hfs:c ∈ frs X.stack
  ·obtain ⟨sl,q⟩:=J.base.slot c o eo hfree hfs nex
   exact ⟨_,q,d⟩
  ·exact ⟨o,J.base.keep c o eo hfree hfs nex,d⟩
 ·unfold uW
  rw [List.length_map]
  exact S.len
end
section
variable {prog:Program} {w:World} {A:Around} {R:Result->Shared->Prop} {s:Shared}
theorem oP {elt target iter:Expr} {scope:Scope} {pos:Pos} {it acc:Value} {env:Env} (I:Nat->Shared->Prop)
  (turn:∀ n s,I n s->wpAny (model prog w) A (pyNext it) (fun r s₁=>match r with
   | none=>R (.ok .next) s₁
   | some v=>wpAny (model prog w) A (letOwnedTupleGo target it v) (fun _ s₁'=>wpAny (model prog w) A (assign target env v) (fun _ s₂=>wpAny (model prog w) A (eval elt env) (fun x s₃ =>
     wpAny (model prog w) A (call (.builtin "list.append") [acc,x]) (fun _ s₄=>∃ m,m < n/\I m s₄) (fun _ _=>False) s₃)
     (fun _ _=>False) s₂) (fun _ _=>False) s₁') (fun _ _=>False) s₁) (fun _ _=>False) s)
  (n:Nat) (h:I n s):codeAny (model prog w) A (.compLoop (.ListComp elt [⟨target,iter,[],0⟩] scope pos) 0 it acc env) R s:=by
 refine codeAny_loop rfl I (fun n s hI=>?_) n h
 show wpAny _ _ ((compTurn (.ListComp elt [⟨target,iter,[],0⟩] scope pos) 0 it acc env).onRaise (fun x=>do noteFrame x env;theTreesLotGoes x)) _ _ s
 refine wpAny_noted ?_
 rw [compTurn_list1]
 refine wpAny_bind (wpAny_standAt (wpAny_bind (wpAny_mono (turn n s hI) (fun r s₁ h₁=>?_) fun _ _ h'=>h'.elim)))
 cases r with
 | none=>exact wpAny_pure h₁
 | some v =>
  exact wpAny_bind (wpAny_mono h₁ (fun _ s₁' h₁'=>wpAny_bind (wpAny_mono h₁' (fun _ s₂ h₂=>wpAny_bind (wpAny_bind (wpAny_mono h₂ (fun x s₃ h₃=>wpAny_bind (wpAny_mono h₃
   (fun _ s₄ h₄=>wpAny_pure (wpAny_pure ⟨rfl,h₄⟩)) fun _ _ h'=>h'.elim)) fun _ _ h'=>h'.elim))) fun _ _ h'=>h'.elim)) fun _ _ h'=>h'.elim)
end
theorem Inv.track {X:Cx} {pins:List (Addr × Obj)} {σ:St} {H:Hp} {s:Shared} {d:Addr} {ys:List V} (I:Inv X pins σ H s) (hn:H d = none) (hs:X.s₀.heap.objs.size<=d) (hL:d ≠ X.env.locals) (hc:∀ x c,X.env.cells.lookup x = some c->c ≠ d) (hp:∀ p ∈ X.pn ++ pins,p.1 ≠ d) (new:fH X.prog X.w (upd H d (.lst ys)) s.heap d (.lst ys)):Inv X pins σ (upd H d (.lst ys)) s:=by
 have ne0:∀ b o,X.s₀.heap.get? b = some o->b ≠ d:=fun b o e=>Nat.ne_of_lt (Nat.lt_of_lt_of_le (Heap.lt_size e) hs)
 refine ⟨I.ok,I.os,I.bare,⟨I.base.keep,I.base.slot,fun b o e n hx=>?_,I.base.there,fun b xs e=>?_,fun b o u e=>?_,fun b ps e=>?_⟩,I.loc,I.cell,?_,fun x c e=>?_,fun p hpp=>?_,fun b u e=>?_,I.len⟩
 ·rw [bN (ne0 b o e)];exact I.base.free b o e n hx
 ·have:=I.base.tups b xs e
  rw [bN (bU this hn)];exact this
 ·have:=I.base.frzs b o u e
  rw [bN (bU this hn)];exact this
 ·obtain ⟨more,q⟩:=I.base.tbls b ps e
  exact ⟨more,by rw [bN (bU q hn)];exact q⟩
 ·rw [bN (Ne.symm hL)];exact I.free
 ·rw [bN (hc x c e)];exact I.freeC x c e
 ·obtain ⟨e,n,r⟩:=I.pin p hpp
  exact ⟨e,by rw [bN (hp p hpp)];exact n,r⟩
 ·by_cases hb:b = d
  ·subst hb;rw [dE] at e;cases e;exact new
  ·rw [bN hb] at e
   exact (I.hok b u e).stay (fun c v _ q=>q) (fun c q=>by rw [bN (bU q hn)];exact q) fun c xs q=>by rw [bN (bU q hn)];exact q
noncomputable def tLc (wi:TI) (fr:List (Option Nat)) (g:TG) (te:TE):TE:=fun σ H Q=>wi σ H fun J H1=>∃ W:Nat->Nat->List V->Hp->Prop,(∃ m,W 0 m [] H1)/\∀ i m ys H,W i m ys H ->
 (J.stop i H/\ys.length<=sizeLine/\∀ p,H p = none->Q (.ref p) (upd H p (.lst ys))) ∨
 (J.go i H/\ys.length<=sizeLine/\∀ x H',J.yld i H x H'->g x (uW fr σ) H' fun σ2 H2=>te σ2 H2 fun y H3=>∃ m',m' < m/\W (i + 1) m' (ys ++ [y]) H3)
structure CF (X:Cx) (pins:List (Addr × Obj)) (H:Hp) (C:Addr):Prop where
 none:H C = none
 loc:C ≠ X.env.locals
 sz:X.s₀.heap.objs.size<=C
 cel:∀ x c,X.env.cells.lookup x = some c->c ≠ C
 pin:∀ p ∈ X.pn ++ pins,p.1 ≠ C
theorem aDT {X:Cx} {elt iter tg:Expr} {scope:Scope} {pos pos2:Pos} {N':List Str} {fr:List (Option Nat)} {wi:TI} {g:TG} {te:TE} (S:fQ X N' fr scope) (hc:X.calm = true) (hi:PI X tg iter wi)
  (hg:∀ C s H fp pins,PG (X.blk N' scope C s H fp pins) tg g) (he:∀ C s H fp pins,PE (X.blk N' scope C s H fp pins) elt te) (hs:∀ x,foldedSetIterable iter X.env x = pure x)
  {pins:List (Addr × Obj)} {s:Shared} {σ:St} {H:Hp} {Q:VK} (I:Inv X pins σ H s) (h:tLc wi fr g te σ H Q) (use:Option (Value->Sem Unit)) (Post:Value->Shared->Prop)
  (fin:∀ D C H' s4 m,Inv X pins σ H' s4->s4.heap.Ns C m->CF X pins H' C->Q (.ref D) H'->compPost (model X.prog X.w) X.A X.xe use Post (.ref D) C (.ok .next) s4) :
  wpAny (model X.prog X.w) X.A (comprehension (.ListComp elt [⟨tg,iter,[],0⟩] scope pos) scope X.env pos2 (newList []) false (eval iter X.env) use) Post X.xe s:=by
 refine wpAny_comprehension_free (use:=use) rfl hs (aBZ (S.hasC I.ok)) S.kind S.names ?_
 show wpAny _ _ (eval iter X.env) _ _ s
 refine thn (hi pins s σ H _ I h) fun v s1 h1=>thn h1 fun itv s2 h2=>?_
 obtain ⟨it,fp,tn,J,H2,e,I2,T,st2,f2,W,⟨m0,w0⟩,turn⟩:=h2
 subst e
 refine wpAny_newObj_type (wpAny_newFunctionEnv S.nocell (by intro y hy;simp at hy) (fun h₁ hns₁ hsb₁=>?_) S.kind)
 dsimp only at hns₁ hsb₁ ⊢
 generalize hHp:s2.heap.push { cls:=.type "list",dict:=none,data:=.seq ([]:List Value).toArray } = HP at hns₁ hsb₁ ⊢
 have hC:HP.objs.size = s2.heap.objs.size + 1:=by rw [<- hHp,Heap.size_push]
 generalize hCe:HP.objs.size = C at hns₁ hsb₁ ⊢
 generalize hDe:s2.heap.objs.size = D at hC ⊢
 have hDC:D ≠ C:=by omega
 have hCle:s2.heap.objs.size<=C:=by omega
 have old:∀ b o,s2.heap.get? b = some o->h₁.get? b = some o:=fun b o e=>hsb₁.extBut b o (Nat.ne_of_lt (Nat.lt_of_lt_of_le (Heap.lt_size e) hCle)) (Heap.get?_push_of_some _ (hHp ▸ Heap.get?_push_of_some _ e))
 have hD1:h₁.PlainList D #[]:=⟨_,by
  refine hsb₁.extBut _ _ hDC (Heap.get?_push_of_some _ ?_)
  rw [<- hHp,<- hDe]
  exact Heap.get?_push_size _ rfl⟩
 have ltf:∀ b ∈ fp,b < D:=fun b hb=>by
  obtain ⟨o,e,_⟩:=T.obj _ _ st2 b hb
  exact Nat.lt_of_lt_of_eq (Heap.lt_size e) hDe
 have J0:=aHB (s1:={ s2 with heap:=h₁,toks:=s2.toks + ([]:List (Str × Value)).length }) S I2 f2 (fun b hb=>let ⟨o,e,_⟩:=T.obj _ _ st2 b hb;⟨o,e⟩) rfl rfl hCle old hns₁
 have ltC:∀ b,b < D->b ≠ C:=fun b hb=>Nat.ne_of_lt (Nat.lt_of_lt_of_le hb (by rw [<- hDe];exact hCle))
 have old2:∀ b o,s2.heap.get? b = some o->b < D:=fun b o e=>Nat.lt_of_lt_of_eq (Heap.lt_size e) hDe
 have neD:∀ b o,s2.heap.get? b = some o->b ≠ D:=fun b o e=>Nat.ne_of_lt (old2 b o e)
 have hDs:s2.heap.objs.size<=D:=Nat.le_of_eq hDe
 have hDfs:D ∉ frs X.stack:=fun hb=>by
  rcases List.mem_cons.mp (I2.stkSub D hb) with z | z
  ·have:=I2.lt
   rw [<- z] at this
   exact absurd (Nat.lt_of_lt_of_le this hDs) (Nat.lt_irrefl _)
  ·exact I2.nofs hDs z
 have cellD:∀ x c,X.env.cells.lookup x = some c->c ≠ D/\c ≠ C:=fun x c e=>by
  obtain ⟨v,o,ho,_⟩:=I2.cell x c e
  exact ⟨neD c o ho,ltC c (old2 c o ho)⟩
 have pinD:∀ p ∈ X.pn ++ pins,p.1 ≠ D/\p.1 ≠ C:=fun p hp=>by
  have e:=(I2.pin p hp).1
  exact ⟨neD _ _ e,ltC _ (old2 _ _ e)⟩
 have fpok:∀ (pl:List (Addr × Obj)) (H':Hp),(∀ b ∈ fp,H' b = none)->(∀ p ∈ pl,∀ b ∈ fp,p.1 ≠ b)->∀ b ∈ fp,zJ (X.blk N' scope C s2 H2 fp pins) pl H' b:=fun pl H' hn hpl b hb=>by
  refine ⟨hn b hb,ltC b (ltf b hb),J0.ok.exfs b hb,.inl hb,(J0.ok.exf b hb).2,fun p hp=>?_⟩
  rcases List.mem_append.mp hp with z | z
  ·exact (f2 b hb).2.2.2.2.2 p z
  ·exact hpl p z b hb
 have loop:codeAny (model X.prog X.w) X.A (.compLoop (.ListComp elt [⟨tg,iter,[],0⟩] scope pos) 0 (.ref it) (.ref D) (compEnvC scope (clo X.env.cells scope.names []) C X.env))
   (compPost (model X.prog X.w) X.A X.xe use Post (.ref D) C) { s2 with heap:=h₁,toks:=s2.toks + ([]:List (Str × Value)).length }:=by
  refine oP (fun n s'=>∃ i H' ys its,Inv (X.blk N' scope C s2 H2 fp pins) [] (uW fr σ) H' s'/\tn i s'.heap/\(∀ b ∈ fp,H' b = none)/\s'.heap.PlainList D its/\H' D = none/\cA ys its.toList/\W i n ys H') ?_ m0
   ⟨0,H2,[],#[],J0,T.keep _ _ _ st2 fun b hb o e=>old b o e,fun b hb=>(f2 b hb).1,hD1,I2.hok.fresh hDs,.nil,w0⟩
  rintro n s3 ⟨i,H3,ys,its,I3,st3,fr3,⟨nn,pl3⟩,hD3,rv3,w3⟩
  have I3p:Inv (X.blk N' scope C s2 H2 fp pins) [(D,{ cls:=.type "list",data:=.seq its nn })] (uW fr σ) H3 s3:=I3.pins_of fun p hp=>by
   have e:=List.mem_singleton.mp hp
   subst e
   exact ⟨pl3,hD3,hDC,hDfs,fun v z=>by cases z⟩
  have pf:∀ p ∈ [((D,{ cls:=.type "list",data:=.seq its nn }):Addr × Obj)],∀ b ∈ fp,p.1 ≠ b:=fun p hp b hb=>by
   have e:=List.mem_singleton.mp hp
   subst e
   exact (Nat.ne_of_lt (ltf b hb)).symm
  rcases turn i n ys H3 w3 with ⟨stop,hz,q⟩ | ⟨go,hz,step⟩
  ·refine thn (T.done (X.blk N' scope C s2 H2 fp pins) rfl rfl rfl hc i _ s3 _ H3 (fun _ _=>False) I3p (fpok _ H3 fr3 pf) st3 stop) fun r s4 ⟨hr,I4⟩=>?_
   subst hr
   obtain ⟨mm,hn4,_⟩:=id I4.loc
   have pD:=(I4.pin _ (List.mem_append_right _ List.mem_cons_self)).1
   have IX:Inv X pins σ H3 s4:=I2.call' I4.os I4.base I4.hok I4.bare fun b hb=>⟨(f2 b hb).2.2.2.1,(f2 b hb).2.1,(f2 b hb).2.2.2.2.1,(f2 b hb).2.2.2.2.2⟩
   have CL:C ≠ X.env.locals:=(Nat.ne_of_lt (Nat.lt_of_lt_of_le I2.lt hCle)).symm
   have DL:D ≠ X.env.locals:=(Nat.ne_of_lt (Nat.lt_of_lt_of_le I2.lt hDs)).symm
   refine fin D C (upd H3 D (.lst ys)) s4 mm (IX.track hD3 (Nat.le_trans I2.sz hDs) DL (fun x c e=>(cellD x c e).1) (fun p hp=>(pinD p hp).1) ⟨hz,its.toList,nn,rv3,pD⟩) hn4 ⟨by rw [bN (Ne.symm hDC)];exact I4.free,CL,Nat.le_trans I2.sz hCle,fun x c e=>(cellD x c e).2,fun p hp=>(pinD p hp).2⟩ (q D hD3)
  ·refine thn (T.item (X.blk N' scope C s2 H2 fp pins) rfl rfl rfl hc i _ s3 _ H3 (fun _ _=>False) I3p (fpok _ H3 fr3 pf) st3 go) fun r s4 ⟨u,hr,h4⟩=>?_
   subst hr
   refine thn h4 fun _ s5 ⟨x,H5,I5,r5,y5,st5,fr5⟩=>?_
   have I5':=I5.pinned (fpok _ H5 fr5 pf) (T.obj _ _ st5)
   refine thn (hg C s2 H2 fp pins _ s5 _ H5 x u _ I5' r5 (step x H5 y5)) fun _ s6 ⟨σ6,H6,I6,q6⟩=>?_
   refine thn (he C s2 H2 fp pins _ s6 σ6 H6 _ I6 q6) fun yv s7 ⟨y,H7,I7,ry,m',hm,w7⟩=>?_
   obtain ⟨pD,nD,_⟩:=I7.pin _ (List.mem_append_right _ (List.mem_append_left _ List.mem_cons_self))
   have lz:its.size<=sizeLine:=by
    have e:ys.length = its.size:=by rw [rv3.length];simp
    rw [<- e];exact hz
   refine wpAny_list_append_plain (hsz:=lz) ⟨nn,pD⟩ fun h8 pl8 sb8=>?_
   have I7a:Inv (X.blk N' scope C s2 H2 fp pins) [] σ6 H7 s7:=I7.pins_of fun p hp=>nomatch hp
   have I8:Inv (X.blk N' scope C s2 H2 fp pins) [] σ6 H7 { s7 with heap:=h8,toks:=s7.toks }:=I7a.turned (it:=D) (fun b o hb e=>sb8.extBut b o hb e) nD hDC (.inr hDs) (fun x c e=>(cellD x c (S.sub I2.ok e)).1) fun p hp=>by
    rw [List.append_nil] at hp
    exact (pinD p hp).1
   refine ⟨m',hm,i + 1,H7,ys ++ [y],its.push yv,aEs S I2 I8,?_,fun b hb=>?_,pl8,nD,?_,w7⟩
   ·refine T.keep _ _ _ st5 fun b hb o e=>sb8.extBut b o (Nat.ne_of_lt (ltf b hb)) (I7.pin (b,o) (List.mem_append_right _ (List.mem_append_right _ (nW hb e)))).1
   ·obtain ⟨o,e,d⟩:=T.obj _ _ st5 b hb
    exact (I7.pin (b,o) (List.mem_append_right _ (List.mem_append_right _ (nW hb e)))).2.1
   ·rw [Array.toList_push]
    exact rv3.append (.cons ry .nil)
 exact codeAny_compStart_list loop (T.self _ _ _ _ _ (T.keep _ _ _ st2 fun b hb o e=>old b o e) loop)
theorem aJd {X:Cx} {elt iter tg:Expr} {scope:Scope} {pos:Pos} {N':List Str} {fr:List (Option Nat)} {wi:TI} {g:TG} {te:TE} (S:fQ X N' fr scope) (hc:X.calm = true) (hi:PI X tg iter wi)
  (hg:∀ C s H fp pins,PG (X.blk N' scope C s H fp pins) tg g) (he:∀ C s H fp pins,PE (X.blk N' scope C s H fp pins) elt te) (hs:∀ x,foldedSetIterable iter X.env x = pure x:=by intro _;rfl) :
  PE X (.ListComp elt [⟨tg,iter,[],0⟩] scope pos) (tLc wi fr g te):=by
 intro pins s σ H Q I h
 rw [eval_ListComp]
 refine aDT S hc hi hg he hs I h none (EP X pins σ Q) fun D C H' s4 m J hn F q=>⟨m,hn,fun h' sb=>?_⟩
 exact ⟨.ref D,H',J.turned (t':=s4.toks) (it:=C) (fun b o hb e=>sb.extBut b o hb e) F.none F.loc (.inr F.sz) F.cel F.pin,rfl,q⟩
theorem aFU {X:Cx} {elt iter tg:Expr} {scope:Scope} {pos spos py:Pos} {N':List Str} {fr:List (Option Nat)} {wi:TI} {g:TG} {te:TE} {i:Nat} {y:Str} (S:fQ X N' fr scope) (hc:X.calm = true) (hN:X.N.Nodup) (hi:PI X tg iter wi)
  (hg:∀ C s H fp pins,PG (X.blk N' scope C s H fp pins) tg g) (he:∀ C s H fp pins,PE (X.blk N' scope C s H fp pins) elt te) (hy:X.N[i]? = some y) (hx:Loc X.env.scope y)
  (hsw:swapsWith (.ListComp elt [⟨tg,iter,[],0⟩] scope pos) (some (.Name y py)) spos.line X.env = pure true) (hf:X.fn y = true ∨ X.env.scope.names.lookup y = some .local) (hs:∀ x,foldedSetIterable iter X.env x = pure x) :
  PS X (.Assign [.Name y py] (.ListComp elt [⟨tg,iter,[],0⟩] scope pos) spos) (fun D σ H=>tLc wi fr g te σ H fun v H'=>D.nx (σ.set i (some v)) H'):=by
 intro pins s σ H D I h
 rw [exec_Assign_Name_used _ _ _ _ hsw]
 refine wpAny_bind (wpAny_standAt (wpAny_bind ?_))
 show wpAny _ X.A (do let _ <- comprehension (.ListComp elt [⟨tg,iter,[],0⟩] scope pos) scope X.env _ (newList []) false (eval iter X.env) (some (assign (.Name y py) X.env))) _ _ s
 refine wpAny_bind (wpAny_mono (aDT S hc hi hg he hs I h (some (assign (.Name y py) X.env)) (fun _ s'=>SP X pins D .next s') fun D' C H' s4 m J hn F q=>?_) (fun _ s' hq=>wpAny_pure (wpAny_pure hq)) fun _ _ e=>e)
 show wpAny _ X.A (assign (.Name y py) X.env (.ref D')) _ _ s4
 refine wpAny_assign_Name (aAI J hN hy hx (v:=.ref D') rfl (fun s5 I5 ⟨a,sb,ha⟩=>?_) hf)
 have hCa:C ≠ a:=by
  rcases ha with rfl | ha
  ·exact F.loc
  ·exact (F.cel y a ha).symm
 refine ⟨m,hn.sameBut sb hCa,fun h' sb'=>?_⟩
 exact ⟨_,H',I5.turned (t':=s5.toks) (it:=C) (fun b o hb e=>sb'.extBut b o hb e) F.none F.loc (.inr F.sz) F.cel F.pin,q⟩
end L2
namespace Dd
open PySem PySem.Spec PyProof.Rows L2
noncomputable def zM (fr:List (Option Nat)) (ρ:cV):cV:=fr.map fun o=>match o with
 | some j=>(ρ[j]?).join
 | none=>none
section
variable {K:PySem.W.Frag} {H:Hp} {ρ:cV} {σ:L2.St}
theorem aHb (re:iI K H ρ σ) (fr:List (Option Nat)):iI K H (zM fr ρ) (uW fr σ):=by
 refine ⟨by unfold zM uW;rw [List.length_map,List.length_map],fun i d e=>?_⟩
 unfold zM at e
 unfold uW
 rw [List.getElem?_map] at e ⊢
 cases hf:fr[i]? with
 | none=>rw [hf] at e;cases e
 | some o =>
  rw [hf] at e
  cases o with
  | none=>cases e
  | some j =>
   have e:(ρ[j]?).join = some d:=Option.some.inj e
   have e2:ρ[j]? = some (some d):=by
    cases h:ρ[j]? with
    | none=>rw [h] at e;cases e
    | some o=>rw [h] at e;rw [show o = some d from e]
   obtain ⟨v,hv,r⟩:=re.get j d e2
   refine ⟨v,?_,r⟩
   show some (σ[j]?).join = some (some v)
   rw [hv]
   rfl
end
noncomputable def aCf (at':Option Addr) (ds:List D) (ρ0:cV) (g:DG) (te:DE) (M:DM) (Q:DQ):Prop:=ds.length<=1000/\∃ Pv:Nat->List D->DM->Prop,Pv 0 [] M /\
 (∀ i ys M,i<=ds.length->Pv i ys M->∀ a,at' = some a->M a = some ds) /\
 (∀ i d ys M,ds[i]? = some d->Pv i ys M->g d ρ0 M fun ρ2 M2=>te ρ2 M2 fun y M3=>Pv (i + 1) (ys ++ [y]) M3) /\
 ∀ ys M,ys.length = ds.length->Pv ds.length ys M->∀ p:Addr,M p = none->Q (.ref p) (bC M p ys)
noncomputable def aGp (tl:DE) (fr:List (Option Nat)) (g:DG) (te:DE):DE:=fun ρ M Q=>tl ρ M fun d M1=>match d with
 | .fz ds=>aCf none ds (zM fr ρ) g te M1 Q
 | .ref a=>∃ ds,M1 a = some ds/\aCf (some a) ds (zM fr ρ) g te M1 Q
 | _=>False
noncomputable def aLd (tl:DE) (fr:List (Option Nat)) (g:DG) (te:DE):DE:=fun ρ M Q=>tl ρ M fun d M1=>match d with
 | .tup ds=>aCf none ds (zM fr ρ) g te M1 Q
 | _=>False
section
variable {X:Cx} {g:DG} {te:DE}
theorem yB {K:PySem.W.Frag} {a':Option Addr} {ds:List D} {fr:List (Option Nat)} {σ:L2.St} {ρ:cV} {M:DM} {H0 H:Hp} {J:It} {Q:VK} {Q':DQ} (ex0:Ext H0 H) (re:iI K H ρ σ) (hm:cO K M H) (h:aCf a' ds (zM fr ρ) g te M Q') (kq:∀ v H',LQ K H0 Q' v H'->Q v H')
  (seq:∀ H',Ext H H'->(∀ M',cO K M' H'->(∀ a,a' = some a->M' a = some ds)->∃ xs,bY K H' ds xs/\(∀ i,xs.length<=i->J.stop i H')/\(∀ i,i < xs.length->J.go i H')/\∀ i x H2,J.yld i H' x H2->H2 = H'/\xs[i]? = some x)) :
  ∃ W:Nat->Nat->List V->Hp->Prop,(∃ m,W 0 m [] H)/\∀ i m ys H,W i m ys H ->
   (J.stop i H/\ys.length<=sizeLine/\∀ p,H p = none->Q (.ref p) (upd H p (.lst ys))) ∨
   (J.go i H/\ys.length<=sizeLine/\∀ x H',J.yld i H x H'->aAX K g x (uW fr σ) H' fun σ2 H2=>low K te σ2 H2 fun y H3=>∃ m',m' < m/\W (i + 1) m' (ys ++ [y]) H3):=by
 obtain ⟨hl,Pv,p0,hat,step,done⟩:=h
 refine ⟨fun i m ysV H'=>∃ ys M',bY K H' ys ysV/\cO K M' H'/\Ext H H'/\m = ds.length - i/\i<=ds.length/\ys.length = i/\Pv i ys M',⟨ds.length,[],M,cP,hm,.refl H,rfl,Nat.zero_le _,rfl,p0⟩,?_⟩
 rintro i m ysV H1 ⟨ys,M1,ry,hm1,e1,rfl,hi,ly,w1⟩
 obtain ⟨xs,rs,hst,hgo,hy⟩:=seq H1 e1 M1 hm1 (hat i ys M1 hi w1)
 have hll:=rs.length
 have lz:ysV.length<=sizeLine:=by rw [<- ry.length];exact Nat.le_of_lt (eX (by omega))
 by_cases hlt:i < ds.length
 ·refine .inr ⟨hgo i (by omega),lz,fun x H' y=>?_⟩
  obtain ⟨rfl,hx⟩:=hy i x H' y
  obtain ⟨d,hd,rd⟩:=rs.getV hx
  refine ⟨d,zM fr ρ,M1,_,rd,aHb (re.ext e1) fr,hm1,step i d ys M1 hd w1,fun σ2 H2 ⟨ρ2,M2,re2,hm2,e2,q2⟩=>?_⟩
  refine ⟨ρ2,M2,_,re2,hm2,q2,fun v H3 ⟨dy,M3,rdy,hm3,e3,q3⟩=>?_⟩
  exact ⟨ds.length - (i + 1),by omega,ys ++ [dy],M3,(ry.ext (e2.trans e3)).append (bH rdy cP),hm3,(e1.trans e2).trans e3,rfl,hlt,by rw [List.length_append,ly];rfl,q3⟩
 ·have e:i = ds.length:=by omega
  subst e
  exact .inl ⟨hst _ (by omega),lz,fun p hp=>kq _ _ ⟨.ref p,_,iO,hm1.lnew hp ry,(ex0.trans e1).trans (Ext.new hp _),done ys M1 ly w1 p (hm1.fresh hp)⟩⟩
variable {elt iter tg:Expr} {scope:Scope} {pos:Pos} {N':List Str} {fr:List (Option Nat)} {tl:DE} {ta:DA} {oN:List Str} {osc:Scope}
theorem aJS (B:qP oN osc N' fr scope) (hc:X.calm = true) (hi:PDE X iter tl) (hg:∀ C s H fp pins,PG (X.blk N' scope C s H fp pins) tg (aAX X.K g)) (he:∀ C s H fp pins,PE (X.blk N' scope C s H fp pins) elt (low X.K te)) (hN:X.N = oN:=by rfl) (ho:X.env.scope = osc:=by rfl) (hs:∀ x,foldedSetIterable iter X.env x = pure x:=by intro _;rfl) :
  PDE X (.ListComp elt [⟨tg,iter,[],0⟩] scope pos) (aGp tl fr g te) :=
 cJ (aJd (B.scope hN ho) hc (aAL hi) hg he hs) fun σ H Q ⟨ρ,M,Q',re,hm,q,k⟩=>⟨ρ,M,_,re,hm,q,fun v H1 ⟨d,M1,rd,hm1,ex,q1⟩=>by
  cases d with
  | fz ds =>
   obtain ⟨a,xs,rfl,sq,rs⟩:=lS rd
   exact ⟨a,rfl,⟨xs,sq.sq⟩,yB ex (re.ext ex) hm1 q1 k fun H' e' M' hm' _=>⟨xs,rs.ext e',fun i hi=>⟨xs,(jG e' sq).sq,hi⟩,fun i hi=>⟨xs,xs[i],(jG e' sq).sq,by simp [hi]⟩,fun i x H2 y=>⟨y.1,y.2 xs (jG e' sq).sq⟩⟩⟩
  | ref a =>
   obtain ⟨ds,ha,q1⟩:=q1
   obtain rfl:=bD rd
   obtain ⟨xs,hx,rs⟩:=hm1.l a ds ha
   refine ⟨a,rfl,⟨xs,.of hx⟩,yB ex (re.ext ex) hm1 q1 k fun H' e' M' hm' hat=>?_⟩
   obtain ⟨ys,hy,rs'⟩:=hm'.l a ds (hat a rfl)
   exact ⟨ys,rs',fun i hi=>⟨ys,.of hy,hi⟩,fun i hi=>⟨ys,ys[i],.of hy,by simp [hi]⟩,fun i x H2 y=>⟨y.1,y.2 ys (.of hy)⟩⟩
  | _=>exact q1.elim⟩
theorem aLP (B:qP oN osc N' fr scope) (hc:X.calm = true) (hi:PDE X iter tl) (hg:∀ C s H fp pins,PG (X.blk N' scope C s H fp pins) tg (aAX X.K g)) (he:∀ C s H fp pins,PE (X.blk N' scope C s H fp pins) elt (low X.K te)) (hN:X.N = oN:=by rfl) (ho:X.env.scope = osc:=by rfl) (hs:∀ x,foldedSetIterable iter X.env x = pure x:=by intro _;rfl) :
  PDE X (.ListComp elt [⟨tg,iter,[],0⟩] scope pos) (aLd tl fr g te) :=
 cJ (aJd (B.scope hN ho) hc (aE4 hi) hg he hs) fun σ H Q ⟨ρ,M,Q',re,hm,q,k⟩=>⟨ρ,M,_,re,hm,q,fun v H1 ⟨d,M1,rd,hm1,ex,q1⟩=>by
  cases d with
  | tup ds =>
   obtain ⟨a,xs,rfl,sq,rs⟩:=cH rd
   exact ⟨a,rfl,⟨xs,sq⟩,yB ex (re.ext ex) hm1 q1 k fun H' e' M' hm' _=>⟨xs,rs.ext e',fun i hi=>⟨xs,nJ e' sq,hi⟩,fun i hi=>⟨xs,xs[i],nJ e' sq,by simp [hi]⟩,fun i x H2 y=>⟨y.1,y.2 xs (nJ e' sq)⟩⟩⟩
  | _=>exact q1.elim⟩
noncomputable def aDA (i:Nat) (t:DE):DS:=fun E ρ M=>t ρ M fun x M1=>E.nx (ρ.set i (some x)) M1
theorem aEf {i:Nat} {y:Str} {spos py:Pos} (B:qP oN osc N' fr scope) (hc:X.calm = true) (hNd:X.N.Nodup) (hi:PDE X iter tl) (hg:∀ C s H fp pins,PG (X.blk N' scope C s H fp pins) tg (aAX X.K g)) (he:∀ C s H fp pins,PE (X.blk N' scope C s H fp pins) elt (low X.K te)) (hy:X.N[i]? = some y:=by rfl) (hx:Loc X.env.scope y:=by first | exact Or.inl rfl | exact Or.inr rfl)
  (hsw:swapsWith (.ListComp elt [⟨tg,iter,[],0⟩] scope pos) (some (.Name y py)) spos.line X.env = pure true:=by rfl) (hf:X.fn y = true ∨ X.env.scope.names.lookup y = some .local:=by first | exact .inl rfl | exact .inr rfl | assumption) (hN:X.N = oN:=by rfl) (ho:X.env.scope = osc:=by rfl) (hs:∀ x,foldedSetIterable iter X.env x = pure x:=by intro _;rfl) :
  PDS X (.Assign [.Name y py] (.ListComp elt [⟨tg,iter,[],0⟩] scope pos) spos) (aDA i (aGp tl fr g te)) :=
 iQ (aFU (i:=i) (B.scope hN ho) hc hNd (aAL hi) hg he hy hx hsw hf hs) fun E σ H ⟨ρ,M,D,re,hm,q,kk⟩=>⟨ρ,M,_,re,hm,q,fun v H1 ⟨d,M1,rd,hm1,ex,q1⟩=>by
  have k:∀ v H',LQ X.K H (fun x M1=>D.nx (ρ.set i (some x)) M1) v H'->E.nx (σ.set i (some v)) H':=fun v H' ⟨d,M',rd',hm',e',q'⟩=>kk.nx _ H' ⟨_,M',(re.ext e').set rd' i,hm',e',q'⟩
  cases d with
  | fz ds =>
   obtain ⟨a,xs,rfl,sq,rs⟩:=lS rd
   exact ⟨a,rfl,⟨xs,sq.sq⟩,yB ex (re.ext ex) hm1 q1 k fun H' e' M' hm' _=>⟨xs,rs.ext e',fun i hi=>⟨xs,(jG e' sq).sq,hi⟩,fun i hi=>⟨xs,xs[i],(jG e' sq).sq,by simp [hi]⟩,fun i x H2 y=>⟨y.1,y.2 xs (jG e' sq).sq⟩⟩⟩
  | ref a =>
   obtain ⟨ds,ha,q1⟩:=q1
   obtain rfl:=bD rd
   obtain ⟨xs,hx,rs⟩:=hm1.l a ds ha
   refine ⟨a,rfl,⟨xs,.of hx⟩,yB ex (re.ext ex) hm1 q1 k fun H' e' M' hm' hat=>?_⟩
   obtain ⟨ys,hy,rs'⟩:=hm'.l a ds (hat a rfl)
   exact ⟨ys,rs',fun i hi=>⟨ys,.of hy,hi⟩,fun i hi=>⟨ys,ys[i],.of hy,by simp [hi]⟩,fun i x H2 y=>⟨y.1,y.2 ys (.of hy)⟩⟩
  | _=>exact q1.elim⟩
end
end Dd
namespace L2
open PySem PySem.Spec PyProof.Rows
variable {X:Cx}
theorem xT (hc:X.calm = true):lA X (.builtin "all") (fun xs H Q=>∃ (p:Addr) (bs:List Bool),xs = [.ref p]/\SqL X.K H p (bs.map V.bl)/\Q (.bl (bs.all id)) H):=by
 intro pins s σ H xs us Q I r h
 obtain ⟨p,bs,rfl,hq,q⟩:=h
 obtain ⟨u,rfl,rx⟩:=tK r
 cases rx
 obtain ⟨its,r',pl,hz⟩:=I.list hq
 have hl:=pl.isList
 have hlt:p < s.heap.objs.size:=by obtain ⟨_,e,_⟩:=hl;exact Heap.lt_size e
 have hg:∀ (i:Nat) (v:Value),its.toArray[i]? = some v->∃ b,bs[i]? = some b/\v = Value.bool b:=fun i v e=>by
  obtain ⟨x,hx,rv⟩:∃ x,(bs.map V.bl)[i]? = some x/\cR x v:=by
   have:=r'.length
   have hi:i < its.length:=by
    have:=(Array.getElem?_eq_some_iff.mp e).1
    simpa using this
   have hi':i < (bs.map V.bl).length:=by omega
   obtain ⟨w,hw,rw'⟩:=r'.get (i:=i) (List.getElem?_eq_getElem hi')
   have:w = v:=by
    have e':its[i]? = some v:=by simpa using e
    rw [e'] at hw;exact (Option.some.inj hw).symm
   subst this
   exact ⟨_,List.getElem?_eq_getElem hi',rw'⟩
  rw [List.getElem?_map] at hx
  cases hb:bs[i]? with
  | none=>rw [hb] at hx;cases hx
  | some b=>rw [hb] at hx;cases hx;cases rv;exact ⟨b,rfl,rfl⟩
 refine call_all_walk (wpAny_pyIter_list hl ?_)
 refine ⟨s.heap.objs.size,[s.heap.objs.size,p],[s.heap.objs.size],its.toArray.size,_,_,fun i=>(bs[i]?).getD true,rfl,Walks.list (A:=X.A.in1) (I.ok.hd hc) _ p (Nat.ne_of_lt hlt) its.toArray,
  ⟨⟨_,Heap.get?_push_size _ rfl,rfl,rfl⟩,hl.push _⟩,fun i v s' Q' E' hP hQ=>?_,fun h' tk hk=>?_⟩
 ·obtain ⟨b,e,rfl⟩:=hg i v hP
  simp only [e,Option.getD_some] at hQ
  exact wpAny_truthy_bool hQ
 ·have e:((List.range its.toArray.size).all fun i=>(bs[i]?).getD true) = bs.all id:=by
   have l1:=r'.length
   rw [List.length_map] at l1
   rw [List.size_toArray,<- l1];exact LSm.range_all bs
  rw [e]
  exact ⟨.bl (bs.all id),H,I.kept (t':=tk) (LSm.kept_iter hk),rfl,q⟩
end L2
namespace Dd
open PySem PySem.Spec PyProof.Rows L2
variable {X:Cx}
noncomputable def aMA:DSp:=fun ds M Q=>match ds with
 | [.ref a]=>∃ bs:List Bool,M a = some (bs.map D.bl)/\Q (.bl (bs.all id)) M
 | _=>False
theorem aB0 {K:PySem.W.Frag} {H:Hp}:∀ {bs:List Bool} {vs:List V},bY K H (bs.map D.bl) vs->vs = bs.map V.bl
 | [],_,h=>bS h
 | b :: bs,_,h=>by
  obtain ⟨v,r,rfl,hv,hr⟩:=aU h
  rw [cB hv,aB0 hr]
  rfl
theorem aCU (hc:X.calm = true):gM X (.builtin "all") aMA:=gM.of (xT hc) fun vs H M ds Q rs hm q=>by
 rcases ds with _ | ⟨d,_ | ⟨d2,r⟩⟩
 ·exact q.elim
 ·cases d with
  | ref a =>
   obtain ⟨v,rfl,rv⟩:=eV rs
   obtain rfl:=bD rv
   obtain ⟨bs,ha,q⟩:=q
   obtain ⟨us,hu,ru⟩:=hm.l a _ ha
   obtain rfl:=aB0 ru
   exact ⟨a,bs,rfl,.of hu,_,M,dL,hm,.refl H,q⟩
  | _=>exact q.elim
 ·cases d<;>exact q.elim
section
variable {g:DG} {te:DE} {tb:DS} {Q:DQ} {ρ0:cV}
noncomputable def itT (d:D) (ρ0:cV) (g:DG) (te:DE) (M:DM) (Q:DQ):Prop:=match d with
 | .tup ds=>aCf none ds ρ0 g te M Q
 | _=>False
theorem aH7 {tl:DE} {fr:List (Option Nat)} {ρ:cV} {M:DM}:aLd tl fr g te ρ M Q = tl ρ M fun d M1=>itT d (zM fr ρ) g te M1 Q:=rfl
theorem aIT {ds:List D} {M:DM}:itT (.tup ds) ρ0 g te M Q = aCf none ds ρ0 g te M Q:=rfl
noncomputable def foT (d:D) (g:DG) (tb:DS) (E:iV) (ρ:cV) (M:DM):Prop:=match d with
 | .tup ds=>dIt none ds g tb E ρ M
 | _=>False
theorem aFX {tl:DE} {E:iV} {ρ:cV} {M:DM}:aCc tl g tb E ρ M = tl ρ M fun d M1=>foT d g tb E ρ M1:=rfl
theorem aIK {ds:List D} {E:iV} {ρ:cV} {M:DM}:foT (.tup ds) g tb E ρ M = dIt none ds g tb E ρ M:=rfl
end
section
variable {e:Expr} {te:DE} {pos:Pos}
end
end Dd
namespace Dd
open PySem PySem.Spec PyProof.Rows L2
section
variable {X:Cx} {e:Expr} {te:DE} {pos p2:Pos} {lo hi:Option Expr} {tl th:DO}
noncomputable def aMm (g:Bool->Bool):D2:=fun x y M Q=>match x,y with
 | .int k,.ref a=>∃ ns:List Int,M a = some (ns.map D.int)/\Q (.bl (g (ns.any (· == k)))) M
 | .str k,.ref a=>∃ ns:List Str,M a = some (ns.map D.str)/\Q (.bl (g (ns.any (· == k)))) M
 | _,_=>False
theorem rT {K:PySem.W.Frag} {H:Hp}:∀ {ns:List Int} {vs:List V} {its:List Value},bY K H (ns.map D.int) vs->cA vs its->IntsAre its ns
 | [],_,_,h,r=>by rw [bS h] at r;cases r;exact .nil
 | n :: ns,_,_,h,r=>by
  obtain ⟨v,rr,rfl,hv,hr⟩:=aU h
  rw [aS hv] at r
  cases r with
  | cons q w =>
   obtain ⟨t,rfl⟩:=q
   exact .cons _ _ (rT hr w)
theorem qZ {K:PySem.W.Frag} {H:Hp}:∀ {ns:List Str} {vs:List V} {its:List Value},bY K H (ns.map D.str) vs->cA vs its->StrsAre its ns
 | [],_,_,h,r=>by rw [bS h] at r;cases r;exact .nil
 | n :: ns,_,_,h,r=>by
  obtain ⟨v,rr,rfl,hv,hr⟩:=aU h
  rw [bA hv] at r
  cases r with
  | cons q w =>
   obtain ⟨t,rfl⟩:=q
   exact .cons _ _ (qZ hr w)
theorem vT:OpD X (compareOp .In) (aMm id):=fun pins s σ H x y v u Q I rx ry ⟨dx,dy,M,Q',r1,r2,hm,q,k⟩=>by
 cases dx with
 | int z =>
  cases dy with
  | ref a =>
   obtain ⟨ns,ha,q⟩:=q
   obtain rfl:=aS r1
   obtain rfl:=bD r2
   obtain ⟨t,rfl⟩:=rx
   cases ry
   obtain ⟨us,hu,ru⟩:=hm.l a _ ha
   obtain ⟨zz,its,nn,rv,hlen,e1⟩:=I.lstM hu
   exact in_list_ints ⟨_,e1,rfl,_,rfl⟩ (rT ru rv) ⟨.bl _,H,I,rfl,k _ H ⟨_,M,dL,hm,.refl H,q⟩⟩
  | _=>exact q.elim
 | str z =>
  cases dy with
  | ref a =>
   obtain ⟨ns,ha,q⟩:=q
   obtain rfl:=bA r1
   obtain rfl:=bD r2
   obtain ⟨t,rfl⟩:=rx
   cases ry
   obtain ⟨us,hu,ru⟩:=hm.l a _ ha
   obtain ⟨zz,its,nn,rv,hlen,e1⟩:=I.lstM hu
   exact in_list_strs ⟨_,e1,rfl,_,rfl⟩ (qZ ru rv) ⟨.bl _,H,I,rfl,k _ H ⟨_,M,dL,hm,.refl H,q⟩⟩
  | _=>exact q.elim
 | _=>cases dy<;>exact q.elim
end
end Dd
namespace L2
open PySem PySem.Spec PyProof.Rows
open PySem.AutoSeq1 (wpAny_loadPart')
section
variable {X:Cx} {a n:Expr} {ta:TE} {tn:TA} {pos:Pos}
end
end L2
namespace Dd
open PySem PySem.Spec PyProof.Rows L2
section
variable {X:Cx} {a n:Expr} {ta:DE} {tn:DA} {pos p pos':Pos}
end
end Dd
namespace Dd
open PySem PySem.Spec PyProof.Rows L2
section
variable {X:Cx} {a b c e o:Expr} {es:List Expr} {ta tb tc te to:DE} {pos:Pos}
noncomputable def aAM (r r':D2) (ta tb tc:DE):DE:=fun ρ M Q=>ta ρ M fun x M1=>tb ρ M1 fun y M2=>r x y M2 fun z M3=>match z with
 | .bl k=>if k = true then tc ρ M3 fun w M4=>r' y w M4 Q else Q (.bl false) M3
 | _=>False
theorem aEM {r r':D2} {σ:L2.St} {H:Hp} {Q:VK} (h:low X.K (aAM r r' ta tb tc) σ H Q) :
  aFp (fun x y H Q=>∃ dx dy M Q',Rep X.K H dx x/\Rep X.K H dy y/\cO X.K M H/\r dx dy M Q'/\∀ v H',LQ X.K H Q' v H'->Q v H') (fun x y H Q=>∃ dx dy M Q',Rep X.K H dx x/\Rep X.K H dy y/\cO X.K M H/\r' dx dy M Q'/\∀ v H',LQ X.K H Q' v H'->Q v H') (low X.K ta) (low X.K tb) (low X.K tc) σ H Q:=by
 obtain ⟨ρ,M,Q',re,hm,q,k⟩:=h
 refine ⟨ρ,M,_,re,hm,q,fun x H1 ⟨dx,M1,rx,hm1,e1,q1⟩=>⟨ρ,M1,_,re.ext e1,hm1,q1,fun y H2 ⟨dy,M2,ry,hm2,e2,q2⟩=>⟨dx,dy,M2,_,rx.ext e2,ry,hm2,q2,fun z H3 ⟨dz,M3,rz,hm3,e3,q3⟩=>?_⟩⟩⟩
 cases dz with
 | bl k' =>
  refine ⟨k',cB rz,?_⟩
  cases k' with
  | false=>exact k _ H3 ⟨.bl false,M3,dL,hm3,(e1.trans e2).trans e3,q3⟩
  | true=>exact ⟨ρ,M3,_,((re.ext e1).ext e2).ext e3,hm3,q3,fun w H4 ⟨dw,M4,rw',hm4,e4,q4⟩=>⟨dy,dw,M4,Q',(ry.ext e3).ext e4,rw',hm4,q4,fun v H' zz=>k v H' (zz.back (((e1.trans e2).trans e3).trans e4))⟩⟩
 | _=>exact q3.elim
theorem aGE {op op':CmpOp} {r r':D2} (ho:OpD X (compareOp op) r) (ho':OpD X (compareOp op') r') (ha:PDE X a ta) (hb:PDE X b tb) (hc:PDE X c tc) (hm:lastMarks [op,op'] [b,c] = false:=by with_unfolding_all rfl):PDE X (.Compare a [op,op'] [b,c] pos) (aAM r r' ta tb tc) :=
 cJ (aGA ho ho' ha hb hc hm) fun σ H Q h=>aEM h
noncomputable def aFA (g:Int->Int->Int):DSp:=fun ds M Q=>match ds with
 | [.int i,.int j]=>Q (.int (g i j)) M
 | _=>False
theorem aIC {g:Int->Int->Int} {fv:Value} (h:lA X fv (fun xs H Q=>∃ i j,xs = [.int i,.int j]/\Q (.int (g i j)) H)):gM X fv (aFA g):=gM.of h fun vs H M ds Q rs hm q=>by
 rcases ds with _ | ⟨d,_ | ⟨d2,_ | ⟨d3,r⟩⟩⟩
 ·exact q.elim
 ·cases d<;>exact q.elim
 ·cases d with
  | int i =>
   cases d2 with
   | int j =>
    obtain ⟨v,v2,rfl,rv,rv2⟩:=aLr rs
    obtain rfl:=aS rv
    obtain rfl:=aS rv2
    exact ⟨i,j,rfl,_,M,bT,hm,.refl H,q⟩
   | _=>exact q.elim
  | _=>exact q.elim
 ·cases d<;>first | exact q.elim | (cases d2<;>exact q.elim)
noncomputable def aMV:DSp:=aFA fun i j=>if j < i then j else i
theorem aJ6 (hc:X.calm = true):gM X (.builtin "min") aMV:=aIC (aEW hc)
end
mutual
theorem aCJ:∀ (n:Nat) (d:D),bM n d = true->eqD d d = true
 | n,.non,_=>rfl
 | n,.bl b,_=>by simp [eqD]
 | n,.int i,_=>by simp [eqD]
 | n,.str x,_=>by simp [eqD]
 | n,.ref a,h=>by cases n<;>exact absurd h Bool.false_ne_true
 | n,.fz a,h=>by cases n<;>exact absurd h Bool.false_ne_true
 | 0,.tup xs,h=>absurd h Bool.false_ne_true
 | n + 1,.tup xs,h=>aAr n xs h
theorem aAr:∀ (n:Nat) (ds:List D),ds.all (bM n) = true->mV ds ds = true
 | n,[],_=>rfl
 | n,d :: ds,h=>by
  rw [List.all_cons,Bool.and_eq_true] at h
  show (eqD d d && mV ds ds) = true
  rw [aCJ n d h.1,aAr n ds h.2]
  rfl
end
theorem aGG {g:Bool->Bool} {d:D} {M:DM} {Q:DQ} (h:bM 60 d = true) (q:Q (.bl (g true)) M):dEq g d d M Q:=by
 cases d with
 | ref a=>exact absurd h Bool.false_ne_true
 | _=>exact ⟨h,h,by rw [aCJ 60 _ h];exact q⟩
theorem aND (n:Nat):HT.sIx (n + 1) 0 (some 1) = 1/\HT.sIx (n + 1) (n + 1) none = n + 1:=by
 constructor
 ·unfold HT.sIx
  simp
 ·rfl
theorem yA {x:D} {xs:List D}:cutD (x :: xs) (some 1) none = xs:=by
 unfold cutD
 rw [List.length_cons,(aND _).1,(aND _).2]
 simp
theorem ifF {b:Bool} {A B:Prop} (h:b = false) (q:B):if b = true then A else B:=by subst h;exact q
theorem ifT {b:Bool} {A B:Prop} (h:b = true) (q:A):if b = true then A else B:=by subst h;exact q
end Dd
set_option maxHeartbeats 400000
namespace L2
open PySem PySem.Spec PyProof.Rows
end L2
namespace Dd
open PySem PySem.Spec PyProof.Rows L2
section
variable {X:Cx} {e k:Expr} {te tk:DE} {pos p2:Pos}
end
end Dd
namespace Zp
open PySem PySem.Spec PyProof.Rows
section
variable {prog:Program} {w:World} {A:Around} {E:Value->Shared->Prop} {s:Shared}
end
end Zp
namespace L2
open PySem PySem.Spec PyProof.Rows
theorem Inv.turnedT {X:Cx} {pins:List (Addr × Obj)} {σ:St} {H:Hp} {s:Shared} {h':Heap} {fp:List Addr} {p:Addr} {xs:List V} {its:List Value} (I:Inv X pins σ H s) (k:∀ b o,b ∉ fp->s.heap.get? b = some o->h'.get? b = some o) (hf:∀ b ∈ fp,zJ X pins H b) (hp:s.heap.objs.size<=p) (hz:xs.length<=sizeLine) (hv:cA xs its) (ht:IsTup h' p its.toArray) (th:∀ b ∈ fp,∃ o,h'.get? b = some o) :
  Inv X pins σ (upd H p (.tup xs)) { s with heap:=h' }:=by
 have hn:H p = none:=I.hok.fresh hp
 have nf:∀ b u,H b = some u->b ∉ fp:=fun b u e hb=>by rw [(hf b hb).1] at e;cases e
 have np:∀ b o,s.heap.get? b = some o->b ≠ p:=fun b o e=>Nat.ne_of_lt (Nat.lt_of_lt_of_le (Heap.lt_size e) hp)
 refine I.step (g':=s.gens) (d':=s.drawn) (t':=s.toks) (ch:=fp) (fun b hb=>⟨(hf b hb).2.2.2.1,(hf b hb).2.1,(hf b hb).2.2.2.2.1,(hf b hb).2.2.2.2.2⟩) (fun b o _ _ hc e _=>k b o hc e) (fun b o _ _ hc e _=>⟨o.slots,k b o hc e⟩) (fun b o _ e n=>by rw [bN (np b o e)];exact n)
  (fun b o hc e=>⟨o,k b o hc e⟩) (fun b ys e=>by rw [bN (bU e hn)];exact e) (fun b o u e=>by rw [bN (bU e hn)];exact e) (fun b ps e=>⟨#[],by rw [bN (bU e hn),e];simp⟩) (fun m hm=>?_) (fun b u e=>?_) I.bare
 ·obtain ⟨o,es,ep,ho,r⟩:=hm
  exact ⟨o,es,ep,k _ o (fun hb=>(hf _ hb).2.1 rfl) ho,r⟩
 ·by_cases hb:b = p
  ·subst hb
   rw [dE] at e
   cases e
   exact ⟨hz,its,hv,ht⟩
  ·rw [bN hb] at e
   refine (I.hok b u e).stay (fun c v hc q=>k c v ?_ q) (fun c q=>by rw [bN (bU q hn)];exact q) fun c xs q=>by rw [bN (bU q hn)];exact q
   rcases hc with z | z
   ·rw [z];exact nf b u e
   ·exact nf c _ z
theorem Inv.turnedL {X:Cx} {pins:List (Addr × Obj)} {σ:St} {H:Hp} {s:Shared} {h':Heap} {fp:List Addr} (I:Inv X pins σ H s) (k:∀ b o,b ∉ fp->s.heap.get? b = some o->h'.get? b = some o) (hf:∀ b ∈ fp,zJ X pins H b) :
  Inv X pins σ H { s with heap:=h' }:=by
 have nf:∀ b u,H b = some u->b ∉ fp:=fun b u e hb=>by rw [(hf b hb).1] at e;cases e
 refine I.step (g':=s.gens) (d':=s.drawn) (t':=s.toks) (ch:=fp) (fun b hb=>⟨(hf b hb).2.2.2.1,(hf b hb).2.1,(hf b hb).2.2.2.2.1,(hf b hb).2.2.2.2.2⟩) (fun b o _ _ hc e _=>k b o hc e) (fun b o _ _ hc e _=>⟨o.slots,k b o hc e⟩) (fun b o _ e n=>n)
  (fun b o hc e=>⟨o,k b o hc e⟩) (fun b ys e=>e) (fun b o u e=>e) (fun b ps e=>⟨#[],by rw [e];simp⟩) (fun m hm=>?_) (fun b u e=>?_) I.bare
 ·obtain ⟨o,es,ep,ho,r⟩:=hm
  exact ⟨o,es,ep,k _ o (fun hb=>(hf _ hb).2.1 rfl) ho,r⟩
 ·refine (I.hok b u e).stay (fun c v hc q=>k c v ?_ q) (fun c q=>q) fun c xs q=>q
  rcases hc with z | z
  ·rw [z];exact nf b u e
  ·exact nf c _ z
end L2
namespace Dd
open PySem PySem.Spec PyProof.Rows L2
section
variable {X:Cx} {pos:Pos} {iter tg:Expr} {body:List Stmt} {tl:DE} {g:DG} {tb:DS} {ta:DA}
end
end Dd
set_option maxHeartbeats 1000000
namespace Dd
open PySem PySem.Spec PyProof.Rows L2
theorem fH.there {P:Program} {w:World} {H:Hp} {h:Heap} {a:Addr} {o:HO} (x:fH P w H h a o):∃ u,h.get? a = some u:=by
 cases o with
 | lst xs=>obtain ⟨_,_,_,_,e⟩:=x;exact ⟨_,e⟩
 | tup xs=>obtain ⟨_,_,_,ob,e,_⟩:=x;exact ⟨_,e⟩
 | dK kvs=>obtain ⟨_,_,_,_,o,_,_,e,_⟩:=x;exact ⟨_,e⟩
 | dT kvs=>obtain ⟨_,_,_,_,o,_,_,e,_⟩:=x;exact ⟨_,e⟩
 | set S n=>obtain ⟨o,_,_,_,e,_⟩:=x;exact ⟨_,e⟩
 | ins C dx fs=>obtain ⟨_,_,_,e,_⟩:=x;exact ⟨_,e⟩
 | own y=>obtain ⟨_,e⟩:=x;exact ⟨_,e⟩
 | xd fs=>obtain ⟨_,⟨_,_,_,e,_⟩,_⟩:=x;exact ⟨_,e⟩
 | rng lo hi=>obtain ⟨_,_,_,e⟩:=x;exact ⟨_,e⟩
 | frz ob u=>obtain ⟨e,_⟩:=x;exact ⟨_,e⟩
 | tbl ps=>exact ⟨_,(show h.get? a = some _ from x)⟩
 | met f y=>exact ⟨_,(show h.get? a = some _ from x)⟩
 | ext φ=>obtain ⟨_,⟨_,e⟩,_⟩:=x;exact ⟨_,e⟩
noncomputable def FpN (X:Cx) (pins:List (Addr × Obj)) (H:Hp) (b:Addr):Prop :=
 H b = none/\b ≠ X.env.locals/\X.s₀.heap.get? b = none/\(∀ x c,X.env.cells.lookup x = some c->c ≠ b)/\∀ p ∈ X.pn ++ pins,p.1 ≠ b
section
variable {X:Cx} {pins:List (Addr × Obj)} {σ:L2.St} {H H':Hp} {s:Shared} {h':Heap}
theorem _root_.L2.Inv.fpN (I:Inv X pins σ H s) (hex:X.ex = []) {b:Addr} (h:s.heap.get? b = none) (hn:H' b = none):FpN X pins H' b:=by
 refine ⟨hn,fun z=>?_,?_,fun x c e z=>?_,fun p hp z=>?_⟩
 ·obtain ⟨m,⟨o,_,_,ho,_⟩,_⟩:=I.loc
  rw [<- z,h] at ho;cases ho
 ·cases q:X.s₀.heap.get? b with
  | none=>rfl
  | some o =>
   obtain ⟨o',e⟩:=I.base.there b o q (by rw [hex];simp)
   rw [h] at e;cases e
 ·obtain ⟨v,o,ho,_⟩:=I.cell x c e
  rw [z,h] at ho;cases ho
 ·obtain ⟨e,_⟩:=I.pin p hp
  rw [z,h] at e;cases e
theorem _root_.L2.Inv.untr (I:Inv X pins σ H s) {b:Addr} (h:s.heap.get? b = none):H b = none:=by
 cases q:H b with
 | none=>rfl
 | some o=>obtain ⟨u,e⟩:=fH.there (I.hok b o q);rw [h] at e;cases e
theorem _root_.L2.Inv.mark {ch:List Addr} (I:Inv X pins σ H s) (hch:∀ b ∈ ch,FpN X pins H b) (keep:∀ b o,b ∉ frs X.stack->b ∉ ch->s.heap.get? b = some o->h'.get? b = some o)
  (slot:∀ b o,b ∉ ch->s.heap.get? b = some o->∃ sl,h'.get? b = some { o with slots:=sl }):Inv X pins σ H { s with heap:=h' }:=by
 have neL:∀ b o,X.s₀.heap.get? b = some o->b ≠ X.env.locals:=fun b o e=>Nat.ne_of_lt (Nat.lt_of_lt_of_le (Heap.lt_size e) I.ok.above)
 have neC:∀ b o,X.s₀.heap.get? b = some o->b ∉ ch:=fun b o e hb=>by rw [(hch b hb).2.2.1] at e;cases e
 have stk:∀ b,b ≠ X.env.locals->b ∉ X.fs->b ∉ frs X.stack:=fun b h1 h2 hb=>(List.mem_cons.mp (I.stkSub b hb)).elim h1 h2
 have cellK:∀ x c,X.env.cells.lookup x = some c->∀ v,s.heap.IsCell c v->h'.IsCell c v:=fun x c e v ⟨o,ho,hd⟩=>by
  obtain ⟨sl,q⟩:=slot c o (fun z=>(hch c z).2.2.2.1 x c e rfl) ho
  exact ⟨_,q,hd⟩
 refine ⟨I.ok,I.os,I.bare,⟨fun b o e n hb hx=>?_,fun b o e n hb hx=>?_,I.base.free,fun b o e hx=>?_,I.base.tups,I.base.frzs,I.base.tbls⟩,?_,fun x c e=>?_,I.free,I.freeC,fun p hp=>?_,fun a o e=>?_,I.len⟩
 ·exact keep b o (stk b (neL b o e) hb) (neC b o e) (I.base.keep b o e n hb hx)
 ·obtain ⟨sl,e1⟩:=I.base.slot b o e n hb hx
  obtain ⟨sl',e2⟩:=slot b _ (neC b o e) e1
  exact ⟨sl',e2⟩
 ·obtain ⟨o',e1⟩:=I.base.there b o e hx
  obtain ⟨sl,e2⟩:=slot b o' (neC b o e) e1
  exact ⟨_,e2⟩
 ·obtain ⟨m,⟨o,es,ep,ho,r⟩,hl⟩:=I.loc
  obtain ⟨sl,e2⟩:=slot _ o (fun z=>(hch _ z).2.1 rfl) ho
  refine ⟨m,⟨_,es,ep,e2,r⟩,fun i x v e1 e2 e3=>?_⟩
  obtain ⟨u,r,l⟩:=hl i x v e1 e2 e3
  refine ⟨u,r,?_⟩
  rcases l with l | ⟨k,c,e,z⟩
  ·exact .inl l
  ·exact .inr ⟨k,c,e,cellK x c e _ z⟩
 ·obtain ⟨v,z⟩:=I.cell x c e
  exact ⟨v,cellK x c e v z⟩
 ·obtain ⟨e,n,ne,nf,d⟩:=I.pin p hp
  exact ⟨keep p.1 p.2 (stk _ ne nf) (fun z=>(hch _ z).2.2.2.2 p hp rfl) e,n,ne,nf,d⟩
 ·refine (I.hok a o e).stay (fun b u hb q=>keep b u (fun z=>?_) (fun z=>?_) q) (fun _ q=>q) fun _ _ q=>q
  ·have:=I.stkFree b z
   rcases hb with hb | hb
   ·rw [hb,e] at this;cases this
   ·rw [hb] at this;cases this
  ·have:=(hch b z).1
   rcases hb with hb | hb
   ·rw [hb,e] at this;cases this
   ·rw [hb] at this;cases this
end
theorem oM (f:Array Value->Array Value) (o:Obj):(o.mapFields f).dict = o.dict:=by unfold Obj.mapFields;split<;>rfl
noncomputable def Nw (h:Heap) (e:Addr) (cls:Value):Prop:=∃ oe vs,h.get? e = some oe/\(oe.cls = cls/\oe.dict = none)/\oe.data = .fields vs/\vs[1]? = some Value.none
noncomputable def Tr (h:Heap) (e:Addr) (cls:Value) (T:Addr) (fl:Value):Prop :=
 ∃ oe vs oT ts,h.get? e = some oe/\(oe.cls = cls/\oe.dict = none)/\oe.data = .fields vs/\vs[1]? = some (.ref T)/\T ≠ e/\h.get? T = some oT/\oT.data = .fields ts/\ts[3]? = some fl
section
variable {X:Cx} {pins:List (Addr × Obj)} {σ:L2.St} {H:Hp} {s:Shared} {M:Model} {A:Around} {E:Value->Shared->Prop} {e T:Addr} {cls:Value}
theorem aEv {oe:Obj} {vs:Array Value} {head:Value} {hadNext:Bool} {Q:Unit->Shared->Prop} (I:Inv X pins σ H s) (hs:X.stack = X.env :: X.outer) (hf:X.env.frame = some X.env.locals) (hex:X.ex = [])
  (hA:A.frames = some X.stack) (he:s.heap.get? e = some oe) (hdi:oe.dict = none) (hd:oe.data = .fields vs) (hsz:1 < vs.size) (fe:FpN X pins H e)
  (h:∀ s' T,Inv X pins σ H s'->Tr s'.heap e oe.cls T (rawInt X.env.locals)->FpN X pins H T->s.heap.get? T = none->Q () s') :
  wpAny M A (do let a <- frameOf X.env;let pl <- entryPlaceOf X.env.locals hadNext;let b <- EntryCells.newEntry head a .none (rawInt X.env.locals) .none pl;setField (.ref e) 1 b) Q E s:=by
 have hfr:A.frames = some (X.env :: X.outer):=by rw [hA,hs]
 have hl:s.heap.FunFrames X.base (X.env :: X.outer):=hs ▸ I.stack
 have hene:e ∉ (X.env :: X.outer).filterMap (·.frame):=fun hm=>by
  obtain ⟨_,o,ho,hnf⟩:=hl.mem hm
  rw [he] at ho;cases ho;exact hnf vs hd
 have hfs:frs X.stack = (X.env :: X.outer).filterMap (·.frame):=by rw [hs];rfl
 refine wpAny_bind (wpAny_frameOf_fun hfr hl hf fun h₁ hs₁=>?_)
 refine wpAny_bind (wpAny_entryPlaceOf fun pl hpl=>?_)
 unfold EntryCells.newEntry newFields
 refine wpAny_bind (wpAny_newObj_type ?_ (hpl.sizeOk5 _ _ _ _ _))
 have he₁:h₁.get? e = some oe:=(hs₁.2.1 e hene).trans he
 have he₂:=Heap.get?_push_of_some (h:=h₁) { cls:=.type "traceback",dict:=none,data:=.fields ([head,.ref X.env.locals,.none,rawInt X.env.locals,.none] ++ (if pl.isEmpty then List.replicate 6 Value.none else pl)).toArray } he₁
 refine wpAny_setField he₂ hd hsz ?_
 have hTe:h₁.objs.size ≠ e:=Nat.ne_of_gt (Heap.lt_size he₁)
 have hd₃:=Obj.data_mapFields hd (·.setIfInBounds 1 (Value.ref h₁.objs.size))
 have he₃:=Heap.get?_update_self (Obj.mapFields (·.setIfInBounds 1 (Value.ref h₁.objs.size))) he₂ (Obj.isFreed_of_fields hd₃)
 have hT₃:=(Heap.get?_update_other (h₁.push { cls:=.type "traceback",dict:=none,data:=.fields ([head,.ref X.env.locals,.none,rawInt X.env.locals,.none] ++ (if pl.isEmpty then List.replicate 6 Value.none else pl)).toArray })
  (Obj.mapFields (·.setIfInBounds 1 (Value.ref h₁.objs.size))) (Ne.symm hTe)).trans (Heap.get?_push_size h₁ rfl)
 have hTn:s.heap.get? h₁.objs.size = none:=Heap.get?_none_of_le (by rw [hs₁.1];exact Nat.le_refl _)
 refine h _ h₁.objs.size (L2.Inv.mark (s:=s) (ch:=[e]) I (fun b hb=>by rw [List.mem_singleton.mp hb];exact fe) (fun b o hb hc q=>?_) fun b o hc q=>?_) ?_ (L2.Inv.fpN (s:=s) I hex hTn (L2.Inv.untr (s:=s) I hTn)) hTn
 ·have hbe:b ≠ e:=fun z=>hc (by simp [z])
  rw [Heap.get?_update_other _ _ (Ne.symm hbe)]
  exact Heap.get?_push_of_some _ ((hs₁.2.1 b (by rw [<- hfs];exact hb)).trans q)
 ·have hbe:b ≠ e:=fun z=>hc (by simp [z])
  obtain ⟨sl,z⟩:=hs₁.2.2 b o q
  exact ⟨sl,by rw [Heap.get?_update_other _ _ (Ne.symm hbe)];exact Heap.get?_push_of_some _ z⟩
 ·exact ⟨_,_,_,_,he₃,⟨Obj.cls_mapFields _ _,(oM _ _).trans hdi⟩,hd₃,by simp [hsz],hTe,hT₃,rfl,by first | (simp;done) | (rcases hpl with rfl | ⟨_,_,_,_,_,_,_,rfl⟩<;>simp)⟩
theorem aGv {Q:Unit->Shared->Prop} (I:Inv X pins σ H s) (hs:X.stack = X.env :: X.outer) (hf:X.env.frame = some X.env.locals) (hex:X.ex = []) (hA:A.frames = some X.stack) (n:Nw s.heap e cls) (fe:FpN X pins H e)
  (h:∀ s' T,Inv X pins σ H s'->Tr s'.heap e cls T (rawInt X.env.locals)->FpN X pins H T->s.heap.get? T = none->Q () s'):wpAny M A (noteFrame (.ref e) X.env) Q E s:=by
 obtain ⟨oe,vs,he,⟨rfl,hdi⟩,hd,h1⟩:=n
 unfold noteFrame
 simp only [hf]
 refine wpAny_bind (wpAny_field he hd h1 ?_)
 rw [if_neg (by decide)]
 exact aEv I hs hf hex hA he hdi hd (Array.getElem?_eq_some_iff.mp h1).1 fe h
theorem aAR {ts:Array Value} {oT:Obj} {f:Array Value->Array Value} (I:Inv X pins σ H s) (fT:FpN X pins H T) (hT:s.heap.get? T = some oT) :
  Inv X pins σ H { s with heap:=s.heap.update T (Obj.mapFields f) }:=by
 refine I.mark (ch:=[T]) (fun b hb=>by rw [List.mem_singleton.mp hb];exact fT) (fun b o _ hc q=>?_) fun b o hc q=>⟨o.slots,?_⟩ <;>
 ·rw [Heap.get?_update_other _ _ (Ne.symm (fun z=>hc (by simp [z])))];exact q
theorem aC0 {fl:Value} {Q:Unit->Shared->Prop} (I:Inv X pins σ H s) (t:Tr s.heap e cls T fl) (fT:FpN X pins H T) (h:∀ s',Inv X pins σ H s'->Tr s'.heap e cls T .none->Q () s'):wpAny M A (setFlight (.ref e) none) Q E s:=by
 obtain ⟨oe,vs,oT,ts,he,hcls,hd,h1,hTe,hT,hdT,h3⟩:=t
 have hsz3:3 < ts.size:=(Array.getElem?_eq_some_iff.mp h3).1
 unfold setFlight
 refine wpAny_bind (wpAny_field he hd h1 ?_)
 rw [if_pos (show (Value.ref T != Value.none) = true from by simp)]
 refine wpAny_setField hT hdT hsz3 (h _ (aAR (ts:=ts) I fT hT) ?_)
 exact ⟨oe,vs,_,_,(Heap.get?_update_other _ _ hTe).trans he,hcls,hd,h1,hTe,Heap.get?_update_self _ hT (Obj.isFreed_of_fields (Obj.data_mapFields hdT _)),Obj.data_mapFields hdT _,by simp [hsz3]⟩
theorem aEo {Q:Unit->Shared->Prop} (I:Inv X pins σ H s) (hs:X.stack = X.env :: X.outer) (hf:X.env.frame = some X.env.locals) (hex:X.ex = []) (hA:A.frames = some X.stack) (n:Nw s.heap e cls) (fe:FpN X pins H e)
  (h:∀ s' T,Inv X pins σ H s'->Tr s'.heap e cls T .none->FpN X pins H T->s.heap.get? T = none->Q () s'):wpAny M A (leaving X.env (.ref e)) Q E s:=by
 unfold leaving
 exact wpAny_bind (aGv I hs hf hex hA n fe fun s1 T I1 t1 f1 n1=>aC0 I1 t1 f1 fun s2 I2 t2=>h s2 T I2 t2 f1 n1)
end
end Dd
namespace Dd
open PySem PySem.Spec PyProof.Rows L2
noncomputable def CXr (P:Program) (w:World):CXT:=fun outer H s E e s'=>∃ (a:Addr) (cls:Value) (T:Addr) (H':Hp),e = Value.ref a/\s'.os = s.os/\AllBare s'.gens/\Un (frs outer) [] H H' s.heap s'.heap/\HOk P w H' s'.heap /\
 Tr s'.heap a cls T .none/\s.heap.get? a = none/\s.heap.get? T = none/\H' a = none/\H' T = none/\E cls none H'
theorem aD6 {K:PySem.W.Frag} {h:Heap} {C:Addr} {bmB:List Value} {newId:String} (X:K.In h) (q:PySem.W.excIn K C bmB newId = true) :
  ∃ bm N nm qn bs hdct sn sub ab col dd k0 k1 k2 k3 k5,∃ mN:Str->Option Value,h.get? C = some (excClassObj nm qn C N bs bm hdct sn sub ab col dd k0 k1 k2 k3 k5 newId)/\h.Ns N mN/\mN "__init__" = none/\OwnTail h bmB bm:=by
 unfold PySem.W.excIn at q
 split at q
 ·rename_i dd cd sl ho
  split at q
  ·rename_i C' bm k0 k1 k2 k3 n k5 hm hs
   simp only [Bool.and_eq_true,beq_iff_eq,Bool.not_eq_true'] at q
   obtain ⟨⟨⟨⟨⟨rfl,rfl⟩,hdel⟩,ht⟩,hok⟩,hni⟩:=q
   cases cd
   dsimp only at hm hdel hok hni
   subst hm hdel
   cases sl
   simp only at hs
   subst hs
   exact ⟨_,_,_,_,_,_,_,_,_,_,_,_,_,_,_,_,_,X _ _ ho,.of_isNs (PySem.W.isNs_of_in X hok),PySem.W.nsMap_none_of_in X hok hni,PySem.W.tail_of_in X ht⟩
  ·cases q
 ·cases q
noncomputable def tP (X:Cx) (x:Str) (V:DM->Prop):Prop:=X.calm = true/\X.ex = []/\∃ C bmB newId B initId,X.mg x = some (.ref C)/\PySem.W.excIn X.K C bmB newId = true/\ExcBaseFacts B newId initId bmB /\
 ∀ pins σ H s a M',Inv X pins σ H s->Nw s.heap a (.ref C)->FpN X pins H a->cO X.K M' H->V M'->X.xe (.ref a) s
noncomputable def aDn (V:DM->Prop) (t:DA):DS:=fun _ ρ M=>t ρ M fun ds M1=>ds.length<=1000/\V M1
section
variable {X:Cx} {x:Str} {V:DM->Prop} {e:Expr} {es:List Expr} {t:DA} {np cpos pos:Pos}
theorem aFl (R:tP X x V) (ha:PDA X (e :: es) t) (hg:Gl X x:=by rfl) (hd:(x == ("__debug__":Str)) = false:=by decide)
  (he:starEach (e :: es) X.env = (false,eval e X.env) :: starEach es X.env:=by rfl) (hpl:(backTo cpos (starEach es X.env)).any (·.1) = false:=by rfl) :
  PDS X (.Raise (some (.Call (.Name x np) (e :: es) [] cpos)) none pos) (aDn V t):=by
 intro pins s σ H D I ⟨ρ,M,D',re,hm,q,k⟩
 obtain ⟨calm,hex,C,bmB,newId,B,initId,hmg,hq,FB,fly⟩:=R
 obtain ⟨tl,N,nm,qn,bs,hdct,sn,sub,ab,col,dd,k0,k1,k2,k3,k5,mN,hC,hN,hni,T⟩:=aD6 I.ok.mod.kin hq
 refine wpAny_Raise_call_subT (C:=C) (nm:=nm) (q:=qn) (N:=N) (bs:=bs) (bm:=tl) (hdct:=hdct) (sn:=sn) (sub:=sub) (ab:=ab) (col:=col) (dd:=dd) (k0:=k0) (k1:=k1) (k2:=k2) (k3:=k3) (k5:=k5)
  FB (mN:=mN) (T.hasType FB.hasBase) (I.ok.hd calm) (by rw [he];show (false || (backTo cpos (starEach es X.env)).any (·.1)) = false;rw [hpl];rfl) hni (kX I hg hmg ⟨rfl,?_⟩ hd)
 have h:=ha cpos pins s σ H (LA X.K H fun ds M1=>ds.length<=1000/\V M1) I ⟨ρ,M,_,re,hm,q,fun vs H' z=>z⟩
 rw [he] at h ⊢
 refine Calls.evalArgs_plain (wpAny_mono h (fun us s₂ ⟨vs,H2,I2,rv,ds,M2,rs,hm2,ex,hl,hV⟩=>⟨rfl,?_,I2.bk _ _ hC,hN.keeps I2.bk,T.keeps I2.bk,fun h' a mk=>?_⟩) fun _ _ y=>y)
 ·show us.length<=sizeLine
  rw [<- rv.length,<- rs.length];exact Nat.le_of_lt (eX hl)
 ·obtain ⟨tt,ht,_⟩:=mk.there
  have I3:Inv X pins σ H2 { s₂ with heap:=h' }:=I2.kept (t':=s₂.toks) mk.keeps
  have hn:=I2.untr mk.new
  exact fly pins σ H2 _ a M2 I3 ⟨_,_,ht,⟨rfl,rfl⟩,rfl,rfl⟩ (I2.fpN hex mk.new hn) hm2 hV
end
noncomputable def spX (K:PySem.W.Frag) (C:Addr) (cond:List D->DM->Prop):Sp:=fun vs H _ E=>∃ ds M,bY K H ds vs/\cO K M H/\cond ds M/\∀ M' H',cO K M' H'->aW M M'->E (.ref C) none H'
noncomputable def bmV:List Value:=[.type "ValueError",.type "Exception",.type "BaseException",.type "object"]
noncomputable def aEh (K:PySem.W.Frag) (mg:Str->Option Value) (x:Str) (C:Addr):Prop:=mg x = some (.ref C)/\PySem.W.excIn K C bmV "ValueError.__new__" = true
noncomputable def yN (P:Program) (w:World) (K:PySem.W.Frag) (mg:Str->Option Value) (base:Heap) (k:Nat) (x:Str) (ps:List Str) (C:Addr) (cond:List D->DM->Prop):Prop :=
 ∃ f fd,jJ P w K mg base (CXr P w) k f fd ps (spX K C cond)/\mg x = some (.ref f)/\PySem.W.keepIn K (.ref f) = true/\mG K fd ps []
section
variable {P:Program} {w:World} {K:PySem.W.Frag} {mg:Str->Option Value} {base:Heap}
theorem yN.mk {x c:Str} {C:Addr} {st:Stmt} {N ps:List Str} {k:Nat} {cond:List D->DM->Prop} (h:bX K mg x st ps) (hc:aEh K mg c C) (S:aQ N ps (aJ st)) (len:∀ ds M,cond ds M->ds.length = ps.length)
  (hbody:∀ (f:Addr) (cdv:Value) (A:Around) (outer:List Env) (s:Shared) (H:Hp) (ds:List D) (M:DM) (E:XK),eP k (A.deeper (envOfC x (aJ st) s.heap.objs.size f cdv))->cond ds M ->
   tP (kD (CXr P w) P w K mg base N x (aJ st) f cdv A outer s H E) c (aW M) ->
   ∃ t,mQ (kD (CXr P w) P w K mg base N x (aJ st) f cdv A outer s H E) (eT st) t/\t { nx:=fun _ _=>False,rt:=fun _ _=>False } (iJ N ds) M)  :yN P w K mg base (k + 1) x ps C cond:=by
 obtain ⟨f,fd,F,hm,hb⟩:=h
 refine ⟨f,fd,?_,hm,F.kp,hb⟩
 obtain ⟨oc,od,kV,doc,pm,an,cdv,ct,osl,rfl,lk,hcd⟩:=F.ex
 refine aE6 lk hcd S (fun vs H Q E ⟨ds,M,rs,hm,q,_⟩=>by rw [<- rs.length];exact len ds M q) fun A outer s H vs Q E hr ⟨ds,M,rs,hm,q,k'⟩=>?_
 have RO:tP (kD (CXr P w) P w K mg base N x (aJ st) f cdv A outer s H E) c (aW M) :=
  ⟨rfl,rfl,C,bmV,_,_,_,hc.1,hc.2,PySem.F.excBase_ValueError,fun pins σ H' s1 a M' I n fe hm' sub =>
   aEo (X:=kD (CXr P w) P w K mg base N x (aJ st) f cdv A outer s H E) I rfl rfl rfl I.ok.frames n fe fun s' T I' t' fT _ =>
    ⟨a,.ref C,T,H',rfl,I'.os,I'.bare,I'.base,I'.hok,t',fe.2.2.1,fT.2.2.1,fe.1,fT.1,k' M' H' hm' sub⟩⟩
 obtain ⟨t,h1,h2⟩:=hbody f cdv A outer s H ds M E hr q RO
 exact ⟨_,h1,iJ N ds,M,_,rC rs N,hm,h2,⟨fun σ' H' ⟨_,_,_,_,_,z⟩=>z.elim,fun v H' ⟨_,_,_,_,_,z⟩=>z.elim,fun σ' H' ⟨_,_,_,_,_,z⟩=>z.elim,fun σ' H' ⟨_,_,_,_,_,z⟩=>z.elim⟩⟩
noncomputable abbrev aOK (P:Program) (w:World) (K:PySem.W.Frag) (mg:Str->Option Value) (base:Heap) (k:Nat) (x:Str) (ps:List Str) (C:Addr) (cond:List D->Prop):Prop:=yN P w K mg base k x ps C fun ds _=>cond ds
end
end Dd
namespace Dd
open PySem PySem.Spec PyProof.Rows L2
section
variable {X:Cx} {pins:List (Addr × Obj)} {σ:L2.St} {H:Hp} {s:Shared} {a:Addr} {o:Obj}
end
noncomputable def iV.un (D:iV) (j:Nat):iV:={ nx:=fun ρ M=>D.nx (ρ.set j none) M,rt:=D.rt,bk:=fun ρ M=>D.bk (ρ.set j none) M,ct:=fun ρ M=>D.ct (ρ.set j none) M }
section
variable {X:Cx} {a:Expr} {e:Expr} {es:List Expr} {t:DA} {x f n cm:Str} {ps:List Str} {sp:DSp} {cond:List D->DM->Prop} {C Cm:Addr} {k1 k2 k i j:Nat} {ts:Addr->DS} {b0:Stmt} {suite:List Stmt} {px pf pc pa pcm ph pos:Pos}
end
section
open PySem.W PySem.Calls
end
section
variable {X:Cx} {n c:Str} {C Cc a:Addr} {o:Obj} {p p1 p2 pos:Pos} {j:Nat}
end
section
open PySem.W PySem.Calls
variable {prog:Program} {w:World} {A:Around} {E:Value->Shared->Prop} {s:Shared} {K:Frag} {x C D:Addr} {ox:Obj}
structure aNZ (K:Frag) (D:Addr):Prop where
 ga:findIn K (.ref D) "__getattribute__" = some (some (.builtin "BaseException.__getattribute__"))
 gn:findIn K (.ref D) "__getattr__" = some none
 cl:findIn K (.ref D) "__class__" = some (some (.builtin "object.__class__"))
 nn:specialIn K (.builtin "object.__class__") "__get__" = some (some (.builtin "getset_descriptor.__get__"))
 tk:takesIn K (.builtin "object.__class__") = some true
 mo:mroIn K D (.type "object") = some true
 mb:mroIn K D (.type "BaseException") = some true
theorem aNZ.cd (e:aNZ K D):∃ cd,clsIn K D = some cd:=by
 obtain ⟨cd,a,_⟩:=Option.bind_eq_some_iff.mp e.mo
 exact ⟨cd,a⟩
end
section
variable {X:Cx} {a C:Addr} {o:Obj}
end
end Dd
namespace Dd
open PySem PySem.Spec PyProof.Rows L2
section
open PySem.SeqAt
open PySem.AutoSeq1 (wpAny_loadPart')
open PySem.MeetsSeq PySem.MeetsSeq2 PySem.MeetsSeq3
end
section
variable {X:Cx} {j:Nat}
theorem aJc {K:PySem.W.Frag} {H:Hp} {a b:Int} {xs:List V} {its:List Value} (r:bY K H [.int a,.int b] xs) (v:cA xs its):∃ t u,its = [.int a t,.int b u]:=by
 obtain ⟨v1,r1,rfl,h1,r1'⟩:=aU r
 obtain rfl:=aS h1
 obtain ⟨v2,r2,rfl,h2,r2'⟩:=aU r1'
 obtain rfl:=aS h2
 obtain rfl:=bS r2'
 cases v with
 | cons q1 w1 =>
  cases w1 with
  | cons q2 w2 =>
   cases w2
   obtain ⟨t,rfl⟩:=q1
   obtain ⟨u,rfl⟩:=q2
   exact ⟨t,u,rfl⟩
end
end Dd
namespace Dd
open PySem PySem.Spec PyProof.Rows L2
noncomputable def aLf (t u:DS):DS:=fun D ρ M=>∃ R:cV->DM->Prop,t { D with nx:=R } ρ M/\∀ ρ' M',R ρ' M'->u D ρ' M'
section
variable {X:Cx} {st:Stmt} {dF:List Stmt} {t u:DS}
theorem aHh (h1:PDS X st t) (h2:mQ X dF u):mQ X (st :: dF) (aLf t u) :=
 aBK (aCx h1 h2) fun E σ H ⟨ρ,M,D,re,hm,⟨R,q,k2⟩,k⟩ =>
  ⟨ρ,M,{ D with nx:=R },re,hm,q,⟨fun σ' H' ⟨ρ',M',re',hm',ex,r⟩=>⟨ρ',M',D,re',hm',k2 ρ' M' r,k.at ex⟩,k.rt,k.bk,k.ct⟩⟩
end
end Dd
namespace Dd
open PySem PySem.Spec PyProof.Rows L2
section
variable {X:Cx} {e:Expr} {es:List Expr} {t:DA} {x f cm:Str} {ps:List Str} {sp:DSp} {cond:List D->DM->Prop} {C Cm:Addr} {k1 k2 k i:Nat} {ts:DS} {b0:Stmt} {suite:List Stmt} {px pf pc pa pcm ph pos:Pos}
end
end Dd
namespace Dd
open PySem PySem.Spec PyProof.Rows L2
@[irreducible] noncomputable def ZE (X:Cx) (e:Expr) (t:DE):Prop:=PDE X e t
theorem ZE.o {X:Cx} {e:Expr} {t:DE} (h:ZE X e t):PDE X e t:=by unfold ZE at h;exact h
theorem ZE.i {X:Cx} {e:Expr} {t:DE} (h:PDE X e t):ZE X e t:=by unfold ZE;exact h
@[irreducible] noncomputable def ZT (X:Cx) (e:Expr) (t:DT):Prop:=PDT X e t
theorem ZT.o {X:Cx} {e:Expr} {t:DT} (h:ZT X e t):PDT X e t:=by unfold ZT at h;exact h
theorem ZT.i {X:Cx} {e:Expr} {t:DT} (h:PDT X e t):ZT X e t:=by unfold ZT;exact h
@[irreducible] noncomputable def ZW (X:Cx) (e:Expr) (t:DT):Prop:=PDW X e t
theorem ZW.o {X:Cx} {e:Expr} {t:DT} (h:ZW X e t):PDW X e t:=by unfold ZW at h;exact h
theorem ZW.i {X:Cx} {e:Expr} {t:DT} (h:PDW X e t):ZW X e t:=by unfold ZW;exact h
@[irreducible] noncomputable def ZA (X:Cx) (e:List Expr) (t:DA):Prop:=PDA X e t
theorem ZA.o {X:Cx} {e:List Expr} {t:DA} (h:ZA X e t):PDA X e t:=by unfold ZA at h;exact h
theorem ZA.i {X:Cx} {e:List Expr} {t:DA} (h:PDA X e t):ZA X e t:=by unfold ZA;exact h
@[irreducible] noncomputable def ZS (X:Cx) (e:Stmt) (t:DS):Prop:=PDS X e t
theorem ZS.o {X:Cx} {e:Stmt} {t:DS} (h:ZS X e t):PDS X e t:=by unfold ZS at h;exact h
theorem ZS.i {X:Cx} {e:Stmt} {t:DS} (h:PDS X e t):ZS X e t:=by unfold ZS;exact h
@[irreducible] noncomputable def ZSs (X:Cx) (e:List Stmt) (t:DS):Prop:=mQ X e t
theorem ZSs.o {X:Cx} {e:List Stmt} {t:DS} (h:ZSs X e t):mQ X e t:=by unfold ZSs at h;exact h
theorem ZSs.i {X:Cx} {e:List Stmt} {t:DS} (h:mQ X e t):ZSs X e t:=by unfold ZSs;exact h
@[irreducible] noncomputable def ZG (X:Cx) (e:Expr) (t:DG):Prop:=PDG X e t
theorem ZG.o {X:Cx} {e:Expr} {t:DG} (h:ZG X e t):PDG X e t:=by unfold ZG at h;exact h
theorem ZG.i {X:Cx} {e:Expr} {t:DG} (h:PDG X e t):ZG X e t:=by unfold ZG;exact h
@[irreducible] noncomputable def ZGs (X:Cx) (e:List Expr) (t:DGs):Prop:=aBL X e t
theorem ZGs.o {X:Cx} {e:List Expr} {t:DGs} (h:ZGs X e t):aBL X e t:=by unfold ZGs at h;exact h
theorem ZGs.i {X:Cx} {e:List Expr} {t:DGs} (h:aBL X e t):ZGs X e t:=by unfold ZGs;exact h
@[irreducible] noncomputable def ZO (X:Cx) (e:Option Expr) (t:DO):Prop:=PO X e (yK X.K t)
theorem ZO.o {X:Cx} {e:Option Expr} {t:DO} (h:ZO X e t):PO X e (yK X.K t):=by unfold ZO at h;exact h
theorem ZO.i {X:Cx} {e:Option Expr} {t:DO} (h:PO X e (yK X.K t)):ZO X e t:=by unfold ZO;exact h
section
variable {K:PySem.W.Frag} {H H':Hp}
end
section
variable {K:PySem.W.Frag} {H H':Hp} {M M':DM}
end
section
variable {K:PySem.W.Frag} {H H':Hp} {ρ:cV} {σ:L2.St}
end
section
variable {K:PySem.W.Frag} {H H1:Hp}
end
section
variable {X:Cx} {e:Expr} {st:Stmt} {sts:List Stmt}
end
section
variable {X:Cx} {a b c e:Expr} {es:List Expr} {ta tb tc te:DE} {tA tB:DT} {t:DA} {pos:Pos}
theorem aB (i:Nat) {x:Str} {pos:Pos} (hN:X.N[i]? = some x:=by rfl) (hv:Vis X.env.scope x:=by first | exact Or.inl rfl | exact Or.inr (Or.inl rfl) | exact Or.inr (Or.inr rfl)) (hd:(x == ("__debug__":Str)) = false:=by decide) (hcd:(x == ("__classdict__":Str)) = false:=by decide):ZE X (.Name x pos) (aAP i):=.i (aLV i hN hv hd hcd)
theorem aC {i j pos}:ZE X (.Constant (.int i) j pos) (dC (.int i)):=.i (aL9 (i:=i) (j:=j) (pos:=pos))
theorem kI {i j pos}:ZE X (.Constant (.bool i) j pos) (dC (.bl i)):=.i (aNS (i:=i) (j:=j) (pos:=pos))
theorem cZ {j pos}:ZE X (.Constant .none j pos) (dC .non):=.i (aLK (j:=j) (pos:=pos))
theorem aN {x j pos}:ZE X (.Constant (.str x) j pos) (dC (.str x)):=.i (aJv)
theorem aL {op:Operator} {r:D2} (ho:OpD X (binaryOp op) r) (ha:ZE X a ta) (hb:ZE X b tb):ZE X (.BinOp a op b pos) (dOp r ta tb):=.i (aMr (op:=op) ho ha.o hb.o)
theorem cS {op:CmpOp} {r:D2} (ho:OpD X (compareOp op) r) (ha:ZE X a ta) (hb:ZE X b tb) (hm:behindInMarks op b = false:=by exact aAV _):ZE X (.Compare a [op] [b] pos) (dOp r ta tb):=.i (aKt (op:=op) ho ha.o hb.o hm)
theorem aP {op:CmpOp} {r:D2} (ho:OpD X (compareOp op) r) (ha:ZE X a ta) (hb:ZE X b tb) (hm:behindInMarks op b = false:=by exact aAV _):ZT X (.Compare a [op] [b] pos) (aAE (dOp r ta tb)):=.i (aKU (op:=op) ho ha.o hb.o hm)
theorem cX (h:ZE X e te) (he:∀ whole,isTrue e X.env whole = (do let v <- whole;standAt e.pos;holding [v] (truthy v)):=by intro _;rfl):ZT X e (aAE te):=.i (aKY h.o he)
variable {dF:List Expr}
theorem eN (ha:ZT X a tA):ZW X (.BoolOp .And [a] pos) tA:=.i (aHf ha.o)
theorem gX (ha:ZT X a tA):ZW X (.BoolOp .Or [a] pos) tA:=.i (aKo ha.o)
theorem fF (ha:ZT X a tA) (hb:ZW X (.BoolOp .And (b :: dF) pos) tB):ZW X (.BoolOp .And (a :: b :: dF) pos) (aLC tA tB):=.i (aJB ha.o hb.o)
theorem iY (ha:ZT X a tA) (hb:ZW X (.BoolOp .Or (b :: dF) pos) tB):ZW X (.BoolOp .Or (a :: b :: dF) pos) (dOr tA tB):=.i (aMW ha.o hb.o)
theorem fA (h:ZW X e tA):ZT X e tA:=.i (aOz h.o)
theorem gS (ha:ZT X a tA):ZT X (.UnaryOp .Not a pos) (aJE tA):=.i (aKu ha.o)
theorem eC {op} (h:ZE X a ta):ZE X (.BoolOp op [a] pos) ta:=.i (aLL (op:=op) h.o)
theorem eH (ha:ZE X a ta) (hb:ZE X (.BoolOp .And (b :: dF) pos) tb):ZE X (.BoolOp .And (a :: b :: dF) pos) (aGV ta tb):=.i (aL6 ha.o hb.o)
theorem xL (ha:ZE X a ta) (hb:ZE X (.BoolOp .Or (b :: dF) pos) tb):ZE X (.BoolOp .Or (a :: b :: dF) pos) (aJM ta tb):=.i (aNn ha.o hb.o)
theorem qL (ha:ZE X a ta):ZE X (.UnaryOp .Not a pos) (aGQ ta):=.i (aJF ha.o)
theorem eJ (hc:ZT X c tA) (ha:ZE X a ta) (hb:ZE X b tb):ZE X (.IfExp c a b pos) (aKL tA ta tb):=.i (aF7 hc.o ha.o hb.o)
theorem aD :ZA X [] oF:=.i (oI)
theorem aA (ha:ZE X e te) (hr:ZA X es t) (hs:starEach (e :: es) X.env = (false,eval e X.env) :: starEach es X.env:=by rfl):ZA X (e :: es) (jS te t):=.i (kS ha.o hr.o hs)
theorem aR {x1} (h:ZA X es t):ZE X (.Tuple es x1 pos) (aKX t):=.i (aLJ h.o)
theorem bR (h:ZA X es t):ZE X (.List es pos) (aJD t):=.i (aJH h.o)
end
section
variable {X:Cx} {st:Stmt} {dF:List Stmt} {t u:DS} {e:Expr} {te:DE} {pos:Pos}
theorem aT :ZSs X [] aGe:=.i (aIg)
theorem aF (h1:ZS X st t) (h2:ZSs X dF u):ZSs X (st :: dF) (aLA t u):=.i (aGR h1.o h2.o)
theorem aE (h1:ZS X st t):ZSs X [st] t:=.i (aHS h1.o)
theorem dD (he:ZE X e te) (hs:swapsWith e none pos.line X.env = pure false:=by rfl):ZS X (.Expr e pos) (aFJ te):=.i (aHC he.o hs)
theorem aM (he:ZE X e te):ZS X (.Return (some e) pos) (aKk te):=.i (aKp he.o)
theorem aX {c:Expr} {a b:List Stmt} {tc:DT} (hc:ZT X c tc) (ha:ZSs X a t) (hb:ZSs X b u):ZS X (.If c a b pos) (aJK tc t u):=.i (aM9 hc.o ha.o hb.o)
theorem mK :ZS X st aCQ:=.i (aGS)
end
section
variable {X:Cx} {pos:Pos} {e tg:Expr} {es:List Expr} {te:DE}
theorem aV {i:Nat} {x:Str} (hN:X.N.Nodup) (hi:X.N[i]? = some x:=by rfl) (hx:Loc X.env.scope x:=by first | exact Or.inl rfl | exact Or.inr rfl) (hf:X.fn x = true ∨ X.env.scope.names.lookup x = some .local:=by first | exact .inl rfl | exact .inr rfl | assumption):ZG X (.Name x pos) (gN i):=.i (aID (i:=i) hN hi hx hf)
theorem gQ :ZGs X [] gNl:=.i (aHz)
theorem bW {t:DG} {u:DGs} (h1:ZG X e t) (h2:ZGs X es u) (hs:(assignEach (e :: es) X.env).map (·.2) = assign e X.env :: (assignEach es X.env).map (·.2):=by rfl):ZGs X (e :: es) (gCn t u):=.i (aFK h1.o h2.o hs)
theorem jX {g:DG} (he:ZE X e te) (hg:ZG X tg g) (hs:swapsWithSole [tg] e pos.line X.env = pure false:=by rfl) (hw:swappedStores [tg] e X.env = pure none:=by rfl) (h1:(assignEach [tg] X.env).map (·.2) = [assign tg X.env]:=by rfl):ZS X (.Assign [tg] e pos) (aEj te g):=.i (aL2 he.o hg.o hs hw h1)
theorem aO {i:Nat} {x:Str} {pos':Pos} (hN:X.N.Nodup) (he:ZE X e te) (hi:X.N[i]? = some x:=by rfl) (hx:Loc X.env.scope x:=by first | exact Or.inl rfl | exact Or.inr rfl) (hs:swapsWith e (some (.Name x pos')) pos.line X.env = pure false:=by rfl) (hf:X.fn x = true ∨ X.env.scope.names.lookup x = some .local:=by first | exact .inl rfl | exact .inr rfl | assumption):ZS X (.Assign [.Name x pos'] e pos) (aEj te (gN i)):=.i (aL4 (i:=i) hN he.o hi hx hs hf)
theorem qI {i j:Nat} {x y:Str} {a b:Expr} {ta:DA} {px py pt:Pos} {kt k2 pt2} (hc:X.calm = true) (hN:X.N.Nodup) (ha:ZA X [a,b] ta) (hi:X.N[i]? = some x:=by rfl) (hj:X.N[j]? = some y:=by rfl) (hij:i ≠ j:=by decide) (hx:X.env.scope.names.lookup x = some .local:=by rfl) (hy:X.env.scope.names.lookup y = some .local:=by rfl) (hw:swappedStores [.Tuple [.Name x px,.Name y py] kt pt] (.Tuple [a,b] k2 pt2) X.env = pure (some [x,y]):=by rfl) (hs:swapsWithSole [.Tuple [.Name x px,.Name y py] kt pt] (.Tuple [a,b] k2 pt2) pos.line X.env = pure false:=by rfl):ZS X (.Assign [.Tuple [.Name x px,.Name y py] kt pt] (.Tuple [a,b] k2 pt2) pos) (aKP i j ta):=.i (aLx (i:=i) (j:=j) hc hN ha.o hi hj hij hx hy hw hs)
end
section
variable {X:Cx} {pos:Pos}
theorem kF {c:Expr} {body:List Stmt} {tc:DT} {tb:DS} (hp:PassesOwn (model X.prog X.w) X.A X.env X.xe) (hc:ZT X c tc) (hb:ZSs X body tb):ZS X (.While c body [] pos) (aDp tc tb):=.i (aGB hp hc.o hb.o)
variable {iter tg:Expr} {body:List Stmt} {tl:DE} {g:DG} {tb:DS}
end
section
variable {X:Cx} {pos:Pos} {iter tg:Expr} {body:List Stmt} {tl:DE} {g:DG} {tb:DS} {ta:DA}
theorem iN (hp:PassesOwn (model X.prog X.w) X.A X.env X.xe) (hc:X.calm = true) (hi:ZE X iter tl) (hg:ZG X tg g) (hb:ZSs X body tb) (hs:∀ x,foldedSetIterable iter X.env x = pure x:=by intro _;rfl):ZS X (.For tg iter body [] pos) (aCc tl g tb):=.i (aD2 hp hc hi.o hg.o hb.o hs)
theorem aGk (hp:PassesOwn (model X.prog X.w) X.A X.env X.xe) (hc:X.calm = true) (hi:ZE X iter tl) (hg:ZG X tg g) (hb:ZSs X body tb) (hs:∀ x,foldedSetIterable iter X.env x = pure x:=by intro _;rfl):ZS X (.For tg iter body [] pos) (aCa tl g tb):=.i (aD7 hp hc hi.o hg.o hb.o hs)
theorem yM {a:Expr} {p pos':Pos} (hp:PassesOwn (model X.prog X.w) X.A X.env X.xe) (hc:X.calm = true) (hmg:X.mg "range" = none) (ha:ZA X [a] ta) (hg:ZG X tg g) (hb:ZSs X body tb) (hgl:Gl X "range":=by rfl) (hse:starEach [a] X.env = [(false,eval a X.env)]:=by rfl) (hs:∀ x,foldedSetIterable (.Call (.Name "range" p) [a] [] pos') X.env x = pure x:=by intro _;rfl):ZS X (.For tg (.Call (.Name "range" p) [a] [] pos') body [] pos) (aE5 ta g tb):=.i (aIP hp hc hmg ha.o hg.o hb.o hgl hse hs)
end
section
variable {X:Cx} {pins:List (Addr × Obj)} {σ:L2.St} {H:Hp} {s:Shared}
end
section
variable {X:Cx} {a b e o:Expr} {es:List Expr} {ta tb te to:DE} {t:DA} {pos:Pos}
theorem eL (ha:ZE X a ta):ZE X (.UnaryOp .USub a pos) (aJY ta):=.i (aKf ha.o)
theorem aH (ha:ZE X a ta) (hb:ZE X b tb) (hs:sS b:=by exact fun _ _=>rfl):ZE X (.Subscript a b pos) (dOp mP ta tb):=.i (aNY ha.o hb.o hs)
theorem kK :ZO X none aLN:=.i (aHv)
theorem fO (h:ZE X e te):ZO X (some e) (dPt te):=.i (aIs h.o)
variable {lo hi:Option Expr} {tl th:DO} {p2:Pos}
theorem aAs (he:ZE X e te) (hl:ZO X lo tl) (hu:ZO X hi th):ZE X (.Subscript e (.Slice lo hi none p2) pos) (dSl te tl th):=.i (aGX he.o hl.o hu.o)
variable {CX:CXT} {k:Nat} {f:Addr} {fd:FuncData} {ps:List Str} {sp:DSp} {E:XK} {x:Str} {p:Pos}
theorem cD {id:String} {r:DSp} (hc:gM X (.builtin id) r) (hm:X.mg x = none) (ha:ZA X (e :: es) t) (hv:bootBuiltins x = some (.builtin id):=by rfl) (hg:Gl X x:=by rfl) (hn:x ≠ "__name__":=by decide) (hdb:(x == ("__debug__":Str)) = false:=by decide) (he:starEach (e :: es) X.env = (false,eval e X.env) :: starEach es X.env:=by rfl) (hpl:(backTo pos (starEach es X.env)).any (·.1) = false:=by rfl):ZE X (.Call (.Name x p) (e :: es) [] pos) (oB r t):=.i (aFe (id:=id) hc hm ha.o hv hg hn hdb he hpl)
theorem cQ {T:String} {r:DSp} (hc:gM X (.type T) r) (hm:X.mg x = none) (ha:ZA X (e :: es) t) (hv:bootBuiltins x = some (.type T):=by rfl) (hg:Gl X x:=by rfl) (hn:x ≠ "__name__":=by decide) (hdb:(x == ("__debug__":Str)) = false:=by decide) (he:starEach (e :: es) X.env = (false,eval e X.env) :: starEach es X.env:=by rfl) (hpl:(backTo pos (starEach es X.env)).any (·.1) = false:=by rfl):ZE X (.Call (.Name x p) (e :: es) [] pos) (oB r t):=.i (aEu (T:=T) hc hm ha.o hv hg hn hdb he hpl)
end
section
variable {X:Cx} {a b e o:Expr} {es:List Expr} {ta tb te to:DE} {t:DA} {pos:Pos}
theorem dO {apos cpos:Pos} (ho:ZE X o to) (he:ZE X e te) (hse:starEach [e] X.env = (false,eval e X.env) :: starEach [] X.env:=by rfl) (hbase:attributeBase o "append" X.env (eval o X.env) = eval o X.env:=by rfl) (hfew:((backTo cpos (starEach [e] X.env)).all (fun x=>!x.1) && (backToKw cpos (keywordEach [] X.env)).all (fun x=>x.1.isSome)
   && decide ([e].length + ([]:List Keyword).length + (if ([]:List Keyword).isEmpty then 0 else 1) < 30)) = true:=by rfl) (hline:(apos.endLine == cpos.line) = true:=by rfl) (hplain:(backTo cpos (starEach [] X.env)).any (·.1) = false:=by rfl):ZE X (.Call (.Attribute o "append" apos) [e] [] cpos) (aBG to te):=.i (aEg ho.o he.o hse hbase hfew hline hplain)
theorem fV {T:String} {x:Str} {p p2:Pos} (he:ZE X e te) (hm:X.mg "isinstance" = none) (hmx:X.mg x = none) (hv:bootBuiltins x = some (.type T):=by rfl) (hg:Gl X "isinstance":=by rfl) (hgx:Gl X x:=by rfl) (hn:x ≠ "__name__":=by decide) (hdb:(x == ("__debug__":Str)) = false:=by decide) (hse:starEach [e,.Name x p2] X.env = (false,eval e X.env) :: starEach [.Name x p2] X.env:=by rfl) (hse2:starEach [.Name x p2] X.env = (false,eval (.Name x p2) X.env) :: starEach [] X.env:=by rfl) (hpl:(backTo pos (starEach [.Name x p2] X.env)).any (·.1) = false:=by rfl):ZE X (.Call (.Name "isinstance" p) [e,.Name x p2] [] pos) (dIs X.K (.type T) te):=.i (aIH (T:=T) he.o hm hmx hv hg hgx hn hdb hse hse2 hpl)
end
section
variable {P:Program} {w:World} {K:PySem.W.Frag} {mg:Str->Option Value} {base:Heap}
end
section
variable {P:Program} {w:World} {K:PySem.W.Frag} {mg:Str->Option Value} {base:Heap}
end
section
variable {X:Cx} {a b c e:Expr} {es:List Expr} {ta tb te:DE} {t:DA} {pos p:Pos} {x:Str} {ps:List Str} {sp:DSp} {k j:Nat}
theorem aG (h:Has X.prog X.w X.K X.mg X.base k x ps sp) (hr:eP j X.A) (hkj:k<=j) (ha:ZA X (e :: es) t) (hg:Gl X x:=by rfl) (hdb:(x == ("__debug__":Str)) = false:=by decide) (he:starEach (e :: es) X.env = (false,eval e X.env) :: starEach es X.env:=by rfl) (hpl:(backTo pos (starEach es X.env)).any (·.1) = false:=by rfl):ZE X (.Call (.Name x p) (e :: es) [] pos) (oB sp t):=.i (aG1 h hr hkj ha.o hg hdb he hpl)
theorem aDw (h:Has X.prog X.w X.K X.mg X.base k x ps sp) (hr:eP j X.A) (hkj:k<=j) (hg:Gl X x:=by rfl) (hdb:(x == ("__debug__":Str)) = false:=by decide):ZE X (.Call (.Name x p) [] [] pos) (oB sp oF):=.i (aEP h hr hkj hg hdb)
theorem bE {d:D} (h:fC X.K X.mg x d) (hg:Gl X x:=by rfl) (hd:(x == ("__debug__":Str)) = false:=by decide):ZE X (.Name x pos) (dC d):=.i (aFx h hg hd)
theorem qG {i:Nat} {op:Operator} {g:Int->Int->Int} {pos':Pos} (ho:PIp X op (ipI g)) (hN:X.N.Nodup) (he:ZE X e te) (hi:X.N[i]? = some x:=by rfl) (hx:Loc X.env.scope x:=by first | exact Or.inl rfl | exact Or.inr rfl) (hf:X.fn x = true ∨ X.env.scope.names.lookup x = some .local:=by first | exact .inl rfl | exact .inr rfl | assumption):ZS X (.AugAssign (.Name x pos') op e pos) (aHi i te g):=.i (aIz (i:=i) (op:=op) ho hN he.o hi hx hf)
end
section
variable {prog:Program} {w:World} {A:Around} {E:Value->Shared->Prop} {s:Shared}
end
section
variable {X:Cx} {pos:Pos} {e a b:Expr} {es:List Expr} {te ta tb:DE}
theorem kC {k:Nat} {t:DGs} {n:Nat} (hc:X.calm = true) (h:ZGs X es t) (hn:(assignEach es X.env).length = n:=by rfl) (hst:(assignEach es X.env).findIdx? (·.1) = none:=by rfl):ZG X (.Tuple es k pos) (gU n t):=.i (aJO (n:=n) hc h.o hn hst)
end
section
variable {M:DM} {Q:DQ} {g:Bool->Bool} {ds:List D} {i:Int} {a:Addr} {α:Type} {x0 x1 x2 x3 x4 x5:α} {l:List α}
end
section
variable {K:PySem.W.Frag} {H:Hp} {ρ:cV} {σ:L2.St}
end
section
variable {X:Cx} {g:DG} {te:DE}
variable {elt iter tg:Expr} {scope:Scope} {pos:Pos} {N':List Str} {fr:List (Option Nat)} {tl:DE} {ta:DA} {oN:List Str} {osc:Scope}
theorem aDG (B:qP oN osc N' fr scope) (hc:X.calm = true) (hi:ZE X iter tl) (hg:∀ C s H fp pins,ZG (X.blk N' scope C s H fp pins) tg g) (he:∀ C s H fp pins,ZE (X.blk N' scope C s H fp pins) elt te) (hN:X.N = oN:=by rfl) (ho:X.env.scope = osc:=by rfl) (hs:∀ x,foldedSetIterable iter X.env x = pure x:=by intro _;rfl):ZE X (.ListComp elt [⟨tg,iter,[],0⟩] scope pos) (aGp tl fr g te):=.i (aJS B hc hi.o (fun C s H fp pins=>(hg C s H fp pins).o) (fun C s H fp pins=>(he C s H fp pins).o) hN ho hs)
theorem wL (B:qP oN osc N' fr scope) (hc:X.calm = true) (hi:ZE X iter tl) (hg:∀ C s H fp pins,ZG (X.blk N' scope C s H fp pins) tg g) (he:∀ C s H fp pins,ZE (X.blk N' scope C s H fp pins) elt te) (hN:X.N = oN:=by rfl) (ho:X.env.scope = osc:=by rfl) (hs:∀ x,foldedSetIterable iter X.env x = pure x:=by intro _;rfl):ZE X (.ListComp elt [⟨tg,iter,[],0⟩] scope pos) (aLd tl fr g te):=.i (aLP B hc hi.o (fun C s H fp pins=>(hg C s H fp pins).o) (fun C s H fp pins=>(he C s H fp pins).o) hN ho hs)
theorem xR {i:Nat} {y:Str} {spos py:Pos} (B:qP oN osc N' fr scope) (hc:X.calm = true) (hNd:X.N.Nodup) (hi:ZE X iter tl) (hg:∀ C s H fp pins,ZG (X.blk N' scope C s H fp pins) tg g) (he:∀ C s H fp pins,ZE (X.blk N' scope C s H fp pins) elt te) (hy:X.N[i]? = some y:=by rfl) (hx:Loc X.env.scope y:=by first | exact Or.inl rfl | exact Or.inr rfl) (hsw:swapsWith (.ListComp elt [⟨tg,iter,[],0⟩] scope pos) (some (.Name y py)) spos.line X.env = pure true:=by rfl) (hf:X.fn y = true ∨ X.env.scope.names.lookup y = some .local:=by first | exact .inl rfl | exact .inr rfl | assumption) (hN:X.N = oN:=by rfl) (ho:X.env.scope = osc:=by rfl) (hs:∀ x,foldedSetIterable iter X.env x = pure x:=by intro _;rfl):ZS X (.Assign [.Name y py] (.ListComp elt [⟨tg,iter,[],0⟩] scope pos) spos) (aDA i (aGp tl fr g te)):=.i (aEf (i:=i) B hc hNd hi.o (fun C s H fp pins=>(hg C s H fp pins).o) (fun C s H fp pins=>(he C s H fp pins).o) hy hx hsw hf hN ho hs)
end
variable {X:Cx}
section
variable {g:DG} {te:DE} {tb:DS} {Q:DQ} {ρ0:cV}
end
section
variable {e:Expr} {te:DE} {pos:Pos}
end
section
variable {X:Cx} {e:Expr} {te:DE} {pos p2:Pos} {lo hi:Option Expr} {tl th:DO}
end
section
variable {X:Cx} {a n:Expr} {ta:DE} {tn:DA} {pos p pos':Pos}
end
section
variable {X:Cx} {a b c e o:Expr} {es:List Expr} {ta tb tc te to:DE} {pos:Pos}
theorem aAH {op op':CmpOp} {r r':D2} (ho:OpD X (compareOp op) r) (ho':OpD X (compareOp op') r') (ha:ZE X a ta) (hb:ZE X b tb) (hc:ZE X c tc) (hm:lastMarks [op,op'] [b,c] = false:=by with_unfolding_all rfl):ZE X (.Compare a [op,op'] [b,c] pos) (aAM r r' ta tb tc):=.i (aGE (op:=op) (op':=op') ho ho' ha.o hb.o hc.o hm)
end
section
variable {X:Cx} {e k:Expr} {te tk:DE} {pos p2:Pos}
end
section
variable {X:Cx} {pos:Pos} {iter tg:Expr} {body:List Stmt} {tl:DE} {g:DG} {tb:DS} {ta:DA}
end
section
variable {X:Cx} {x:Str} {V:DM->Prop} {e:Expr} {es:List Expr} {t:DA} {np cpos pos:Pos}
theorem aEz (R:tP X x V) (ha:ZA X (e :: es) t) (hg:Gl X x:=by rfl) (hd:(x == ("__debug__":Str)) = false:=by decide) (he:starEach (e :: es) X.env = (false,eval e X.env) :: starEach es X.env:=by rfl) (hpl:(backTo cpos (starEach es X.env)).any (·.1) = false:=by rfl):ZS X (.Raise (some (.Call (.Name x np) (e :: es) [] cpos)) none pos) (aDn V t):=.i (aFl R ha.o hg hd he hpl)
end
section
variable {P:Program} {w:World} {K:PySem.W.Frag} {mg:Str->Option Value} {base:Heap}
end
section
variable {X:Cx} {pins:List (Addr × Obj)} {σ:L2.St} {H:Hp} {s:Shared} {a:Addr} {o:Obj}
end
section
variable {X:Cx} {a:Expr} {e:Expr} {es:List Expr} {t:DA} {x f n cm:Str} {ps:List Str} {sp:DSp} {cond:List D->DM->Prop} {C Cm:Addr} {k1 k2 k i j:Nat} {ts:Addr->DS} {b0:Stmt} {suite:List Stmt} {px pf pc pa pcm ph pos:Pos}
end
section
end
section
variable {X:Cx} {n c:Str} {C Cc a:Addr} {o:Obj} {p p1 p2 pos:Pos} {j:Nat}
end
section
variable {prog:Program} {w:World} {A:Around} {E:Value->Shared->Prop} {s:Shared} {K:Frag} {x C D:Addr} {ox:Obj}
end
section
variable {X:Cx} {a C:Addr} {o:Obj}
end
section
end
section
variable {X:Cx} {j:Nat}
end
section
variable {X:Cx} {st:Stmt} {dF:List Stmt} {t u:DS}
theorem gR (h1:ZS X st t) (h2:ZSs X dF u):ZSs X (st :: dF) (aLf t u):=.i (aHh h1.o h2.o)
end
section
variable {X:Cx} {e:Expr} {es:List Expr} {t:DA} {x f cm:Str} {ps:List Str} {sp:DSp} {cond:List D->DM->Prop} {C Cm:Addr} {k1 k2 k i:Nat} {ts:DS} {b0:Stmt} {suite:List Stmt} {px pf pc pa pcm ph pos:Pos}
end
section
variable {P:Program} {w:World} {K:PySem.W.Frag} {mg:Str->Option Value} {base:Heap}
theorem Fun.okZ {x qual:Str} {st:Stmt} {f:Addr} {fd:FuncData} {N ps:List Str} {k:Nat} {sp:DSp} (F:L2.Fun K x qual st f fd) (S:aQ N ps (aJ st)) (len:∀ ds M Q,sp ds M Q->ds.length = ps.length)
  (hbody:∀ (cdv:Value) (A:Around) (outer:List Env) (s:Shared) (H:Hp) (ds:List D) (M:DM) (Q:DQ) (E:XK),eP k (A.deeper (envOfC qual (aJ st) s.heap.objs.size f cdv))->sp ds M Q ->
   ∃ t,ZSs (kD CX0 P w K mg base N qual (aJ st) f cdv A outer s H E).nox (eT st) t/\t { nx:=fun _ M'=>Dn Q .non M',rt:=Dn Q } (iJ N ds) M):jJ P w K mg base CX0 (k + 1) f fd ps (vG K sp) :=
 Fun.okD F S len fun cdv A outer s H ds M Q E hr h=>let ⟨t,h1,h2⟩:=hbody cdv A outer s H ds M Q E hr h;⟨t,h1.o,h2⟩
theorem Has.mkZ {x:Str} {st:Stmt} {N ps:List Str} {k:Nat} {sp:DSp} (h:bX K mg x st ps) (S:aQ N ps (aJ st)) (len:∀ ds M Q,sp ds M Q->ds.length = ps.length)
  (hbody:∀ (f:Addr) (cdv:Value) (A:Around) (outer:List Env) (s:Shared) (H:Hp) (ds:List D) (M:DM) (Q:DQ) (E:XK),eP k (A.deeper (envOfC x (aJ st) s.heap.objs.size f cdv))->sp ds M Q ->
   ∃ t,ZSs (kD CX0 P w K mg base N x (aJ st) f cdv A outer s H E).nox (eT st) t/\t { nx:=fun _ M'=>Dn Q .non M',rt:=Dn Q } (iJ N ds) M):Has P w K mg base (k + 1) x ps sp :=
 Has.mk h S len fun f cdv A outer s H ds M Q E hr h=>let ⟨t,h1,h2⟩:=hbody f cdv A outer s H ds M Q E hr h;⟨t,h1.o,h2⟩
end
section
variable {P:Program} {w:World} {K:PySem.W.Frag} {mg:Str->Option Value} {base:Heap}
end
end Dd
namespace Mz
open PySem
noncomputable def Bd (n:Nat) (x:Int):Prop:=x.natAbs < 2 ^ n
theorem Bd.mono {m n:Nat} {x:Int} (h:Bd m x) (l:m<=n):Bd n x:=Nat.lt_of_lt_of_le h (Nat.pow_le_pow_right (by decide) l)
theorem Bd.neg {n:Nat} {x:Int} (h:Bd n x):Bd n (-x):=by unfold Bd at *;rw [Int.natAbs_neg];exact h
theorem Bd.add {m:Nat} {x y:Int} (h:Bd m x) (h2:Bd m y):Bd (m + 1) (x + y):=by
 unfold Bd at *
 have:=Int.natAbs_add_le x y
 rw [Nat.pow_succ]
 omega
theorem Bd.sub {m:Nat} {x y:Int} (h:Bd m x) (h2:Bd m y):Bd (m + 1) (x - y):=by
 rw [Int.sub_eq_add_neg];exact h.add h2.neg
theorem Bd.mul {m n:Nat} {x y:Int} (h:Bd m x) (h2:Bd n y):Bd (m + n) (x * y):=by
 unfold Bd at *
 rw [Int.natAbs_mul,Nat.pow_add]
 exact Nat.mul_lt_mul'' h h2
theorem Bd.of {n:Nat} {x:Int} (h1:-(2 ^ n:Nat) < x) (h2:x < (2 ^ n:Nat)):Bd n x:=by unfold Bd;omega
theorem Bd.log {n:Nat} {x:Int} (h:Bd n x) (h0:0 < n):x.natAbs.log2 < n:=by
 rcases Nat.eq_zero_or_pos x.natAbs with e | e
 ·rw [e];simpa using h0
 ·exact (Nat.log2_lt (Nat.ne_of_gt e)).mpr h
theorem Bd.bits {n:Nat} {x:Int} (h:Bd n x):Builtin.Int.intBits x<=n + 1:=by
 unfold Builtin.Int.intBits
 split
 ·exact Nat.zero_le _
 ·rcases Nat.eq_zero_or_pos n with e | e
  ·subst e
   have:x.natAbs < 1:=h
   have:x.natAbs = 0:=by omega
   rw [this];decide
  ·have:=h.log e
   omega
theorem dA {m n:Nat} {x y:Int} (h:Bd m x) (h2:Bd n y) (l:m + n<=100000000:=by decide):IntMulOk x y:=IntMulOk.of_le h.bits h2.bits (by omega)
theorem oZ {x y:Int} (h:Bd 63 x):IntMulOk x y:=IntMulOk.of_left (by have:=h.bits;omega)
theorem rE {x y:Int} (h:Bd 63 y):IntMulOk x y:=IntMulOk.of_right (by have:=h.bits;omega)
theorem aAU {a b:Int} (h:b ≠ 0):(a.fmod b).natAbs < b.natAbs:=by
 rcases Int.lt_or_lt_of_ne h with hb | hb
 ·have e:=Int.fmod_eq_emod (a:=a) (b:=b)
  have h1:=Int.emod_nonneg a h
  have h2:=Int.emod_lt_of_neg a hb
  by_cases hd:b ∣ a
  ·rw [if_pos (.inr hd)] at e
   have:=Int.emod_eq_zero_of_dvd hd
   omega
  ·rw [if_neg (by omega)] at e
   have h3:a % b ≠ 0:=fun z=>hd (Int.dvd_of_emod_eq_zero z)
   omega
 ·have h1:=Int.fmod_nonneg_of_pos a hb
  have h2:=Int.fmod_lt_of_pos a hb
  omega
theorem xU (a b:Int):Int.gcd b (a.fmod b) = Int.gcd a b:=by
 rw [Int.fmod_def,Int.mul_comm b,Int.gcd_sub_mul_right_right,Int.gcd_comm]
noncomputable def sg (t b:Int):Int:=if b < 0 then -(Int.gcd t b:Int) else (Int.gcd t b:Int)
noncomputable def fT (t b:Int):Int:=t.fdiv (sg t b)
noncomputable def fB (t b:Int):Int:=b.fdiv (sg t b)
theorem lE {t b:Int} (h:b ≠ 0):0 < Int.gcd t b:=Nat.pos_of_ne_zero fun z=>h (Int.gcd_eq_zero_iff.mp z).2
theorem aJo {t b:Int} (h:b ≠ 0):sg t b ≠ 0:=by
 have:=lE (t:=t) h
 unfold sg;split<;>omega
theorem pO (t b:Int):sg t b ∣ t:=by
 have h:=Int.gcd_dvd_left t b
 unfold sg
 split
 ·exact Int.neg_dvd.mpr h
 ·exact h
theorem pC (t b:Int):sg t b ∣ b:=by
 have h:=Int.gcd_dvd_right t b
 unfold sg
 split
 ·exact Int.neg_dvd.mpr h
 ·exact h
theorem aK6 {t b:Int} (h:b ≠ 0):fT t b * sg t b = t:=by
 unfold fT;rw [Int.fdiv_eq_ediv_of_dvd (pO t b)];exact Int.ediv_mul_cancel (pO t b)
theorem aGI {t b:Int} (h:b ≠ 0):fB t b * sg t b = b:=by
 unfold fB;rw [Int.fdiv_eq_ediv_of_dvd (pC t b)];exact Int.ediv_mul_cancel (pC t b)
theorem aLO {t b:Int} (h:b ≠ 0):0 < fB t b:=by
 have e:=aGI (t:=t) h
 have hg:=lE (t:=t) h
 rcases Int.lt_trichotomy (fB t b) 0 with z | z | z
 ·exfalso
  unfold sg at e
  split at e
  ·rename_i hb
   have:=Int.mul_pos_of_neg_of_neg z (show -(Int.gcd t b:Int) < 0 by omega)
   omega
  ·rename_i hb
   have:=Int.mul_neg_of_neg_of_pos z (show 0 < (Int.gcd t b:Int) by omega)
   omega
 ·rw [z] at e;omega
 ·exact z
theorem aLa {t b:Int} (h:b ≠ 0):fT t b * b = fB t b * t:=by
 have e1:=aK6 (t:=t) h
 have e2:=aGI (t:=t) h
 have:fT t b * (fB t b * sg t b) = fB t b * (fT t b * sg t b):=by grind
 rw [e1,e2] at this
 exact this
theorem aAy (t b:Int):(sg t b).natAbs = Int.gcd t b:=by unfold sg;split<;>simp
theorem aOo {t b:Int} (h:b ≠ 0):Int.gcd (fT t b) (fB t b) = 1:=by
 unfold fT fB
 rw [Int.fdiv_eq_ediv_of_dvd (pO t b),Int.fdiv_eq_ediv_of_dvd (pC t b),Int.gcd_ediv (pO t b) (pC t b),aAy]
 exact Nat.div_self (lE h)
theorem Bd.fT {n:Nat} {t b:Int} (h:Bd n t):Bd n (fT t b):=by
 unfold Bd at *;unfold Mz.fT;rw [Int.fdiv_eq_ediv_of_dvd (pO t b)]
 exact Nat.lt_of_le_of_lt (Int.natAbs_ediv_le_natAbs _ _) h
theorem Bd.fB {n:Nat} {t b:Int} (h:Bd n b):Bd n (fB t b):=by
 unfold Bd at *;unfold Mz.fB;rw [Int.fdiv_eq_ediv_of_dvd (pC t b)]
 exact Nat.lt_of_le_of_lt (Int.natAbs_ediv_le_natAbs _ _) h
theorem Bd.sg {n:Nat} {t b:Int} (h:Bd n b) (h0:b ≠ 0):Bd n (sg t b):=by
 unfold Bd at *
 rw [aAy]
 have:=Nat.le_of_dvd (by omega) (Int.natAbs_dvd_natAbs.mpr (Int.gcd_dvd_right t b))
 simp at this
 omega
theorem xP {a b c:Int} (h:b ∣ a * c) (g:Int.gcd b a = 1):b ∣ c:=by
 have h':b.natAbs ∣ a.natAbs * c.natAbs:=by rw [<- Int.natAbs_mul];exact Int.natAbs_dvd_natAbs.mpr h
 exact Int.natAbs_dvd_natAbs.mp (Nat.Coprime.dvd_of_dvd_mul_left g h')
theorem qU {t b t' b':Int} (h:0 < b) (h':0 < b') (g:Int.gcd t b = 1) (g':Int.gcd t' b' = 1) (e:t * b' = t' * b):t = t'/\b = b':=by
 have d1:b ∣ b':=by
  have:b ∣ t * b':=⟨t',by rw [e];exact Int.mul_comm _ _⟩
  exact xP this (by rw [Int.gcd_comm];exact g)
 have d2:b' ∣ b:=by
  have:b' ∣ t' * b:=⟨t,by rw [<- e];exact Int.mul_comm _ _⟩
  exact xP this (by rw [Int.gcd_comm];exact g')
 have e1:b = b':=Int.le_antisymm (Int.le_of_dvd h' d1) (Int.le_of_dvd h d2)
 subst e1
 exact ⟨Int.eq_of_mul_eq_mul_right (by omega) e,rfl⟩
end Mz
namespace Mz
open PySem
theorem den_pos (q:Rat):(0:Int) < (q.den:Int):=by have:=q.den_pos;omega
theorem eI (q:Rat):(q.den:Int) ≠ 0:=by have:=q.den_pos;omega
theorem wY (q:Rat):((q.den:Int):Rat) ≠ 0:=by
 intro h
 have:(q.den:Int) = 0:=by exact_mod_cast h
 exact eI q this
theorem aIA (q:Rat):(q.num:Rat) / ((q.den:Int):Rat) = q:=by
 have h:=Rat.num_divInt_den q
 rw [Rat.divInt_eq_div] at h
 exact h
theorem gP (q:Rat):(q.num:Rat) = q * ((q.den:Int):Rat):=by
 have h:=aIA q
 have h2:=wY q
 grind
theorem aDV {t b:Int} (h:b ≠ 0):fT t b = ((t:Rat) / (b:Rat)).num/\fB t b = ((((t:Rat) / (b:Rat)).den:Nat):Int):=by
 have hb:(b:Rat) ≠ 0:=by exact_mod_cast h
 refine qU (aLO h) (den_pos _) (aOo h) ?_ ?_
 ·have:=((t:Rat) / (b:Rat)).reduced
  unfold Nat.Coprime at this
  rw [<- this]
  rfl
 ·have e1:=aLa (t:=t) h
  have e2:=gP ((t:Rat) / (b:Rat))
  have e3:((fT t b:Int):Rat) * b = (fB t b:Int) * (t:Rat):=by rw [<- Rat.intCast_mul,<- Rat.intCast_mul,e1]
  have e4:((fT t b:Int):Rat) * ((((t:Rat) / (b:Rat)).den:Int):Rat) = ((((t:Rat) / (b:Rat)).num:Int):Rat) * (fB t b:Int):=by
   rw [e2]
   grind
  rw [<- Rat.intCast_mul,<- Rat.intCast_mul] at e4
  exact Rat.intCast_inj.mp e4
noncomputable def BQ (n:Nat) (q:Rat):Prop:=Bd n q.num/\Bd n (q.den:Int)
theorem BQ.mono {m n:Nat} {q:Rat} (h:BQ m q) (l:m<=n):BQ n q:=⟨h.1.mono l,h.2.mono l⟩
theorem BQ.make {n:Nat} {t b:Int} (h:b ≠ 0) (h1:Bd n t) (h2:Bd n b):BQ n ((t:Rat) / (b:Rat)):=by
 obtain ⟨e1,e2⟩:=aDV (t:=t) h
 exact ⟨e1 ▸ h1.fT,e2 ▸ h2.fB⟩
theorem aNW (p q:Rat):(((p.num * q.den + q.num * p.den:Int)):Rat) / ((p.den * q.den:Int):Rat) = p + q:=by
 have h1:=wY p
 have h2:=wY q
 have e1:=gP p
 have e2:=gP q
 rw [Rat.intCast_add,Rat.intCast_mul,Rat.intCast_mul,Rat.intCast_mul,e1,e2]
 grind
theorem aOC (p q:Rat):(((p.num * q.den - q.num * p.den:Int)):Rat) / ((p.den * q.den:Int):Rat) = p - q:=by
 have h1:=wY p
 have h2:=wY q
 have e1:=gP p
 have e2:=gP q
 rw [Rat.intCast_sub,Rat.intCast_mul,Rat.intCast_mul,Rat.intCast_mul,e1,e2]
 grind
theorem aKj (p q:Rat):(((p.num * q.num:Int)):Rat) / ((p.den * q.den:Int):Rat) = p * q:=by
 have h1:=wY p
 have h2:=wY q
 have e1:=gP p
 have e2:=gP q
 rw [Rat.intCast_mul,Rat.intCast_mul,e1,e2]
 grind
theorem BQ.add {m n:Nat} {p q:Rat} (h:BQ m p) (h2:BQ n q):BQ (m + n + 1) (p + q):=by
 rw [<- aNW]
 exact .make (Int.mul_ne_zero (eI p) (eI q)) ((h.1.mul h2.2).add ((h2.1.mul h.2).mono (by omega))) ((h.2.mul h2.2).mono (by omega))
theorem BQ.sub {m n:Nat} {p q:Rat} (h:BQ m p) (h2:BQ n q):BQ (m + n + 1) (p - q):=by
 rw [<- aOC]
 exact .make (Int.mul_ne_zero (eI p) (eI q)) ((h.1.mul h2.2).sub ((h2.1.mul h.2).mono (by omega))) ((h.2.mul h2.2).mono (by omega))
theorem BQ.mul {m n:Nat} {p q:Rat} (h:BQ m p) (h2:BQ n q):BQ (m + n) (p * q):=by
 rw [<- aKj]
 exact .make (Int.mul_ne_zero (eI p) (eI q)) (h.1.mul h2.1) (h.2.mul h2.2)
theorem BQ.int {m:Nat} {z:Int} (h:Bd m z) (h0:0 < m):BQ m (z:Rat):=⟨by rw [Rat.num_intCast];exact h,by rw [Rat.den_intCast];unfold Bd;exact Nat.one_lt_two_pow (by omega)⟩
theorem ltQ (p q:Rat):(p.num * q.den < q.num * p.den) ↔ p < q:=(Rat.lt_iff p q).symm
theorem aIX {q:Rat}:0 < q.num ↔ 0 < q:=by
 have:=Rat.lt_iff 0 q
 simp at this
 exact this.symm
end Mz
namespace Mz
open PySem
theorem aJl {t b:Int} {q:Rat} (hb:0 < b) (hg:Int.gcd t b = 1) (e:(t:Rat) = q * (b:Rat)):t = q.num/\b = (q.den:Int):=by
 refine qU hb (den_pos q) hg ?_ ?_
 ·have:=q.reduced
  unfold Nat.Coprime at this
  rw [<- this]
  rfl
 ·have e2:=gP q
  have:((t * (q.den:Int):Int):Rat) = ((q.num * b:Int):Rat):=by
   rw [Rat.intCast_mul,Rat.intCast_mul,e,e2]
   grind
  exact Rat.intCast_inj.mp this
theorem nA {a b c:Int} (h:Int.gcd a b = 1) (h2:Int.gcd a c = 1):Int.gcd a (b * c) = 1:=by
 unfold Int.gcd at *
 rw [Int.natAbs_mul]
 exact Nat.Coprime.mul_right h h2
theorem eQ {a b:Int} (h:Int.gcd a b = 1):Int.gcd b a = 1:=by rw [Int.gcd_comm];exact h
theorem lB {a a' b:Int} (h:a ∣ a') (h2:Int.gcd a' b = 1):Int.gcd a b = 1:=by
 unfold Int.gcd at *
 exact Nat.Coprime.coprime_dvd_left (Int.natAbs_dvd_natAbs.mpr h) h2
theorem red (q:Rat):Int.gcd q.num (q.den:Int) = 1:=by
 have:=q.reduced
 unfold Nat.Coprime at this
 rw [<- this]
 rfl
theorem qK {x y:Int} (h:y ≠ 0):∃ a b:Int,x = (Int.gcd x y:Int) * a/\y = (Int.gcd x y:Int) * b/\Int.gcd a b = 1/\x.fdiv (Int.gcd x y:Int) = a/\y.fdiv (Int.gcd x y:Int) = b:=by
 have hp:0 < Int.gcd x y:=lE h
 obtain ⟨a,ha⟩:=Int.gcd_dvd_left x y
 obtain ⟨b,hb⟩:=Int.gcd_dvd_right x y
 have e1:x.fdiv (Int.gcd x y:Int) = a:=by
  rw [Int.fdiv_eq_ediv_of_dvd (Int.gcd_dvd_left x y)]
  exact Int.ediv_eq_of_eq_mul_right (by omega) ha
 have e2:y.fdiv (Int.gcd x y:Int) = b:=by
  rw [Int.fdiv_eq_ediv_of_dvd (Int.gcd_dvd_right x y)]
  exact Int.ediv_eq_of_eq_mul_right (by omega) hb
 refine ⟨a,b,ha,hb,?_,e1,e2⟩
 rw [<- e1,<- e2,Int.fdiv_eq_ediv_of_dvd (Int.gcd_dvd_left x y),Int.fdiv_eq_ediv_of_dvd (Int.gcd_dvd_right x y),Int.gcd_ediv (Int.gcd_dvd_left x y) (Int.gcd_dvd_right x y)]
 simp
 exact Nat.div_self hp
theorem aOb (p q:Rat):∀ g a t l:Int,g = (Int.gcd p.den q.den:Int)->a = (p.den:Int).fdiv g->t = p.num * (q.den:Int).fdiv g + q.num * a->l = (Int.gcd t g:Int) ->
  g ≠ 0/\l ≠ 0/\g ∣ (p.den:Int)/\l ∣ g/\t.fdiv l = (p + q).num/\a * (q.den:Int).fdiv l = ((p + q).den:Int):=by
 intro g a t l hg ha ht hl
 have d1:=den_pos p
 have d2:=den_pos q
 obtain ⟨a',b,e1,e2,cab,f1,f2⟩:=qK (x:=p.den) (y:=q.den) (eI q)
 rw [<- hg] at e1 e2 f1 f2
 rw [f1] at ha
 subst ha
 rw [f2] at ht
 have g0:0 < g:=by have:=lE (t:=(p.den:Int)) (eI q);omega
 have a0:0 < a:=by
  rcases Int.lt_trichotomy a 0 with z | z | z
  ·have:=Int.mul_neg_of_pos_of_neg g0 z;omega
  ·subst z;omega
  ·exact z
 have b0:0 < b:=by
  rcases Int.lt_trichotomy b 0 with z | z | z
  ·have:=Int.mul_neg_of_pos_of_neg g0 z;omega
  ·subst z;omega
  ·exact z
 obtain ⟨t',g',e3,e4,ctg,f3,f4⟩:=qK (x:=t) (y:=g) (by omega)
 rw [<- hl] at e3 e4 f3 f4
 have l0:0 < l:=by have:=lE (t:=t) (b:=g) (by omega);omega
 have g'0:0 < g':=by
  rcases Int.lt_trichotomy g' 0 with z | z | z
  ·have:=Int.mul_neg_of_pos_of_neg l0 z;omega
  ·subst z;omega
  ·exact z
 have f5:(q.den:Int).fdiv l = g' * b:=by
  have e:(q.den:Int) = l * (g' * b):=by rw [e2,e4];grind
  rw [Int.fdiv_eq_ediv_of_dvd ⟨_,e⟩]
  exact Int.ediv_eq_of_eq_mul_right (by omega) e
 refine ⟨by omega,by omega,⟨a,e1⟩,⟨g',e4⟩,?_⟩
 rw [f3,f5]
 have ca:Int.gcd t a = 1:=by
  have c1:Int.gcd p.num a = 1:=eQ (lB ⟨g,by rw [e1];grind⟩ (eQ (red p)))
  have:Int.gcd a (p.num * b) = 1:=nA (eQ c1) cab
  rw [ht,Int.gcd_comm,Int.gcd_add_mul_right_right]
  exact this
 have cb:Int.gcd t b = 1:=by
  have c1:Int.gcd q.num b = 1:=eQ (lB ⟨g,by rw [e2];grind⟩ (eQ (red q)))
  have:Int.gcd b (q.num * a) = 1:=nA (eQ c1) (eQ cab)
  rw [ht,Int.gcd_comm,Int.add_comm,Int.gcd_add_mul_right_right]
  exact this
 have hd:t' ∣ t:=⟨l,by rw [e3];grind⟩
 refine aJl (q:=p + q) (Int.mul_pos a0 (Int.mul_pos g'0 b0)) (nA (lB hd ca) (nA ctg (lB hd cb))) ?_
 have n1:=gP p
 have n2:=gP q
 have r1:=wY p
 have r2:=wY q
 have k1:((p.den:Int):Rat) = (l:Rat) * g' * a:=by rw [e1,e4,Rat.intCast_mul,Rat.intCast_mul]
 have k2:((q.den:Int):Rat) = (l:Rat) * g' * b:=by rw [e2,e4,Rat.intCast_mul,Rat.intCast_mul]
 have k3:(l:Rat) * t' = (p.num:Rat) * b + (q.num:Rat) * a:=by rw [<- Rat.intCast_mul,<- e3,ht,Rat.intCast_add,Rat.intCast_mul,Rat.intCast_mul]
 have k4:(l:Rat) ≠ 0:=fun z=>by
                     have:l = 0:=by exact_mod_cast z
                     omega
 rw [n1,n2,k1,k2] at k3
 rw [Rat.intCast_mul,Rat.intCast_mul]
 have:(l:Rat) * (t':Rat) = l * ((p + q) * ((a:Rat) * (g' * b))):=by rw [k3];grind
 grind
theorem aMi (p q:Rat):∀ f r:Int,f = (Int.gcd p.num q.den:Int)->r = (Int.gcd q.num p.den:Int) ->
  f ≠ 0/\r ≠ 0/\f ∣ (q.den:Int)/\r ∣ (p.den:Int)/\p.num.fdiv f * q.num.fdiv r = (p * q).num/\(p.den:Int).fdiv r * (q.den:Int).fdiv f = ((p * q).den:Int):=by
 intro f r hf hr
 have d1:=den_pos p
 have d2:=den_pos q
 obtain ⟨x,v,e1,e2,c1,f1,f2⟩:=qK (x:=p.num) (y:=q.den) (eI q)
 obtain ⟨y,u,e3,e4,c2,f3,f4⟩:=qK (x:=q.num) (y:=p.den) (eI p)
 rw [<- hf] at e1 e2 f1 f2
 rw [<- hr] at e3 e4 f3 f4
 have f0:0 < f:=by have:=lE (t:=p.num) (eI q);omega
 have r0:0 < r:=by have:=lE (t:=q.num) (eI p);omega
 have v0:0 < v:=by
  rcases Int.lt_trichotomy v 0 with z | z | z
  ·have:=Int.mul_neg_of_pos_of_neg f0 z;omega
  ·subst z;omega
  ·exact z
 have u0:0 < u:=by
  rcases Int.lt_trichotomy u 0 with z | z | z
  ·have:=Int.mul_neg_of_pos_of_neg r0 z;omega
  ·subst z;omega
  ·exact z
 refine ⟨by omega,by omega,⟨v,e2⟩,⟨u,e4⟩,?_⟩
 rw [f1,f2,f3,f4]
 have cxu:Int.gcd x u = 1:=lB ⟨f,by rw [e1];grind⟩ (eQ (lB ⟨r,by rw [e4];grind⟩ (eQ (red p))))
 have cyv:Int.gcd y v = 1:=lB ⟨r,by rw [e3];grind⟩ (eQ (lB ⟨f,by rw [e2];grind⟩ (eQ (red q))))
 refine aJl (q:=p * q) (Int.mul_pos u0 v0) ?_ ?_
 ·exact eQ (nA (eQ (nA cxu c1)) (eQ (nA c2 cyv)))
 have n1:=gP p
 have n2:=gP q
 have r1:=wY p
 have r2:=wY q
 have k1:((p.den:Int):Rat) = (r:Rat) * u:=by rw [e4,Rat.intCast_mul]
 have k2:((q.den:Int):Rat) = (f:Rat) * v:=by rw [e2,Rat.intCast_mul]
 have k3:(p.num:Rat) = (f:Rat) * x:=by rw [e1,Rat.intCast_mul]
 have k4:(q.num:Rat) = (r:Rat) * y:=by rw [e3,Rat.intCast_mul]
 have k5:(f:Rat) ≠ 0:=fun z=>by
                     have:f = 0:=by exact_mod_cast z
                     omega
 have k6:(r:Rat) ≠ 0:=fun z=>by
                     have:r = 0:=by exact_mod_cast z
                     omega
 rw [Rat.intCast_mul,Rat.intCast_mul]
 have:(f:Rat) * r * ((x:Rat) * y) = f * r * ((p * q) * ((u:Rat) * v)):=by
  have z1:(f:Rat) * x = p * (r * u):=by rw [<- k3,<- k1];exact n1
  have z2:(r:Rat) * y = q * (f * v):=by rw [<- k4,<- k2];exact n2
  grind
 grind
theorem Bd.dvd {n:Nat} {x y:Int} (h:Bd n y) (d:x ∣ y) (h0:y ≠ 0):Bd n x:=by
 unfold Bd at *
 have:=Nat.le_of_dvd (by omega) (Int.natAbs_dvd_natAbs.mpr d)
 omega
theorem Bd.fdiv {n:Nat} {x y:Int} (h:Bd n x) (d:y ∣ x):Bd n (x.fdiv y):=by
 unfold Bd at *
 rw [Int.fdiv_eq_ediv_of_dvd d]
 exact Nat.lt_of_le_of_lt (Int.natAbs_ediv_le_natAbs _ _) h
end Mz
namespace Mz
open PySem
noncomputable def sgn (q:Rat):Int:=if 0 < q then 1 else if q < 0 then -1 else 0
noncomputable def uu (t:Rat):Rat:=(1 - t * t) / (1 + t * t)
noncomputable def vv (t:Rat):Rat:=(t + t) / (1 + t * t)
end Mz
namespace Mz
open PySem
noncomputable def tb (t h u:Int):Int:=(t + h * u).fmod 4
end Mz
namespace Dd
open PySem PySem.Spec PyProof.Rows L2 Mz
noncomputable def FQ (q:Rat):D:=.tup [.int q.num,.int (q.den:Int)]
theorem aDZ {t b:Int} (h:b ≠ 0):(D.tup [.int (fT t b),.int (fB t b)]) = FQ ((t:Rat) / (b:Rat)):=by
 obtain ⟨e1,e2⟩:=aDV (t:=t) h
 rw [e1,e2]
 rfl
noncomputable def dS:DSp:=fun ds M Q=>∃ a b,ds = [.int a,.int b]/\Q (.int (Int.gcd a b:Int)) M
noncomputable def aBu (g:Rat->Rat->D) (C:Rat->Prop:=fun _=>True):DSp:=fun ds M Q=>∃ p q m n,ds = [FQ p,FQ q]/\C q/\BQ m p/\BQ n q/\m + n<=8998/\Q (g p q) M
noncomputable def aBF:DSp:=aBu fun p q=>FQ (p + q)
noncomputable def aCo:DSp:=aBu fun p q=>FQ (p * q)
noncomputable def aB9:DSp:=aBu fun p q=>.bl (decide (p < q))
theorem sO {g:Rat->Rat->D} {C:Rat->Prop} (ds:List D) (M:DM) (Q:DQ) (h:aBu g C ds M Q):ds.length = 2:=by obtain ⟨a,b,m,n,rfl,_⟩:=h;rfl
theorem wC {n:Nat} {x y z:Int} (h:Bd n y) (l:n<=9000) (d:z ∣ y) (h0:y ≠ 0) (hz:z ≠ 0):CFd x z:=⟨hz,by
 rcases Nat.eq_zero_or_pos n with e | e
 ·subst e
  have:y.natAbs < 1:=h
  omega
 ·exact Nat.lt_of_lt_of_le ((h.dvd d h0).log e) l⟩
theorem aHR (q:Rat):(D.tup [.int (-q.num),.int (q.den:Int)]) = FQ (-q):=by
 unfold FQ
 rw [Rat.neg_num,Rat.neg_den]
noncomputable def PQ (x y:Rat):D:=.tup [FQ x,FQ y]
theorem aBq (p q:Rat):eqD (FQ p) (FQ q) = decide (p = q):=by
 show (p.num == q.num && ((p.den:Int) == (q.den:Int) && true)) = decide (p = q)
 by_cases h:p = q
 ·subst h;simp
 ·rw [decide_eq_false h]
  by_cases h1:p.num = q.num
  ·have h2:¬ ((p.den:Int) = (q.den:Int)):=fun z=>h (Rat.ext h1 (by exact_mod_cast z))
   simp [h1,h2]
  ·simp [h1]
theorem aGt (x y u v:Rat):eqD (PQ x y) (PQ u v) = (decide (x = u) && decide (y = v)):=by
 show (eqD (FQ x) (FQ u) && (eqD (FQ y) (FQ v) && true)) = _
 rw [aBq,aBq,Bool.and_true]
noncomputable def iZ:DSp:=fun ds M Q=>∃ x y,ds = [PQ x y]/\BQ 900 x/\BQ 900 y/\∀ X Y d:Int,0 < d->(X:Rat) = x * (d:Rat)->(Y:Rat) = y * (d:Rat)->Bd 1800 X->Bd 1800 Y->Bd 1800 d->Q (.tup [.int X,.int Y,.int d]) M
noncomputable def aA6:DSp:=fun ds M Q=>∃ z:Int,ds = [.int z]/\Q (.int (sgn (z:Rat))) M
theorem aCe {d:Int} (h:0 < d):(0:Rat) < (d:Rat):=by exact_mod_cast h
structure Adv (M M':DM) (a:Addr):Prop where
 l:∀ b:Addr,b ≠ a->M' (.l b) = M (.l b)
 d:∀ b:Addr,M' (.d b) = M (.d b)
instance {M M':DM} {a:Addr}:CoeFun (Adv M M' a) (fun _=>∀ b:Addr,b ≠ a->M' (.l b) = M (.l b)):=⟨Adv.l⟩
theorem Adv.trans {M M1 M2:DM} {a:Addr} (h:Adv M M1 a) (h2:Adv M1 M2 a):Adv M M2 a:=⟨fun b n=>(h2.l b n).trans (h.l b n),fun b=>(h2.d b).trans (h.d b)⟩
theorem aIE {xs:List D} {lo hi:Option Int} {d:D} (h:d ∈ cutD xs lo hi):d ∈ xs:=List.mem_of_mem_drop (List.mem_of_mem_take h)
noncomputable def aDf:D:=.tup [.int 1,.int 1]
theorem aLu {x y:Rat} {g:DG} {te:DE} {Q:DQ} {ρ0:cV} {M:DM}:itT (PQ x y) ρ0 g te M Q = aCf none [FQ x,FQ y] ρ0 g te M Q:=rfl
theorem aJ3 {q:Rat} {g:DG} {te:DE} {Q:DQ} {ρ0:cV} {M:DM}:itT (FQ q) ρ0 g te M Q = aCf none [.int q.num,.int (q.den:Int)] ρ0 g te M Q:=rfl
theorem aMe {x y:Rat} {g:DG} {tb:DS} {E:iV} {ρ:cV} {M:DM}:foT (PQ x y) g tb E ρ M = dIt none [FQ x,FQ y] g tb E ρ M:=rfl
theorem aMM {q:Rat} {M:DM} {Q:DQ}:mP (FQ q) (.int 0) M Q = Q (.int q.num) M:=rfl
theorem aNx {q:Rat} {M:DM} {Q:DQ}:mP (FQ q) (.int 1) M Q = Q (.int (q.den:Int)) M:=rfl
theorem aMU {x y:Rat} {M:DM} {Q:DQ}:mP (PQ x y) (.int 0) M Q = Q (FQ x) M:=rfl
theorem aN2 {x y:Rat} {M:DM} {Q:DQ}:mP (PQ x y) (.int 1) M Q = Q (FQ y) M:=rfl
theorem aMY {x y:Rat} {n:Nat} {t:DGs} {ρ:cV} {M:DM} {R:cV->DM->Prop}:gU n t (PQ x y) ρ M R = (([FQ x,FQ y]:List D).length = n/\t [FQ x,FQ y] ρ M R):=rfl
theorem aNr {q:Rat} {n:Nat} {t:DGs} {ρ:cV} {M:DM} {R:cV->DM->Prop}:gU n t (FQ q) ρ M R = (([.int q.num,.int (q.den:Int)]:List D).length = n/\t [.int q.num,.int (q.den:Int)] ρ M R):=rfl
theorem aAT {g:Bool->Bool} {p q:Rat} {M:DM} {Q:DQ}:dEq g (FQ p) (FQ q) M Q = Q (.bl (g (decide (p = q)))) M:=by
 show (bM 60 (FQ p) = true/\bM 60 (FQ q) = true/\Q (.bl (g (eqD (FQ p) (FQ q)))) M) = _
 rw [aBq]
 exact propext ⟨fun h=>h.2.2,fun h=>⟨rfl,rfl,h⟩⟩
theorem aGb {g:Bool->Bool} {x y u v:Rat} {M:DM} {Q:DQ}:dEq g (PQ x y) (PQ u v) M Q = Q (.bl (g (decide (x = u/\y = v)))) M:=by
 show (bM 60 (PQ x y) = true/\bM 60 (PQ u v) = true/\Q (.bl (g (eqD (PQ x y) (PQ u v)))) M) = _
 have e:(decide (x = u) && decide (y = v)) = decide (x = u/\y = v):=by by_cases h1:x = u<;>by_cases h2:y = v<;>simp [h1,h2]
 rw [aGt,e]
 exact propext ⟨fun h=>h.2.2,fun h=>⟨rfl,rfl,h⟩⟩
theorem iL {M:DM} {p b:Addr} {ds:List D} (h:bC M p ds b = none):b ≠ p/\M b = none:=by
 by_cases e:b = p
 ·subst e;rw [aI] at h;cases h
 ·rw [bI e] at h;exact ⟨e,h⟩
noncomputable def tM:D:=.tup [.tup [.int 0,.int 1],.tup [.int 0,.int 1]]
noncomputable def FR (px py:Rat) (t h:Int) (s:Rat):D:=.tup [PQ px py,.int t,.int h,FQ s]
theorem aMy {px py s:Rat} {i h:Int} {n:Nat} {t:DGs} {ρ:cV} {M:DM} {R:cV->DM->Prop}:gU n t (FR px py i h s) ρ M R = (([PQ px py,.int i,.int h,FQ s]:List D).length = n/\t [PQ px py,.int i,.int h,FQ s] ρ M R):=rfl
theorem aNb {px py s:Rat} {t h:Int} {M:DM} {Q:DQ}:mP (FR px py t h s) (.int 0) M Q = Q (PQ px py) M:=rfl
theorem aN4 {px py s:Rat} {t h:Int} {M:DM} {Q:DQ}:mP (FR px py t h s) (.int 1) M Q = Q (.int t) M:=rfl
theorem aM3 {px py s:Rat} {t h:Int} {M:DM} {Q:DQ}:mP (FR px py t h s) (.int 2) M Q = Q (.int h) M:=rfl
theorem aMp {px py s:Rat} {t h:Int} {M:DM} {Q:DQ}:mP (FR px py t h s) (.int 3) M Q = Q (FQ s) M:=rfl
theorem aJZ (px py s px' py' s':Rat) (t h t' h':Int):eqD (FR px py t h s) (FR px' py' t' h' s') = decide (px = px'/\py = py'/\t = t'/\h = h'/\s = s'):=by
 show (eqD (PQ px py) (PQ px' py') && (t == t' && (h == h' && (eqD (FQ s) (FQ s') && true)))) = _
 rw [aGt,aBq]
 by_cases h1:px = px'<;>by_cases h2:py = py'<;>by_cases h3:t = t'<;>by_cases h4:h = h'<;>by_cases h5:s = s'<;>simp [h1,h2,h3,h4,h5]
theorem aKa {g:Bool->Bool} {px py s px' py' s':Rat} {t h t' h':Int} {M:DM} {Q:DQ}:dEq g (FR px py t h s) (FR px' py' t' h' s') M Q = Q (.bl (g (decide (px = px'/\py = py'/\t = t'/\h = h'/\s = s')))) M:=by
 show (bM 60 (FR px py t h s) = true/\bM 60 (FR px' py' t' h' s') = true/\Q (.bl (g (eqD (FR px py t h s) (FR px' py' t' h' s')))) M) = _
 rw [aJZ]
 exact propext ⟨fun z=>z.2.2,fun z=>⟨rfl,rfl,z⟩⟩
noncomputable def nY (n:Nat) (L:List D):Prop:=L.length = n/\∀ d ∈ L,∃ z:Int,d = .int z/\0<=z/\z < 1000000
theorem nY.at {n:Nat} {L:List D} (h:nY n L) {i:Nat} (hi:i < n):∃ z:Int,atI L (i:Int) = some (.int z)/\0<=z/\z < 1000000:=by
 have hl:i < L.length:=by rw [h.1];exact hi
 obtain ⟨z,e,z0,z1⟩:=h.2 L[i] (List.getElem_mem hl)
 exact ⟨z,aHw (by rw [List.getElem?_eq_getElem hl,e]),z0,z1⟩
theorem aHq {x y:Rat} {M:DM} {Q:DQ}:sW [PQ x y] M Q = Q (.int 2) M:=rfl
theorem aHm {q:Rat} {M:DM} {Q:DQ}:sW [FQ q] M Q = Q (.int 2) M:=rfl
theorem aHn {px py s:Rat} {t h:Int} {M:DM} {Q:DQ}:sW [FR px py t h s] M Q = Q (.int 4) M:=rfl
theorem aFR {a:Addr} {M:DM} {Q:DQ}:sW [.ref a] M Q = ∃ xs,M a = some xs/\Q (.int (xs.length:Int)) M:=rfl
end Dd
namespace Dd
open PySem PySem.Spec PyProof.Rows L2 Mz
section
variable {M:DM} {Q:DQ} {a b c d e f:D}
theorem aKr {i:Int}:aMl [.int i] M Q = Q (.int (if i < 0 then -i else i)) M:=rfl
theorem aIr {xs:List D}:sW [.fz xs] M Q = Q (.int xs.length) M:=rfl
theorem aHX:sW [.tup []] M Q = Q (.int 0) M:=rfl
theorem aHe:sW [.tup [a]] M Q = Q (.int 1) M:=rfl
theorem aIR:sW [.tup [a,b]] M Q = Q (.int 2) M:=rfl
theorem aHt:sW [.tup [a,b,c]] M Q = Q (.int 3) M:=rfl
theorem aIS:sW [.tup [a,b,c,d]] M Q = Q (.int 4) M:=rfl
theorem aHT:sW [.tup [a,b,c,d,e]] M Q = Q (.int 5) M:=rfl
end
structure Fm where
 (px py:Rat) (t h:Int) (s:Rat)
noncomputable def FmD (f:Fm):D:=FR f.px f.py f.t f.h f.s
noncomputable def Fm.one:Fm:=⟨0,0,0,1,1⟩
noncomputable def Fm.Ok (f:Fm):Prop:=0<=f.t/\f.t < 4/\(f.h = 1 ∨ f.h = -1)
theorem Fm.ok_one:Fm.one.Ok:=⟨by decide,by decide,.inl rfl⟩
theorem aMt {f:Fm} {M:DM} {Q:DQ}:mP (FmD f) (.int 0) M Q = Q (PQ f.px f.py) M:=rfl
theorem aMx {f:Fm} {M:DM} {Q:DQ}:mP (FmD f) (.int 1) M Q = Q (.int f.t) M:=rfl
theorem aNP {f:Fm} {M:DM} {Q:DQ}:mP (FmD f) (.int 2) M Q = Q (.int f.h) M:=rfl
theorem aMO {f:Fm} {M:DM} {Q:DQ}:mP (FmD f) (.int 3) M Q = Q (FQ f.s) M:=rfl
theorem aK5 {f:Fm} {n:Nat} {t:DGs} {ρ:cV} {M:DM} {R:cV->DM->Prop}:gU n t (FmD f) ρ M R = (([PQ f.px f.py,.int f.t,.int f.h,FQ f.s]:List D).length = n/\t [PQ f.px f.py,.int f.t,.int f.h,FQ f.s] ρ M R):=rfl
theorem aFi {f:Fm} {M:DM} {Q:DQ}:sW [FmD f] M Q = Q (.int 4) M:=rfl
end Dd
namespace Dd
open PySem PySem.Spec PyProof.Rows L2 Mz
section
variable {X:Cx} {pins:List (Addr × Obj)} {σ:L2.St} {H:Hp} {s:Shared} {M:DM}
end
noncomputable def aMR (g:Bool->Bool):D2:=fun x y M Q=>match x,y with
 | .int k,.tup ys=>∃ ns:List Int,ys = ns.map D.int/\Q (.bl (g (ns.any (· == k)))) M
 | .str k,.tup ys=>∃ ns:List Str,ys = ns.map D.str/\Q (.bl (g (ns.any (· == k)))) M
 | _,_=>False
section
variable {X:Cx}
theorem aLS:OpD X (compareOp .In) (aMR id):=fun pins s σ H x y v u Q I rx ry ⟨dx,dy,M,Q',r1,r2,hm,q,k⟩=>by
 cases dx with
 | int z =>
  cases dy with
  | tup ys =>
   obtain ⟨ns,rfl,q⟩:=q
   obtain rfl:=aS r1
   obtain ⟨a,us,rfl,sq,ru⟩:=cH r2
   obtain ⟨its,rv,ht⟩:=kG I sq
   obtain ⟨t,rfl⟩:=rx
   cases ry
   exact in_tuple_ints ht (rT ru rv) ⟨.bl _,H,I,rfl,k _ H ⟨_,M,dL,hm,.refl H,q⟩⟩
  | _=>exact q.elim
 | str z =>
  cases dy with
  | tup ys =>
   obtain ⟨ns,rfl,q⟩:=q
   obtain rfl:=bA r1
   obtain ⟨a,us,rfl,sq,ru⟩:=cH r2
   obtain ⟨its,rv,ht⟩:=kG I sq
   obtain ⟨t,rfl⟩:=rx
   cases ry
   exact in_tuple_strs ht (qZ ru rv) ⟨.bl _,H,I,rfl,k _ H ⟨_,M,dL,hm,.refl H,q⟩⟩
  | _=>exact q.elim
 | _=>cases dy<;>exact q.elim
end
end Dd
namespace L2
open PySem PySem.Spec PyProof.Rows
section
variable {prog:Program} {w:World} {A:Around} {R:Result->Shared->Prop} {s:Shared}
end
end L2
namespace Dd
open PySem PySem.Spec PyProof.Rows L2
section
variable {X:Cx} {g:DG} {tc:DT} {te:DE}
variable {elt iter tg cnd:Expr} {scope:Scope} {pos:Pos} {N':List Str} {fr:List (Option Nat)} {tl:DE} {ta:DA} {oN:List Str} {osc:Scope}
end
end Dd
namespace Dd
open PySem PySem.Spec PyProof.Rows L2 Mz
section
variable {X:Cx} {o e f:Expr} {to te tf:DE}
end
section
variable {X:Cx} {pins:List (Addr × Obj)} {σ:L2.St} {H:Hp} {s:Shared}
end
section
variable {X:Cx} {o:Expr} {to:DE}
noncomputable def aKD (to:DE):DE:=fun ρ M Q=>to ρ M fun x M1=>match x with
 | .ref p=>∃ ds y,M1 p = some ds/\ds[ds.length - 1]? = some y/\Q y (bC M1 p ds.dropLast)
 | _=>False
theorem aAc {K:PySem.W.Frag} {H:Hp} {ds:List D} {vs:List V} (h:bY K H ds vs):bY K H ds.dropLast vs.dropLast:=by
 rw [List.dropLast_eq_take,List.dropLast_eq_take,h.length]
 exact h.take _
theorem aLc {apos cpos:Pos} (ho:PDE X o to) (hbase:attributeBase o "pop" X.env (eval o X.env) = eval o X.env:=by rfl) (hline:(apos.endLine == cpos.line) = true:=by rfl) :
  PDE X (.Call (.Attribute o "pop" apos) [] [] cpos) (aKD to) :=
 cJ (aDt PySem.F.plainAttrs_list PySem.F.slot_list_pop PySem.F.type_list_pop aKi ho hbase hline) fun σ H Q ⟨ρ,M,Q',re,hm,q,k⟩=>⟨ρ,M,_,re,hm,q,fun v H1 ⟨d,M1,rd,hm1,e1,q1⟩=>by
  cases d with
  | ref p =>
   obtain rfl:=bD rd
   obtain ⟨ds,y,hp,hy,q1⟩:=q1
   obtain ⟨us,hu,ru⟩:=hm1.l p ds hp
   obtain ⟨w,hw,rw'⟩:=ru.get hy
   refine ⟨.inl ⟨rfl,us,.of hu⟩,p,us,w,rfl,rfl,hu,by rw [<- ru.length];exact hw,k _ _ ⟨y,_,rw'.ext (Ext.put hu _),hm1.put hu (aAc ru),e1.trans (Ext.put hu _),q1⟩⟩
  | _=>exact q1.elim⟩
end
end Dd
namespace Dd
open PySem PySem.Spec PyProof.Rows L2
section
variable {X:Cx} {g:DG} {tc:DT} {te:DE}
variable {elt iter tg cnd:Expr} {scope:Scope} {pos:Pos} {N':List Str} {fr:List (Option Nat)} {tl:DE} {ta:DA} {oN:List Str} {osc:Scope}
end
section
variable {X:Cx} {o e f:Expr} {to te tf:DE}
end
section
variable {X:Cx} {pins:List (Addr × Obj)} {σ:L2.St} {H:Hp} {s:Shared}
end
section
variable {X:Cx} {o:Expr} {to:DE}
theorem wP {apos cpos:Pos} (ho:ZE X o to) (hbase:attributeBase o "pop" X.env (eval o X.env) = eval o X.env:=by rfl) (hline:(apos.endLine == cpos.line) = true:=by rfl):ZE X (.Call (.Attribute o "pop" apos) [] [] cpos) (aKD to):=.i (aLc ho.o hbase hline)
end
end Dd
namespace Dd
open PySem PySem.Spec PyProof.Rows L2
section
variable {P:Program} {w:World} {K:PySem.W.Frag} {mg:Str->Option Value} {base:Heap}
end
section
variable {X:Cx} {n x:Str} {C a:Addr} {o:Obj} {p p1 pos:Pos} {j k k':Nat} {sp:Addr->DM->DQ->Prop}
end
end Dd
namespace Dd
open PySem PySem.Spec PyProof.Rows L2
section
open PySem.SeqAt
open PySem.AutoSeq1 (wpAny_loadPart')
open PySem.MeetsSeq PySem.MeetsSeq2 PySem.MeetsSeq3
end
section
variable {prog:Program} {w:World} {A:Around} {E:Value->Shared->Prop} {s:Shared}
end
section
variable {X:Cx} {j:Nat}
end
end Dd
namespace Dd
open PySem
theorem us0 {us:List Value} (h:us.length = 0):us = []:=List.length_eq_zero_iff.mp h
theorem us1 {us:List Value} (h:us.length = 1):∃ a,us = [a]:=List.length_eq_one_iff.mp h
theorem us2 {us:List Value} (h:us.length = 2):∃ a b,us = [a,b]:=by
 cases us with
 | nil=>cases h
 | cons a r=>obtain ⟨b,rfl⟩:=us1 (us:=r) (Nat.succ.inj h);exact ⟨a,b,rfl⟩
theorem us3 {us:List Value} (h:us.length = 3):∃ a b c,us = [a,b,c]:=by
 cases us with
 | nil=>cases h
 | cons a r=>obtain ⟨b,c,rfl⟩:=us2 (us:=r) (Nat.succ.inj h);exact ⟨a,b,c,rfl⟩
end Dd
namespace Dd
open PySem PySem.Spec PyProof.Rows L2
noncomputable instance aOO:DecidableEq D:=fun a b=>Classical.propDecidable (a = b)
noncomputable def aMH:Nat->D->Bool
 | _,.int _=>true
 | _,.str _=>true
 | n + 1,.tup ds=>ds.all (aMH n)
 | _,_=>false
mutual
noncomputable def IsK (h:Heap):D->Value->Prop
 | .int i,v=>∃ t,v = .int i t
 | .str x,v=>∃ t,v = .str x t
 | .tup ds,v=>∃ a its,v = .ref a/\IsTup h a its/\tU h ds its.toList
 | _,_=>False
noncomputable def tU (h:Heap):List D->List Value->Prop
 | [],vs=>vs = []
 | d :: ds,vs=>∃ v r,vs = v :: r/\IsK h d v/\tU h ds r
end
theorem aEX {h:Heap} {d:D} {ds:List D} {vs:List Value} (x:tU h (d :: ds) vs):∃ v r,vs = v :: r/\IsK h d v/\tU h ds r:=by unfold tU at x;exact x
theorem aIo {h:Heap} {ds:List D} {v:Value} (x:IsK h (.tup ds) v):∃ a its,v = .ref a/\IsTup h a its/\tU h ds its.toList:=by unfold IsK at x;exact x
section
variable {prog:Program} {w:World}
end
mutual
theorem IsK.keep {h h':Heap} (k:∀ a its,IsTup h a its->IsTup h' a its):∀ {x:D} {v:Value},IsK h x v->IsK h' x v
 | .int _,_,a=>by unfold IsK at a ⊢;exact a
 | .str _,_,a=>by unfold IsK at a ⊢;exact a
 | .tup ds,_,a=>by
  obtain ⟨p,its,rfl,ht,hs⟩:=aIo a
  unfold IsK
  exact ⟨p,its,rfl,k p its ht,tU.keep k hs⟩
 | .non,_,a=>by unfold IsK at a;exact a.elim
 | .bl _,_,a=>by unfold IsK at a;exact a.elim
 | .fz _,_,a=>by unfold IsK at a;exact a.elim
 | .ref _,_,a=>by unfold IsK at a;exact a.elim
theorem tU.keep {h h':Heap} (k:∀ a its,IsTup h a its->IsTup h' a its):∀ {xs:List D} {vs:List Value},tU h xs vs->tU h' xs vs
 | [],_,a=>by unfold tU at a ⊢;exact a
 | x :: xs,_,a=>by
  obtain ⟨v,r,rfl,a1,a2⟩:=aEX a
  unfold tU
  exact ⟨v,r,rfl,a1.keep k,tU.keep k a2⟩
end
end Dd
namespace Dd
open PySem PySem.Spec PyProof.Rows L2
section
variable {prog:Program} {w:World} {A:Around} {E:Value->Shared->Prop} {s:Shared} {it d:Addr} {i ep:Nat} {es:Array DictEntry}
end
end Dd
namespace Dd
open PySem PySem.Spec PyProof.Rows L2
structure TK (kvs:List (D × D)):Prop where
 key:∀ p ∈ kvs,(∃ ds,p.1 = .tup ds)/\aMH 6 p.1 = true
 nd:(kvs.map (·.1)).Nodup
theorem TK.nil:TK []:=⟨(fun _ h=>(nomatch h)),List.nodup_nil⟩
noncomputable def KX (K:PySem.W.Frag) (H:Hp) (p:D × D) (x:D × Addr × Value):Prop:=p.1 = x.1/\Rep K H p.1 (.ref x.2.1)/\∃ vv,cR vv x.2.2/\Rep K H p.2 vv
section
variable {X:Cx} {pins:List (Addr × Obj)} {σ:L2.St} {H:Hp} {s:Shared}
theorem Paired.len {α β:Type} {F:α->β->Prop}:∀ {l:List α} {l':List β},Paired F l l'->l.length = l'.length
 | _,_,.nil=>rfl
 | _,_,.cons _ t=>by rw [List.length_cons,List.length_cons,Paired.len t]
end
section
variable {X:Cx} {pos:Pos}
end
end Dd
namespace Dd
open PySem PySem.W PyProof.Rows
section
variable {n:Nat} {lt:Nat->Nat->Bool} {p:Array Nat}
end
section
variable {n:Nat} {p:Array Nat}
end
end Dd
namespace Dd
open PySem PySem.Spec PyProof.Rows L2
section
variable {prog:Program} {w:World} {A:Around} {E:Value->Shared->Prop} {s:Shared}
end
section
variable {X:Cx} {pins:List (Addr × Obj)} {σ:L2.St} {H:Hp} {s:Shared}
end
end Dd
namespace L2
open PySem PySem.Spec PyProof.Rows
end L2
namespace Dd
open PySem PySem.Spec PyProof.Rows L2
section
variable {X:Cx} {pos:Pos} {iter tg:Expr} {body:List Stmt} {tl:DE} {g:DG} {tb:DS} {ta:DA}
theorem aOf {CX:CXT} {P:Program} {w:World} {K:PySem.W.Frag} {mg:Str->Option Value} {base:Heap} {N:List Str} {qual:Str} {scope:Scope} {f:Addr} {cd:Value} {A:Around} {outer:List Env} {s:Shared} {H:Hp} {E:XK}:(kD CX P w K mg base N qual scope f cd A outer s H E).w = w:=rfl
end
end Dd
namespace L2
open PySem PySem.Spec PyProof.Rows
section
variable {prog:Program} {w:World} {A:Around} {E:Value->Shared->Prop} {s:Shared}
end
end L2
namespace L2
open PySem PySem.Spec PyProof.Rows
end L2
namespace Dd
open PySem PySem.Spec PyProof.Rows L2
section
variable {X:Cx} {pos:Pos} {iter tg:Expr} {body:List Stmt} {tl:DE} {g:DG} {tb:DS} {ta:DA}
end
end Dd
namespace L2
open PySem PySem.Spec PyProof.Rows
noncomputable def ItE (K:PySem.W.Frag) (l:Addr):It :=
 ⟨
  fun i H=>∃ xs x,SqL K H l xs/\xs[i]? = some x,
  fun i H v H'=>∃ p x,v = .ref p/\H p = none/\H' = upd H p (.tup [.int i,x])/\∀ xs,SqL K H l xs->xs[i]? = some x,
  fun i H=>∃ xs,SqL K H l xs/\xs.length<=i⟩
theorem aEK {P:Program} {w:World} {K:PySem.W.Frag} {elts:List Expr} {kk:Nat} {tpos:Pos} {e it l:Addr} (ne:e ≠ it) :
  aG4 P w K (.Tuple elts kk tpos) (ItE K l) [e,it] e (fun i h=>(∃ old,IsEnum h e it i old)/\h.IsListIter it l i) where
 mem:=by simp
 obj:=fun i h st b hb=>by
  obtain ⟨⟨old,he⟩,⟨o1,e1,c1,d1⟩⟩:=st
  simp only [List.mem_cons,List.not_mem_nil,or_false] at hb
  rcases hb with rfl | rfl
  ·exact ⟨_,he,fun v z=>by cases z⟩
  ·exact ⟨o1,e1,fun v z=>by rw [d1] at z;cases z⟩
 keep:=fun i h h' st k=>by
  obtain ⟨⟨old,he⟩,t1⟩:=st
  exact ⟨⟨old,k e (by simp) _ he⟩,t1.at fun o x=>k it (by simp) o x⟩
 item:=by
  intro X hP hw hK hc i pins s σ H E I hf st hg
  subst hP hw hK
  obtain ⟨xs,x,hq,hx⟩:=hg
  obtain ⟨⟨old,he⟩,t1⟩:=st
  obtain ⟨its,rv,p,hz⟩:=I.list hq
  obtain ⟨u,hu,ru⟩:=rv.get hx
  refine wpAny_pyNext_enum_item he t1 p.isList (x:=u) (by simpa using hu) ne fun h' a1 a2 a3 a4 a5=>?_
  refine ⟨_,rfl,wpAny_letOwnedTupleGo_enum (s:={ s with heap:=h',toks:=s.toks + 1 }) a1 fun h2 b1 b2=>?_⟩
  have lte:=Heap.lt_size he
  have nz:s.heap.objs.size ≠ e:=Nat.ne_of_gt lte
  have k2:∀ b o,b ∉ [e,it]->s.heap.get? b = some o->h2.get? b = some o:=fun b o hb z=>b2.extBut _ _ (fun q=>hb (by simp [q])) (a5 b o (fun q=>hb (by simp [q])) (fun q=>hb (by simp [q])) z)
  have e1:h2.IsListIter it l (i + 1):=a2.extBut b2.extBut (Ne.symm ne)
  have I2:Inv X pins σ (upd H s.heap.objs.size (.tup [.int i,x])) { s with heap:=h2 }:=I.turnedT (its:=[.int i s.toks,u]) k2 hf (Nat.le_refl _) (by show 2<=sizeLine;decide) (.cons ⟨_,rfl⟩ (.cons ru .nil)) ⟨_,b2.extBut _ _ nz a3,rfl,_,rfl⟩ fun b hb=>by
   simp only [List.mem_cons,List.not_mem_nil,or_false] at hb
   rcases hb with rfl | rfl
   ·exact ⟨_,b1⟩
   ·obtain ⟨o,e,_⟩:=e1;exact ⟨o,e⟩
  have I3:=I2.kept (t':=s.toks + 1) (h':=h2) fun b u z=>z
  refine ⟨.ref s.heap.objs.size,_,I3,rfl,⟨_,x,rfl,I.hok.fresh (Nat.le_refl _),rfl,fun xs' q1=>by rw [I.list_inj q1 hq];exact hx⟩,⟨⟨_,b1⟩,e1⟩,fun b hb=>?_⟩
  rw [bN]
  ·exact (hf b hb).1
  ·intro q
   subst q
   simp only [List.mem_cons,List.not_mem_nil,or_false] at hb
   obtain ⟨o1,g1,_⟩:=t1
   rcases hb with q | q
   ·exact nz q
   ·exact absurd (Heap.lt_size g1) (by rw [<- q];exact Nat.lt_irrefl _)
 done:=by
  intro X hP hw hK hc i pins s σ H E I hf st hg
  subst hP hw hK
  obtain ⟨xs,hq,hend⟩:=hg
  obtain ⟨⟨old,he⟩,t1⟩:=st
  obtain ⟨its,rv,p,hz⟩:=I.list hq
  have w1:=rv.length
  exact wpAny_pyNext_enum_end (I.ok.hd hc) he t1 p.isList (by simp;omega) fun h' k=>⟨rfl,I.turnedL (fun b o hb z=>k b o (fun q=>hb (by simp [q])) z) hf⟩
 self:=fun _ _ _ _ _ st h=>by obtain ⟨⟨old,he⟩,_⟩:=st;exact wpAny_pyIter_enum he h
noncomputable def aMP (K:PySem.W.Frag) (ta:TA):TI:=fun σ H R=>ta σ H fun vs H1=>∃ a xs,vs = [.ref a]/\SqL K H1 a xs/\R (ItE K a) H1
theorem aIi {X:Cx} {elts:List Expr} {kk:Nat} {tpos:Pos} {a:Expr} {ta:TA} {p pos:Pos} (hg:Gl X "enumerate") (hm:X.mg "enumerate" = none) (ha:PA X [a] ta) (hs:starEach [a] X.env = [(false,eval a X.env)]:=by rfl) :
  PI X (.Tuple elts kk tpos) (.Call (.Name "enumerate" p) [a] [] pos) (aMP X.K ta):=by
 intro pins s σ H R I h
 refine Call_ (yF I hg hm (show bootBuiltins "enumerate" = some (.type "enumerate") from rfl) (PyProof.Rows.callWith_type1 (thn (ha pos pins s σ H _ I h) fun us s1 ⟨vs,H1,I1,r1,q1⟩=>?_) (by rw [hs];rfl) (by rfl)))
 obtain ⟨l,xs,rfl,hq,q⟩:=q1
 obtain ⟨u1,rfl,e1⟩:=r1.one
 cases e1
 obtain ⟨its,rv,p,hz⟩:=I1.list hq
 refine call_enumerate_list p.isList fun h' b1 b2 b3 b4=>?_
 refine wpAny_pyIter_enum (s:={ s1 with heap:=h' }) b1 ?_
 refine ⟨s1.heap.objs.size + 1,[s1.heap.objs.size + 1,s1.heap.objs.size],_,_,H1,rfl,I1.kept (t':=s1.toks) b4,aEK (l:=l) (Nat.succ_ne_self _),⟨⟨_,b1⟩,b2⟩,fun b hb=>?_,q⟩
 have hb':s1.heap.objs.size<=b:=by
  simp only [List.mem_cons,List.not_mem_nil,or_false] at hb
  rcases hb with rfl | rfl<;>omega
 exact I1.fpOk hb' (I1.hok.fresh hb')
end L2
namespace Dd
open PySem PySem.Spec PyProof.Rows L2
section
variable {X:Cx} {pos:Pos} {iter tg elt:Expr} {body:List Stmt} {tl te:DE} {g:DG} {tb:DS} {ta:DA}
noncomputable def aN6 (a:Addr) (ds:List D) (g:DG) (tb:DS):DS:=fun E ρ M=>∃ Pv:Nat->cV->DM->Prop,Pv 0 ρ M /\
 (∀ i ρ M,i<=ds.length->Pv i ρ M->M a = some ds) /\
 (∀ i d ρ M,ds[i]? = some d->Pv i ρ M->g (.tup [.int i,d]) ρ M fun ρ2 M2=>tb { E with nx:=Pv (i + 1),ct:=Pv (i + 1),bk:=E.nx } ρ2 M2)/\∀ ρ M,Pv ds.length ρ M->E.nx ρ M
noncomputable def aM8 (K:PySem.W.Frag) (a:Addr) (ds:List D) (J:It) (H:Hp):Prop:=∀ H' M',Ext H H'->cO K M' H'->M' a = some ds->(∀ i,ds.length<=i->J.stop i H')/\(∀ i,i < ds.length->J.go i H')/\∀ i x H2,J.yld i H' x H2->Ext H' H2/\(∀ M',cO K M' H'->cO K M' H2)/\(i < ds.length->∃ d,ds[i]? = some d/\Rep K H2 (.tup [.int i,d]) x)
theorem aOv {K:PySem.W.Frag} {l:Addr} {ds:List D} {H:Hp}:aM8 K l ds (ItE K l) H:=fun H' M' e' hm' b1=>by
 obtain ⟨us,hu,r1⟩:=hm'.l l ds b1
 have n1:=r1.length
 refine ⟨fun i hi=>⟨us,.of hu,by omega⟩,fun i hi=>⟨us,us[i]'(by omega),.of hu,by simp⟩,fun i x H2 ⟨pp,vx,e1,hn,e2,all⟩=>?_⟩
 subst e1 e2
 refine ⟨Ext.new hn _,fun M' h=>h.new hn _,fun hi=>?_⟩
 obtain ⟨dx,hdx,rdx⟩:=r1.getV (all us (.of hu))
 exact ⟨dx,hdx,cG (.of dE) (bH bT (bH (rdx.ext (Ext.new hn _)) cP))⟩
theorem aKh {K:PySem.W.Frag} {a:Addr} {ds:List D} {E:yH} {Dn:iV} {σ:L2.St} {ρ:cV} {M:DM} {H0 H:Hp} {J:It} (ex0:Ext H0 H) (re:iI K H ρ σ) (hm:cO K M H) (k:rM K H0 Dn E) (h:aN6 a ds g tb Dn ρ M) (seq:aM8 K a ds J H) :
  ∃ W:Nat->Nat->L2.St->Hp->Prop,(∃ m,W 0 m σ H)/\∀ i m σ H,W i m σ H ->
   (J.stop i H/\E.nx σ H) ∨ (J.go i H/\∃ N:L2.St->Hp->Prop,(∀ σ' H',N σ' H'->∃ m',m' < m/\W (i + 1) m' σ' H')/\∀ x H',J.yld i H x H'->aAX K g x σ H' fun σ2 H2=>aED K tb { E with nx:=N,ct:=N,bk:=E.nx } σ2 H2):=by
 obtain ⟨Pv,p0,hat,step,done⟩:=h
 refine ⟨fun i m σ' H'=>∃ ρ' M',iI K H' ρ' σ'/\cO K M' H'/\Ext H H'/\m = ds.length - i/\i<=ds.length/\Pv i ρ' M',⟨ds.length,ρ,M,re,hm,.refl H,rfl,Nat.zero_le _,p0⟩,?_⟩
 rintro i m σ1 H1 ⟨ρ1,M1,re1,hm1,e1,rfl,hi,w1⟩
 obtain ⟨hst,hgo,hy⟩:=seq H1 M1 e1 hm1 (hat i ρ1 M1 hi w1)
 by_cases hlt:i < ds.length
 ·refine .inr ⟨hgo i hlt,fun σ' H'=>∃ ρ' M',iI K H' ρ' σ'/\cO K M' H'/\Ext H H'/\Pv (i + 1) ρ' M',fun σ' H' ⟨ρ',M',a,b,c,d⟩=>⟨ds.length - (i + 1),by omega,ρ',M',a,b,c,rfl,hlt,d⟩,fun x H' y=>?_⟩
  obtain ⟨ey,hmy,hd⟩:=hy i x H' y
  obtain ⟨d,hd,rd⟩:=hd hlt
  refine ⟨_,ρ1,M1,_,rd,re1.ext ey,hmy _ hm1,step i d ρ1 M1 hd w1,fun σ2 H2 ⟨ρ2,M2,re2,hm2,e2,q2⟩=>⟨ρ2,M2,_,re2,hm2,q2,?_⟩⟩
  have ex:=(e1.trans ey).trans e2
  exact ⟨fun σ' H' ⟨ρ',M',a,b,c,d⟩=>⟨ρ',M',a,b,ex.trans c,d⟩,fun v H' z=>k.rt v H' (z.back (ex0.trans ex)),fun σ' H' z=>k.nx σ' H' (z.back (ex0.trans ex)),fun σ' H' ⟨ρ',M',a,b,c,d⟩=>⟨ρ',M',a,b,ex.trans c,d⟩⟩
 ·have e:i = ds.length:=by omega
  subst e
  exact .inl ⟨hst _ (Nat.le_refl _),k.nx σ1 H1 ⟨ρ1,M1,re1,hm1,ex0.trans e1,done ρ1 M1 w1⟩⟩
noncomputable def aFO (ta:DA) (g:DG) (tb:DS):DS:=fun E ρ M=>ta ρ M fun ds M1=>match ds with
 | [.ref a]=>∃ xs,M1 a = some xs/\aN6 a xs g tb E ρ M1
 | _=>False
theorem aIV {elts:List Expr} {kk:Nat} {tpos:Pos} {a:Expr} {p pos':Pos} (hp:PassesOwn (model X.prog X.w) X.A X.env X.xe) (hc:X.calm = true) (hmg:X.mg "enumerate" = none) (ha:PDA X [a] ta) (hg:PDG X (.Tuple elts kk tpos) g) (hb:mQ X body tb) (hgl:Gl X "enumerate":=by rfl) (hse:starEach [a] X.env = [(false,eval a X.env)]:=by rfl)
  (hs:∀ x,foldedSetIterable (.Call (.Name "enumerate" p) [a] [] pos') X.env x = pure x:=by intro _;rfl):PDS X (.For (.Tuple elts kk tpos) (.Call (.Name "enumerate" p) [a] [] pos') body [] pos) (aFO ta g tb) :=
 iQ (aBl hp hc (aIi hgl hmg ha hse) hg hb hs) fun E σ H ⟨ρ,M,Dn,re,hm,q,k⟩=>⟨ρ,M,_,re,hm,q,fun vs H1 ⟨ds,M1,rs,hm1,ex,q1⟩=>by
  match ds,q1 with
  | [.ref l],q1 =>
   obtain ⟨xs,a1,q1⟩:=q1
   obtain ⟨v1,rfl,rv1⟩:=eV rs
   obtain rfl:=bD rv1
   obtain ⟨us,hu,r1⟩:=hm1.l l xs a1
   exact ⟨l,us,rfl,.of hu,aKh ex (re.ext ex) hm1 k q1 aOv⟩⟩
variable {scope:Scope} {N':List Str} {fr:List (Option Nat)} {oN:List Str} {osc:Scope}
end
end Dd
namespace Dd
open PySem PySem.Spec PyProof.Rows L2
section
variable {prog:Program} {w:World} {A:Around} {E:Value->Shared->Prop} {s:Shared}
end
section
variable {X:Cx} {pos:Pos}
theorem aCH {K:PySem.W.Frag} {H:Hp} {ds:List D} {vs:List V} (r:bY K H ds vs):∀ k:Nat,bY K H (List.replicate k ds).flatten (List.replicate k vs).flatten
 | 0=>cP
 | k + 1=>by rw [List.replicate_succ,List.flatten_cons,List.replicate_succ,List.flatten_cons];exact r.append (aCH r k)
theorem aBR {vs:List V} {us:List Value} (r:cA vs us):∀ k:Nat,cA (List.replicate k vs).flatten (List.replicate k us).flatten
 | 0=>.nil
 | k + 1=>by rw [List.replicate_succ,List.flatten_cons,List.replicate_succ,List.flatten_cons];exact r.append (aBR r k)
theorem aEQ (its:List Value) (k:Nat):(List.replicate k its.toArray).foldl (· ++ ·) #[] = (List.replicate k its).flatten.toArray:=by
 have g:∀ (k:Nat) (acc:List Value),(List.replicate k its.toArray).foldl (· ++ ·) acc.toArray = (acc ++ (List.replicate k its).flatten).toArray:=fun k=>by
  induction k with
  | zero=>intro acc;simp
  | succ k ih =>
   intro acc
   rw [List.replicate_succ,List.foldl_cons,List.append_toArray,ih,List.replicate_succ,List.flatten_cons,List.append_assoc]
 exact g k []
noncomputable def aHE (w:World) (K:PySem.W.Frag) (mg:Str->Option Value) (x:Str) (names:List (Str × Str)):Prop :=
 ∃ a es ep,mg x = some (.ref a)/\K.lookup a = some ⟨.type "dict",none,.dict es ep,#[]⟩/\PySem.W.KeysLit w.params es.toList/\∀ k n,names.lookup k = some n->∃ f,PySem.W.nsIn K a k = some (some (.ref f))/\mg n = some (.ref f)
noncomputable def aLo (mg:Str->Option Value) (names:List (Str × Str)) (ti:DE):DE:=fun ρ M Q=>ti ρ M fun d M1=>match d with
 | .str k=>∃ n,names.lookup k = some n/\∀ f,mg n = some (.ref f)->Q (.ref f) M1
 | _=>False
theorem aKn {x:Str} {names:List (Str × Str)} {p:Pos} {i:Expr} {ti:DE} (T:aHE X.w X.K X.mg x names) (hi:PDE X i ti) (hg:Gl X x:=by rfl) (hd:(x == ("__debug__":Str)) = false:=by decide) (hs:sS i:=by intro _ _;rfl) :
  PDE X (.Subscript (.Name x p) i pos) (aLo X.mg names ti):=by
 obtain ⟨a,es,ep,hm,hk,ks,look⟩:=T
 intro pins s σ H Q I ⟨ρ,M,Q',re,hm',q,kq⟩
 refine Subscript_ (kX I hg hm ?_ hd)
 refine thn (hi pins s σ H (LQ X.K H fun d M1=>match d with
  | .str k=>∃ n,names.lookup k = some n/\∀ f,X.mg n = some (.ref f)->Q' (.ref f) M1
  | _=>False) I ⟨ρ,M,_,re,hm',q,fun _ _ z=>z⟩) fun u s1 ⟨y,H1,I1,ry,d1,M1,r1,hm1,e1,q1⟩=>?_
 cases d1 with
 | str k =>
  obtain ⟨n,hn,q1⟩:=q1
  obtain ⟨f,hf,hmf⟩:=look k n hn
  rw [bA r1] at ry
  obtain ⟨t,rfl⟩:=ry
  have mo:=PySem.W.mapOf_K (prog:=X.prog) (w:=X.w) I1.kIn hk ks
  refine subscriptTail_builtinR (x:=.ref f) (T:="dict") mo.typeIs PySem.F.slot_dict_getitem.lookup (wpAny_getItem_of (strKind_is X.prog X.w k t) mo (PySem.W.find_K hk hf) ⟨rfl,?_⟩) (hs _ _)
  exact ⟨.ref f,H1,I1.tok _,rfl,kq _ _ ⟨.ref f,M1,iO,hm1,e1,q1 f hmf⟩⟩
 | _=>exact q1.elim
noncomputable def aCV (P:Program) (w:World) (K:PySem.W.Frag) (mg:Str->Option Value) (base:Heap) (j:Nat) (tf:DE) (ta:DA):DE:=fun ρ M Q=>tf ρ M fun d M1=>match d with
 | .ref f=>∃ n ps sp,mg n = some (.ref f)/\Has P w K mg base j n ps sp/\ta ρ M1 fun ds M2=>sp ds M2 Q
 | _=>False
theorem aFy {x:Str} {p:Pos} {e:Expr} {es:List Expr} {tf:DE} {ta:DA} {j k:Nat} (hf:PDE X (.Name x p) tf) (hr:eP k X.A) (hjk:j<=k) (ha:PDA X (e :: es) ta)
  (he:starEach (e :: es) X.env = (false,eval e X.env) :: starEach es X.env:=by rfl) (hpl:(backTo pos (starEach es X.env)).any (·.1) = false:=by rfl):PDE X (.Call (.Name x p) (e :: es) [] pos) (aCV X.prog X.w X.K X.mg X.base j tf ta):=by
 intro pins s σ H Q I ⟨ρ,M,Q',re,hm',q,kq⟩
 refine wpAny_Call_Name_kw (thn (hf pins s σ H _ I ⟨ρ,M,_,re,hm',q,fun _ _ z=>z⟩) fun u s1 ⟨y,H1,I1,ry,d1,M1,r1,hm1,e1,q1⟩=>?_)
 cases d1 with
 | ref f =>
  obtain ⟨n,ps,sp,hm,⟨f',fd,F,hm2,hk,hb⟩,q1⟩:=q1
  obtain rfl:f = f':=by rw [hm] at hm2;cases hm2;rfl
  rw [bD r1] at ry
  cases ry
  refine PySem.W.callWith_K (h₀:=X.base) I1.ok.mod.kin hk (thn (ha pos pins s1 σ H1 _ I1 ⟨ρ,M1,_,re.ext e1,hm1,q1,fun _ _ z=>z⟩) fun us s2 ⟨vs,H2,I2,r2,ds,M2,rs,hm2,e2,q2⟩=>⟨I2.kIn,?_⟩) he hpl
  exact aDm F (hr.mono hjk) hb .nil aGf I2 r2 ⟨ds,M2,Q',by rw [List.append_nil];exact rs,hm2,q2,fun v H' z=>kq v H' (z.back (e1.trans e2))⟩
 | _=>exact q1.elim
end
section
variable {P:Program} {w:World} {K:PySem.W.Frag} {mg:Str->Option Value} {base:Heap}
theorem yN.mkZ {x c:Str} {C:Addr} {st:Stmt} {N ps:List Str} {k:Nat} {cond:List D->DM->Prop} (h:bX K mg x st ps) (hc:aEh K mg c C) (S:aQ N ps (aJ st)) (len:∀ ds M,cond ds M->ds.length = ps.length)
  (hbody:∀ (f:Addr) (cdv:Value) (A:Around) (outer:List Env) (s:Shared) (H:Hp) (ds:List D) (M:DM) (E:XK),eP k (A.deeper (envOfC x (aJ st) s.heap.objs.size f cdv))->cond ds M ->
   tP (kD (CXr P w) P w K mg base N x (aJ st) f cdv A outer s H E) c (aW M) ->
   ∃ t,ZSs (kD (CXr P w) P w K mg base N x (aJ st) f cdv A outer s H E) (eT st) t/\t { nx:=fun _ _=>False,rt:=fun _ _=>False } (iJ N ds) M):yN P w K mg base (k + 1) x ps C cond :=
 yN.mk h hc S len fun f cdv A outer s H ds M E hr h hRO=>let ⟨t,h1,h2⟩:=hbody f cdv A outer s H ds M E hr h hRO;⟨t,h1.o,h2⟩
end
end Dd
namespace HT
open PySem PyProof.Rows
section
variable {prog:Program} {w:World} {A:Around} {E:Value->Shared->Prop} {s:Shared}
theorem getItem_tuple_whole {t sl:Addr} {items:Array Value} {vl vu:Value} {lo hi:Option Int} {Q:Value->Shared->Prop} (ht:IsTup s.heap t items) (hs:s.heap.IsSliceOf sl vl vu .none) (pl:IsPart vl lo) (pu:IsPart vu hi)
  (hw:sIx items.size 0 lo = 0/\sIx items.size items.size hi = items.size)
  (h:Q (.ref t) s):wpAny (model prog w) A (getItem (.ref t) (.ref sl)) Q E s:=by
 obtain ⟨os,hos,hcs,hds⟩:=id hs
 have hTs:s.TypeIs (.ref sl) "slice":=⟨os,hos,hcs⟩
 unfold getItem
 try with_reducible refine wpAny_holding ?_
 first | refine wpAny_bind (wpAny_pure ?_) | skip
 refine wpAny_bind (wpAny_sequenceKey ht.typeIs (by decide) ?_)
 refine wpAny_bind (wpAny_callSpecial?_slot (name:=Str.ofString "__getitem__") ht.typeIs PyProof.Rows.slot_tuple_getitem
  (wpAny_call_entry PyProof.Rows.slot_tuple_getitem ht.typeIs entry_tuple_getitem ?_ (args_tuple_getitem _ _)))
 show wpAny _ _ (Builtin.Tuple.tupleItemsOf (.ref t) >>= _) _ _ s
 refine wpAny_bind (tupleItemsOf_ ht ?_)
 refine wpAny_bind (wpAny_typeOf hTs ?_)
 rw [if_pos (by decide)]
 refine wpAny_bind (mM hs pl pu ?_)
 have hyes:(((sIx items.size 0 lo:Nat):Int) == 0 && (1:Int) == 1 && (sIx items.size items.size hi - sIx items.size 0 lo) == items.size) = true:=by
  rw [hw.1,hw.2];simp
 show wpAny _ _ (if (((sIx items.size 0 lo:Nat):Int) == 0 && (1:Int) == 1 && (sIx items.size items.size hi - sIx items.size 0 lo) == items.size) = true then _ else _) _ _ s
 rw [if_pos hyes]
 obtain ⟨ot,hot,hct,n,hdt⟩:=id ht
 wp_walk
 first
  | exact ⟨_,rfl,wpAny_pure h⟩
  | exact ⟨_,rfl,h⟩
  | exact h
end
end HT
namespace L2
open PySem PySem.Spec PyProof.Rows
variable {X:Cx}
noncomputable def aOu (K:PySem.W.Frag):V->Option Int->Option Int->Hp->VK->Prop:=fun x lo hi H Q=>∃ a xs,x = .ref a/\SqT K H a xs /\
 (HT.sIx xs.length 0 lo = 0/\HT.sIx xs.length xs.length hi = xs.length)/\Q (.ref a) H
theorem aFh:SlR X (aOu X.K):=by
 intro pins s σ H x v vl vu lo hi sl Q I rx hs pl pu h
 obtain ⟨a,xs,rfl,hx,hw,q⟩:=h
 cases rx
 obtain ⟨its,r,ht,hz⟩:=I.tuple hx
 have hlen:its.toArray.size = xs.length:=by rw [List.size_toArray];exact r.length.symm
 refine ⟨"tuple",_,PyProof.Rows.slot_tuple_getitem.lookup,ht.typeIs,?_⟩
 exact HT.getItem_tuple_whole ht hs pl pu (by rw [hlen];exact hw) ⟨.ref a,H,I,rfl,q⟩
end L2
namespace Dd
open PySem PySem.Spec PyProof.Rows L2
section
variable {X:Cx} {e:Expr} {te:DE} {pos p2:Pos} {lo hi:Option Expr} {tl th:DO}
noncomputable def aJf (x:D) (lo hi:Option Int) (M:DM) (Q:DQ):Prop:=match x with
 | .tup ds=>Q (.tup (cutD ds lo hi)) M
 | _=>False
noncomputable def aLn (te:DE) (tl th:DO):DE:=fun ρ M Q=>te ρ M fun x M1=>tl ρ M1 fun l M2=>th ρ M2 fun h M3=>aJf x l h M3 Q
theorem aET {ds:List D} {lo hi:Option Int} (h:HT.sIx ds.length 0 lo = 0/\HT.sIx ds.length ds.length hi = ds.length):cutD ds lo hi = ds:=by
 unfold cutD
 rw [h.1,h.2];simp
theorem aEA (he:PDE X e te) (hl:PO X lo (yK X.K tl)) (hu:PO X hi (yK X.K th)):PDE X (.Subscript e (.Slice lo hi none p2) pos) (aLn te tl th) :=
 cJ (xA (SlR.or aK1 aFh) he hl hu) fun σ H Q ⟨ρ,M,Q',re,hm,q,k⟩=>⟨ρ,M,_,re,hm,q,fun v H1 ⟨d,M1,rd,hm1,e1,q1⟩=>⟨ρ,M1,_,re.ext e1,hm1,q1,fun l H2 ⟨M2,hm2,e2,q2⟩=>⟨ρ,M2,_,(re.ext e1).ext e2,hm2,q2,fun h H3 ⟨M3,hm3,e3,q3⟩=>by
  have rd3:=(rd.ext e2).ext e3
  have ex:=(e1.trans e2).trans e3
  cases d with
  | tup ds =>
   obtain ⟨a,us,rfl,sq,ru⟩:=cH rd3
   have l1:=ru.length
   have q3:Q' (.tup (cutD ds l h)) M3:=q3
   by_cases hw:HT.sIx ds.length 0 l = 0/\HT.sIx ds.length ds.length h = ds.length
   ·rw [aET hw] at q3
    exact .inr ⟨a,us,rfl,sq,by rw [<- l1];exact hw,k _ _ ⟨.tup ds,M3,cG sq ru,hm3,ex,q3⟩⟩
   ·exact .inl ⟨a,us,rfl,sq,by rw [<- l1];exact hw,fun p hp=>k _ _ ⟨.tup _,M3,cG (.of dE) ((yV ru l h).ext (Ext.new hp _)),hm3.new hp _,ex.trans (Ext.new hp _),q3⟩⟩
  | _=>exact q3.elim⟩⟩⟩
end
end Dd
namespace Dd
open PySem PySem.Spec PyProof.Rows L2
section
variable {X:Cx} {pins:List (Addr × Obj)} {σ:L2.St} {H:Hp} {s:Shared} {M:Model} {A:Around} {E:Value->Shared->Prop} {e T:Addr} {cls:Value}
end
section
variable {X:Cx} {e:Expr} {es:List Expr} {t:DA} {f:Str} {ps:List Str} {cond:List D->DM->Prop} {C:Addr} {k1 k:Nat} {V:DM->Prop} {pf pc:Pos}
end
section
variable {P:Program} {w:World} {K:PySem.W.Frag} {mg:Str->Option Value} {base:Heap}
theorem Has.never {x:Str} {st:Stmt} {N ps:List Str} (h:bX K mg x st ps) (S:aQ N ps (aJ st)) (k:Nat):Has P w K mg base (k + 1) x ps (fun _ _ _=>False) :=
 Has.mk h S (fun _ _ _ z=>z.elim) fun _ _ _ _ _ _ _ _ _ _ _ z=>z.elim
theorem Has.mono {x:Str} {ps:List Str} {k k':Nat} {sp:DSp} (h:Has P w K mg base k x ps sp) (l:k<=k'):Has P w K mg base k' x ps sp:=by
 obtain ⟨f,fd,F,hm,hk,hb⟩:=h
 exact ⟨f,fd,F.mono l,hm,hk,hb⟩
end
section
variable {X:Cx} {a:Expr} {e tg:Expr} {es:List Expr} {t:DA} {g:DG} {f n cm:Str} {ps:List Str} {sp:DSp} {cond:List D->DM->Prop} {C Cm:Addr} {k1 k2 k j:Nat} {ts:Addr->DS} {b0:Stmt} {suite:List Stmt} {pf pc pa pcm ph pos:Pos}
end
end Dd
namespace Dd
open PySem PySem.Spec PyProof.Rows L2
open PySem.AutoSeq1 (wpAny_loadPart')
theorem aCm (l b:Addr) (items items2:Array Value) (n n2:Nat) (dd dd2:Option Addr) (sl sl2:Array (Option Value)) (hc0:items.isEmpty = true) :
  Meets (Builtin.«tuple.__add__» ⟨[.ref l,.ref b],[]⟩) (fun _ R s=>s.heap.get? l = some { cls:=.type "tuple",dict:=dd,data:=.seq items n,slots:=sl }/\s.heap.get? b = some { cls:=.type "tuple",dict:=dd2,data:=.seq items2 n2,slots:=sl2 }/\R (.ok (.ret (Value.ref b))) { s with heap:=s.heap,toks:=s.toks }) :=
 .of_wp fun prog w A R s h=>by obtain ⟨hp,g,d,tk,os⟩:=s;obtain ⟨hl,hb,h⟩:=h;have f1:=AutoSeq1.idx_int;have f2:=AutoSeq1.sub_tuple_tuple;have f3:=AutoSeq1.sub_list_list;have f4:=AutoSeq1.sub_tuple_list;have f5:=AutoSeq1.sub_list_tuple;wp_walk using wpAny_loadPart' hl,wpAny_loadPart' hb;exact ⟨_,rfl,h⟩
section
variable {X:Cx}
noncomputable def aF4:D2:=fun x y M Q=>match x,y with
 | .tup xs,.tup ys=>xs.length + ys.length<=1000/\Q (.tup (xs ++ ys)) M
 | _,_=>False
theorem qH:OpD X (binaryOp .Add) aF4:=by
 intro pins s σ H x y v u Q I rx ry ⟨dx,dy,M,Q',r1,r2,hm,q,k⟩
 match dx,dy,q with
 | .tup xs,.tup ys,q =>
  obtain ⟨hl,q⟩:=q
  obtain ⟨a,us,rfl,sq,ru⟩:=cH r1
  obtain ⟨b,ws,rfl,sq2,rw'⟩:=cH r2
  have l3:=ru.length
  have l4:=rw'.length
  by_cases n1:us = []
  ·have nx:xs = []:=List.length_eq_zero_iff.mp (by rw [l3,n1];rfl)
   rw [nx] at q
   cases rx
   cases ry
   obtain ⟨its,r5,p1,_⟩:=I.tuple sq
   obtain ⟨its2,r6,p2,_⟩:=I.tuple sq2
   obtain ⟨⟨cls,dd,data,sl⟩,ho,hc,n,hd⟩:=id p1
   obtain ⟨⟨cls2,dd2,data2,sl2⟩,ho2,hc2,n2,hd2⟩:=id p2
   simp only at hc hd hc2 hd2
   subst hc hd hc2 hd2
   have e0:its = []:=List.length_eq_zero_iff.mp (by rw [<- r5.length,n1];rfl)
   exact concat_meets ⟨_,ho,rfl⟩ ⟨_,ho2,rfl⟩ noFill_tuple_add seq_tuple_add PySem.F.slot_tuple_add PySem.F.entry_tuple_add (PySem.F.args_tuple_add_2 _ _)
    (aCm a b its.toArray its2.toArray n n2 dd dd2 sl sl2 (by rw [e0];rfl)) ⟨ho,ho2,.ref b,H,I,rfl,k _ H ⟨.tup ys,M,cG sq2 rw',hm,.refl H,q⟩⟩
  ·refine aDP pins s σ H _ _ v u Q I rx ry ?_
   refine ⟨a,b,us,ws,rfl,rfl,sq,sq2,n1,by rw [<- l3,<- l4];exact Nat.le_of_lt (eX hl),fun z=>?_,fun _ p hp=>k _ _ ⟨.tup _,M,cG (.of dE) ((ru.append rw').ext (Ext.new hp _)),hm.new hp _,Ext.new hp _,q⟩⟩
   have ny:ys = []:=List.length_eq_zero_iff.mp (by rw [l4,z];rfl)
   rw [ny,List.append_nil] at q
   exact k _ H ⟨.tup xs,M,cG sq ru,hm,.refl H,q⟩
end
end Dd
namespace Dd
open PySem PySem.Spec PyProof.Rows L2
section
variable {X:Cx} {pins:List (Addr × Obj)} {σ:L2.St} {H:Hp} {s:Shared}
end
section
variable {X:Cx} {pos:Pos}
end
section
variable {X:Cx} {pos:Pos} {iter tg:Expr} {body:List Stmt} {tl:DE} {g:DG} {tb:DS} {ta:DA}
end
section
variable {X:Cx} {pos:Pos} {iter tg:Expr} {body:List Stmt} {tl:DE} {g:DG} {tb:DS} {ta:DA}
end
section
variable {X:Cx} {pos:Pos} {iter tg elt:Expr} {body:List Stmt} {tl te:DE} {g:DG} {tb:DS} {ta:DA}
theorem aGJ {elts:List Expr} {kk:Nat} {tpos:Pos} {a:Expr} {p pos':Pos} (hp:PassesOwn (model X.prog X.w) X.A X.env X.xe) (hc:X.calm = true) (hmg:X.mg "enumerate" = none) (ha:ZA X [a] ta) (hg:ZG X (.Tuple elts kk tpos) g) (hb:ZSs X body tb) (hgl:Gl X "enumerate":=by rfl) (hse:starEach [a] X.env = [(false,eval a X.env)]:=by rfl) (hs:∀ x,foldedSetIterable (.Call (.Name "enumerate" p) [a] [] pos') X.env x = pure x:=by intro _;rfl):ZS X (.For (.Tuple elts kk tpos) (.Call (.Name "enumerate" p) [a] [] pos') body [] pos) (aFO ta g tb):=.i (aIV hp hc hmg ha.o hg.o hb.o hgl hse hs)
variable {scope:Scope} {N':List Str} {fr:List (Option Nat)} {oN:List Str} {osc:Scope}
end
section
variable {prog:Program} {w:World} {A:Around} {E:Value->Shared->Prop} {s:Shared}
end
section
variable {X:Cx} {pos:Pos}
theorem aIf {x:Str} {names:List (Str × Str)} {p:Pos} {i:Expr} {ti:DE} (T:aHE X.w X.K X.mg x names) (hi:ZE X i ti) (hg:Gl X x:=by rfl) (hd:(x == ("__debug__":Str)) = false:=by decide) (hs:sS i:=by intro _ _;rfl):ZE X (.Subscript (.Name x p) i pos) (aLo X.mg names ti):=.i (aKn (i:=i) T hi.o hg hd hs)
theorem aEV {x:Str} {p:Pos} {e:Expr} {es:List Expr} {tf:DE} {ta:DA} {j k:Nat} (hf:ZE X (.Name x p) tf) (hr:eP k X.A) (hjk:j<=k) (ha:ZA X (e :: es) ta) (he:starEach (e :: es) X.env = (false,eval e X.env) :: starEach es X.env:=by rfl) (hpl:(backTo pos (starEach es X.env)).any (·.1) = false:=by rfl):ZE X (.Call (.Name x p) (e :: es) [] pos) (aCV X.prog X.w X.K X.mg X.base j tf ta):=.i (aFy (j:=j) (k:=k) hf.o hr hjk ha.o he hpl)
end
section
variable {P:Program} {w:World} {K:PySem.W.Frag} {mg:Str->Option Value} {base:Heap}
end
section
variable {X:Cx} {e:Expr} {te:DE} {pos p2:Pos} {lo hi:Option Expr} {tl th:DO}
theorem iX (he:ZE X e te) (hl:ZO X lo tl) (hu:ZO X hi th):ZE X (.Subscript e (.Slice lo hi none p2) pos) (aLn te tl th):=.i (aEA he.o hl.o hu.o)
end
section
variable {X:Cx} {pins:List (Addr × Obj)} {σ:L2.St} {H:Hp} {s:Shared} {M:Model} {A:Around} {E:Value->Shared->Prop} {e T:Addr} {cls:Value}
end
section
variable {X:Cx} {e:Expr} {es:List Expr} {t:DA} {f:Str} {ps:List Str} {cond:List D->DM->Prop} {C:Addr} {k1 k:Nat} {V:DM->Prop} {pf pc:Pos}
end
section
variable {P:Program} {w:World} {K:PySem.W.Frag} {mg:Str->Option Value} {base:Heap}
end
section
variable {X:Cx} {a:Expr} {e tg:Expr} {es:List Expr} {t:DA} {g:DG} {f n cm:Str} {ps:List Str} {sp:DSp} {cond:List D->DM->Prop} {C Cm:Addr} {k1 k2 k j:Nat} {ts:Addr->DS} {b0:Stmt} {suite:List Stmt} {pf pc pa pcm ph pos:Pos}
end
section
variable {X:Cx}
end
end Dd
namespace Dd
open PySem PySem.Spec PyProof.Rows L2
section
variable {X:Cx} {pins:List (Addr × Obj)} {σ:L2.St} {H:Hp} {s:Shared}
noncomputable def aNC:D2:=fun x y M Q=>match x,y with
 | .ref a,.ref b=>∃ xs,M a = some xs/\M b = some []/\Q (.bl (!xs.isEmpty)) M
 | _,_=>False
theorem aGi {k:Nat} (hr:eP k X.A):OpD X (compareOp .NotEq) aNC:=fun pins s σ H x y v u Q I rx ry ⟨dx,dy,M,Q',r1,r2,hm,q,k⟩=>by
 match dx,dy,q with
 | .ref a,.ref b,q =>
  obtain ⟨xs,ha,hb,q⟩:=q
  obtain rfl:=bD r1
  obtain rfl:=bD r2
  cases rx
  cases ry
  have un:=hr.un
  obtain ⟨us,hua,ru⟩:=hm.l a xs ha
  obtain ⟨ws,hub,rw'⟩:=hm.l b [] hb
  obtain ⟨z,its,nn,rr,hl,e⟩:=I.lstM hua
  obtain ⟨z2,its2,n2,r3,hl2,ee2⟩:=I.lstM hub
  have i1:s.heap.IsList a its.toArray:=⟨_,e,rfl,_,rfl⟩
  have i2:s.heap.IsList b its2.toArray:=⟨_,ee2,rfl,_,rfl⟩
  have l3:=ru.length
  have l4:=rw'.length
  have l5:=rr.length
  have l6:=r3.length
  have l7:its2.length = 0:=by rw [<- l6,<- l4];rfl
  have fin:Q (.bl (!xs.isEmpty)) H:=k _ H ⟨_,M,dL,hm,.refl H,q⟩
  cases xs with
  | nil =>
   have l8:its.length = 0:=by rw [<- l5,<- l3];rfl
   have:=SeqAt.RcNeAt.lists (A:=X.A) (e:=fun _=>true) i1 i2 (by rw [List.size_toArray,List.size_toArray];omega) (by omega) fun j j1 _=>absurd j1 (by rw [List.size_toArray];omega)
   rw [show (List.range its.toArray.size).all (fun _=>true) = true by simp] at this
   exact this X.prog X.w X.xe _ ⟨.bl (!true),H,I,rfl,fin⟩
  | cons d ds =>
   have l8:its.length = ds.length + 1:=by rw [<- l5,<- l3];rfl
   have:=SeqAt.RcNeAt.lists_lengths (A:=X.A) i1 i2 (by rw [List.size_toArray,List.size_toArray];simp;omega) (by omega)
   exact this X.prog X.w X.xe _ ⟨.bl (!false),H,I,rfl,fin⟩
end
end Dd
namespace Dd
open PySem PySem.Spec PyProof.Rows L2
noncomputable def Cm (M:DM):Nat->D->D->Bool->Prop
 | 0,d,d',b=>bM 0 d = true/\bM 0 d' = true/\b = eqD d d'
 | n + 1,d,d',b=>match d,d' with
  | .tup xs,.tup ys=>∃ e:Nat->Bool,(∀ j x y,xs[j]? = some x->ys[j]? = some y->Cm M n x y (e j))/\b = ((List.range (min xs.length ys.length)).all e && xs.length == ys.length)
  | .ref a,.ref a'=>∃ xs ys,M a = some xs/\M a' = some ys/\a ≠ a'/\(xs.length = ys.length->∃ e:Nat->Bool,(∀ j x y,xs[j]? = some x->ys[j]? = some y->Cm M n x y (e j))/\b = (List.range xs.length).all e)/\(xs.length ≠ ys.length->b = false)
  | d,d'=>bM 0 d = true/\bM 0 d' = true/\b = eqD d d'
section
variable {X:Cx} {pins:List (Addr × Obj)} {σ:L2.St} {H:Hp} {s:Shared} {M:DM}
end
section
variable {X:Cx}
end
end Dd
namespace Dd
open PySem PySem.Spec PyProof.Rows L2
noncomputable def aNU (w:World) (kvs:List (Str × D)):List D:=kvs.map fun p=>.tup [.int (hashStr w p.1),.str p.1,p.2]
section
variable {X:Cx} {pins:List (Addr × Obj)} {σ:L2.St} {H:Hp} {s:Shared}
end
section
variable {X:Cx} {pos:Pos}
end
end Dd
namespace Dd
open PySem PySem.Spec PyProof.Rows L2
section
variable {X:Cx} {pins:List (Addr × Obj)} {σ:L2.St} {H:Hp} {s:Shared}
end
section
variable {X:Cx} {pos:Pos}
end
end Dd
namespace Dd
open PySem PySem.Spec PyProof.Rows L2
noncomputable def FK (K:PySem.W.Frag) (x:Str) (f:Addr) (st:Stmt):Prop:=PySem.W.nsIn K mainGlobals x = some (some (.ref f))/\∃ fd,L2.Fun K x x st f fd
theorem FK.has {K:PySem.W.Frag} {mg:Str->Option Value} {h:Heap} {x:Str} {f:Addr} {st:Stmt} {ps:List Str} (b:FK K x f st) (X:K.In h) (G:h.Ns mainGlobals mg)
  (r:∀ (kV doc pm:Value) (an:Option Addr) (cdv ct:Value) (us:List Value),us.length = ps.length->bindArgs (PySem.W.fnOf x x (nC st) (eT st) (aJ st) .none kV doc pm an cdv ct) ⟨us,[]⟩ = pure (ps.zip us)):bX K mg x st ps :=
 let ⟨a,_,F⟩:=b;⟨_,_,F,PySem.W.mg_of X G a,F.binds r⟩
end Dd
namespace Dd
open PySem PySem.Spec PyProof.Rows L2
noncomputable def aBQ (tl:DE) (g:DG) (tb:DS):DS:=fun E ρ M=>aCc tl g tb E ρ M ∨ aCa tl g tb E ρ M
section
variable {X:Cx} {pos:Pos} {st:Stmt} {t1 t2:DS} {iter tg:Expr} {body:List Stmt} {tl:DE} {g:DG} {tb:DS}
theorem PDS.or (h1:PDS X st t1) (h2:PDS X st t2):PDS X st (fun E ρ M=>t1 E ρ M ∨ t2 E ρ M) :=
 fun a b c d e f ⟨ρ,M,Dn,re,hm,q,k⟩=>q.elim (fun q=>h1 a b c d e f ⟨ρ,M,Dn,re,hm,q,k⟩) fun q=>h2 a b c d e f ⟨ρ,M,Dn,re,hm,q,k⟩
theorem aIl (hp:PassesOwn (model X.prog X.w) X.A X.env X.xe) (hc:X.calm = true) (hi:PDE X iter tl) (hg:PDG X tg g) (hb:mQ X body tb) (hs:∀ x,foldedSetIterable iter X.env x = pure x:=by intro _;rfl):PDS X (.For tg iter body [] pos) (aBQ tl g tb) :=
 PDS.or (aD2 hp hc hi hg hb hs) (aD7 hp hc hi hg hb hs)
theorem aFr {i:Nat} {ds:List D} {E:iV} {ρ:cV} {M:DM} (h:ρ[i]? = some (some (.tup ds))) (q:dIt none ds g tb E ρ M):aBQ (aAP i) g tb E ρ M:=.inl (by unfold aCc aAP;rw [h];exact q)
theorem aFB {i:Nat} {a:Addr} {ds:List D} {E:iV} {ρ:cV} {M:DM} (h:ρ[i]? = some (some (.ref a))) (ha:M a = some ds) (q:dIt (some a) ds g tb E ρ M):aBQ (aAP i) g tb E ρ M:=.inr (by unfold aCa aAP;rw [h];exact ⟨ds,ha,q⟩)
noncomputable def aJp:D2:=fun x y M Q=>match x,y with
 | .ref a,.int n=>∃ ds,M a = some ds/\ds ≠ []/\-(2 ^ 62)<=n/\n < 2 ^ 62/\ds.length * n.toNat<=1000/\∀ p:Addr,M p = none->Q (.ref p) (bC M p (List.replicate n.toNat ds).flatten)
 | _,_=>False
theorem aDF:OpD X (binaryOp .Mult) aJp:=by
 intro pins s σ H x y v u Q I rx ry ⟨dx,dy,M,Q',r1,r2,hm,q,k⟩
 match dx,dy,q with
 | .ref a,.int n,q =>
  obtain ⟨ds,ha,ne,h1,h2,hz,q⟩:=q
  obtain ⟨vs,hu,rs⟩:=hm.l a ds ha
  obtain rfl:=bD r1
  obtain rfl:=aS r2
  cases rx
  obtain ⟨t,rfl⟩:=ry
  obtain ⟨z,its,m,rv,hl2,ho⟩:=I.lstM hu
  have l1:=rs.length
  have l2:=rv.length
  have hs:=eX hz
  have he:its.toArray.isEmpty = false:=by
   cases its with
   | nil=>exact absurd (List.length_eq_zero_iff.mp (by rw [l1,l2];rfl)) ne
   | cons a b=>rfl
  have hz':its.toArray.size * n.toNat<=sizeLine:=by rw [List.size_toArray,<- l2,<- l1];exact Nat.le_of_lt hs
  refine wpAny_binaryOp_repeat_ref (T:="list") (U:="int") (by decide) ⟨_,ho,rfl⟩ (fun s'=>typeIs_int s' n t) noFill_list_mul F.fills_int_mul F.slot_int_rmul repeat_list F.slot_int_index.lookup
   (call_meets F.slot_int_rmul (typeIs_int s n t) F.entry_int_rmul (F.args_int_rmul_2 _ _) (int___rmul___int_list n t a its.toArray m) ⟨ho,rfl,⟨_,ho,rfl⟩,?_⟩)
  refine call_meets F.slot_list_mul ⟨_,ho,rfl⟩ F.entry_list_mul (F.args_list_mul_2 _ _) (AutoListH.list___mul___list_int_3 a its.toArray m n t (by simp [Builtin.List.listFitsIndex];omega) (by simp [sizeLine] at hz';simp;omega) (by simp [Builtin.List.listTooLong];exact by simpa using hz')) ⟨ho,?_⟩
  rw [he]
  simp only [Bool.false_eq_true,if_false]
  have ef:=aEQ its n.toNat
  rw [show (List.foldl (fun x1 x2=>x1 ++ x2) #[] (List.replicate n.toNat its.toArray)) = (List.replicate n.toNat its).flatten.toArray from ef]
  have hl:(List.replicate n.toNat its).flatten.length<=sizeLine:=by
   rw [L2.len_rep]
   rw [List.size_toArray,Nat.mul_comm] at hz';exact hz'
  exact ⟨.ref _,_,I.lnew (t':=s.toks) (aBR rv n.toNat) (by rw [L2.len_rep,l2,<- L2.len_rep];exact hl),rfl,k _ _ ⟨.ref _,_,iO,hm.lnew I.fresh (aCH rs n.toNat),Ext.new I.fresh _,q _ (hm.fresh I.fresh)⟩⟩
end
end Dd
namespace Dd
open PySem PySem.Spec PyProof.Rows L2
section
variable {X:Cx} {pos:Pos} {st:Stmt} {t1 t2:DS} {iter tg:Expr} {body:List Stmt} {tl:DE} {g:DG} {tb:DS}
theorem tQ (hp:PassesOwn (model X.prog X.w) X.A X.env X.xe) (hc:X.calm = true) (hi:ZE X iter tl) (hg:ZG X tg g) (hb:ZSs X body tb) (hs:∀ x,foldedSetIterable iter X.env x = pure x:=by intro _;rfl):ZS X (.For tg iter body [] pos) (aBQ tl g tb):=.i (aIl hp hc hi.o hg.o hb.o hs)
end
end Dd
namespace Dd
open PySem PySem.Spec PyProof.Rows L2 Mz
section
variable {prog:Program} {w:World} {A:Around} {I S:Addr} {fp wr:List Addr} {n:Nat} {P:Nat->Value->Prop} {St:Nat->Heap->Prop} {R:Result->Shared->Prop} {dv:Value}
end
section
variable {prog:Program} {w:World} {A:Around} {E:Value->Shared->Prop} {s:Shared} {l:Addr} {xs:Array (Int × Tok)} {dv:Value}
end
section
variable {X:Cx} {pos p kp:Pos} {e d:Expr} {te td:DE}
end
section
variable {X:Cx} {pos:Pos} {iter tg:Expr} {body:List Stmt} {te:DE}
end
end Dd
namespace Dd
open PySem PySem.Spec PyProof.Rows L2
section
variable {prog:Program} {w:World} {A:Around} {I S:Addr} {fp wr:List Addr} {n:Nat} {P:Nat->Value->Prop} {St:Nat->Heap->Prop} {R:Result->Shared->Prop} {dv:Value}
end
section
variable {prog:Program} {w:World} {A:Around} {E:Value->Shared->Prop} {s:Shared} {l:Addr} {xs:Array (Int × Tok)} {dv:Value}
end
section
variable {X:Cx} {pos p kp:Pos} {e d:Expr} {te td:DE}
end
section
variable {X:Cx} {pos:Pos} {iter tg:Expr} {body:List Stmt} {te:DE}
end
end Dd
namespace Dd
open PySem PySem.Spec PyProof.Rows L2 Mz
section
variable {X:Cx} {pos:Pos} {elt iter tg cnd:Expr} {scope:Scope} {N':List Str} {fr:List (Option Nat)} {tl:DE} {oN:List Str} {osc:Scope} {g:DG} {tc:DT} {te:DE} {e:Expr} {t1 t2:DE}
end
end Dd
namespace Dd
open PySem PySem.Spec PyProof.Rows L2
section
variable {X:Cx} {pos:Pos} {elt iter tg cnd:Expr} {scope:Scope} {N':List Str} {fr:List (Option Nat)} {tl:DE} {oN:List Str} {osc:Scope} {g:DG} {tc:DT} {te:DE} {e:Expr} {t1 t2:DE}
end
end Dd
namespace Dd
open PySem PySem.Spec PyProof.Rows L2 Mz
section
variable {X:Cx} {a:Expr} {e:Expr} {es:List Expr} {t:DA} {f n cm:Str} {ps:List Str} {sp:DSp} {cond:List D->DM->Prop} {C Cm:Addr} {k1 k2 k j:Nat} {ts:Addr->DS} {b0:Stmt} {suite:List Stmt} {pf pc pa pcm ph pos:Pos}
end
noncomputable def aMv (b:Bool) (j:Nat) (a:Addr):DE:=fun ρ M Q=>ρ[j]? = some (some (.ref a))/\Q (.bl b) M
section
variable {X:Cx} {n c:Str} {C Cc a:Addr} {o:Obj} {p p1 p2 pos:Pos} {j:Nat}
end
noncomputable def aJ8 (t1 t2:DS):DS:=fun E ρ M=>t1 E ρ M ∨ t2 E ρ M
section
variable {X:Cx} {st:Stmt} {t1 t2:DS}
theorem aNR (h1:PDS X st t1) (h2:PDS X st t2):PDS X st (aJ8 t1 t2):=PDS.or h1 h2
end
section
variable {prog:Program} {w:World} {A:Around} {E:Value->Shared->Prop} {s:Shared}
end
section
variable {X:Cx}
end
noncomputable def aNO (i:Nat) (te:DE):DS:=fun E ρ M=>match ρ[i]? with
 | some (some d)=>te ρ M fun y M1=>aF4 d y M1 fun r M2=>E.nx (ρ.set i (some r)) M2
 | _=>False
section
variable {X:Cx} {e:Expr} {te:DE} {x:Str} {pos:Pos}
end
end Dd
namespace Dd
open PySem PySem.Spec PyProof.Rows L2
section
variable {X:Cx} {a:Expr} {e:Expr} {es:List Expr} {t:DA} {f n cm:Str} {ps:List Str} {sp:DSp} {cond:List D->DM->Prop} {C Cm:Addr} {k1 k2 k j:Nat} {ts:Addr->DS} {b0:Stmt} {suite:List Stmt} {pf pc pa pcm ph pos:Pos}
end
section
variable {X:Cx} {n c:Str} {C Cc a:Addr} {o:Obj} {p p1 p2 pos:Pos} {j:Nat}
end
section
variable {X:Cx} {st:Stmt} {t1 t2:DS}
theorem aGD (h1:ZS X st t1) (h2:ZS X st t2):ZS X st (aJ8 t1 t2):=.i (aNR h1.o h2.o)
end
section
variable {prog:Program} {w:World} {A:Around} {E:Value->Shared->Prop} {s:Shared}
end
section
variable {X:Cx}
end
section
variable {X:Cx} {e:Expr} {te:DE} {x:Str} {pos:Pos}
end
end Dd
namespace Dd
open PySem PySem.Spec PyProof.Rows L2 Mz
section
variable {prog:Program} {w:World} {A:Around} {E:Value->Shared->Prop} {s:Shared}
end
noncomputable def aM2:DSp:=fun ds M Q=>match ds with
 | [.tup [.int a,.int b]]=>Q (.int (if b > a then b else a)) M
 | _=>False
section
variable {X:Cx}
end
end Dd
namespace Dd
open PySem PySem.Spec PyProof.Rows L2 Mz
section
variable {X:Cx} {o e:Expr} {to te:DE} {pos:Pos}
noncomputable def aGZ (to te:DE):DE:=fun ρ M Q=>to ρ M fun x M1=>match x with
 | .ref p=>(∃ ds,M1 p = some ds)/\jS te oF ρ M1 fun ys M2=>∃ ds y,ys = [y]/\M2 p = some ds/\ds.length < 10000000/\Q .non (bC M2 p (ds ++ [y]))
 | _=>False
noncomputable def aGg (to te:DE):DE:=fun ρ M Q=>to ρ M fun x M1=>match x with
 | .ref p=>(∃ ds,M1 p = some ds)/\jS te oF ρ M1 fun ys M2=>∃ ds q es,ys = [.ref q]/\M2 p = some ds/\M2 q = some es/\ds.length + es.length<=10000000/\Q .non (bC M2 p (ds ++ es))
 | _=>False
end
section
variable {X:Cx} {pos:Pos}
noncomputable def aK9:D2:=fun x y M Q=>match x,y with
 | .tup ds,.int k=>-(2 ^ 62)<=k/\k < 2 ^ 62/\ds.length * k.toNat<=10000000/\Q (.tup (List.replicate k.toNat ds).flatten) M
 | _,_=>False
noncomputable def aG6:D2:=fun x y M Q=>match x,y with
 | .tup xs,.tup ys=>xs.length + ys.length<=10000000/\Q (.tup (xs ++ ys)) M
 | _,_=>False
end
section
variable {X:Cx}
end
noncomputable def aK8 (i:Nat) (te:DE):DS:=fun E ρ M=>match ρ[i]? with
 | some (some d)=>te ρ M fun y M1=>aG6 d y M1 fun r M2=>E.nx (ρ.set i (some r)) M2
 | _=>False
section
variable {X:Cx} {e:Expr} {te:DE} {x:Str} {pos:Pos}
end
end Dd
namespace Dd
open PySem PySem.Spec PyProof.Rows L2
section
variable {X:Cx} {o e:Expr} {to te:DE} {pos:Pos}
end
section
variable {X:Cx} {pos:Pos}
end
section
variable {X:Cx}
end
section
variable {X:Cx} {e:Expr} {te:DE} {x:Str} {pos:Pos}
end
end Dd
namespace Dd
open PySem PySem.Spec PyProof.Rows L2 Mz
open PySem.W (InstAt findIn clsIn takerIn mroIn looks_findIn looks_clsIn looks_mroIn)
open PySem.Builtin PySem.Builtin.ObjectAttr
noncomputable def aH9:List Value->Bool
 | .ref _ :: r=>aH9 r
 | l=>l == bmV
theorem vE (self:Value):∀ {l:List Value},aH9 l = true->refuseLoop self "__setattr__" l = pure ()
 | .ref c :: r,e=>by rw [refuseLoop_ref];exact vE self (l:=r) e
 | [],e=>by cases (show (([]:List Value) == bmV) = true from e)
 | .none :: r,e=>by cases (show ((Value.none :: r) == bmV) = true from e)
 | .ellipsis :: r,e=>by cases (show ((Value.ellipsis :: r) == bmV) = true from e)
 | .notImplemented :: r,e=>by cases (show ((Value.notImplemented :: r) == bmV) = true from e)
 | .bool b :: r,e=>by cases (show ((Value.bool b :: r) == bmV) = true from e)
 | .int i t :: r,e=>by cases (show ((Value.int i t :: r) == bmV) = true from e)
 | .float i t :: r,e=>by cases (show ((Value.float i t :: r) == bmV) = true from e)
 | .str i t :: r,e=>by cases (show ((Value.str i t :: r) == bmV) = true from e)
 | .bytes i t :: r,e=>by cases (show ((Value.bytes i t :: r) == bmV) = true from e)
 | .builtin n :: r,e=>by cases (show ((Value.builtin n :: r) == bmV) = true from e)
 | .type n :: r,e=>by
  have z:(Value.type n :: r) = bmV:=beq_iff_eq.mp e
  rw [z]
  exact PySem.F.store_ValueError.passes self
structure aEF (K:PySem.W.Frag) (C:Addr) (f:Str):Prop where
 sa:findIn K (.ref C) "__setattr__" = some (some (.builtin "object.__setattr__"))
 cd:∃ cd,clsIn K C = some cd/\aH9 cd.mro = true/\cd.hasDict = true
 mo:mroIn K C (.type "object") = some true
 no:findIn K (.ref C) f = some none
section
variable {K:PySem.W.Frag} {prog:Program} {w:World} {A:Around} {E:Value->Shared->Prop} {s:Shared} {x C:Addr} {ox:Obj} {name:Str} {v:Value}
theorem aHl {tk:Tok} {R:Result->Shared->Prop} (X:K.In s.heap) (I:InstAt s.heap x ox C none) (hk:aEF K C name)
  (h:∀ b,wpAny (model prog w) A.in1 (storeInOwnDict (.ref x) (.ref C) (.str name tk) name v b)
   (fun fin s'=>match fin with | .done f=>R (.ok f) s' | .again c'=>c'.quiet = true/\codeAny (model prog w) A c' R s') (fun e s'=>R (.error e) s') s) :
  codeAny (model prog w) A (.call (.builtin "object.__setattr__") ⟨[.ref x,.str name tk,v],[]⟩) R s:=by
 have SF:=PySem.F.store_object
 obtain ⟨cd,hc,ho,_⟩:=hk.cd
 have sub:PySem.W.Looks (model prog w) s.heap (isInstance (.ref x) (.type "object")) true:=I.type.andThen (looks_mroIn X hk.mo)
 refine codeAny_call_builtin SF.slot.plain SF.entry (@PySem.W.check_slot (model prog w) _ _ s "object.__setattr__" "object" "__setattr__" (.ref x) [.str name tk,v] [] _ SF.kind SF.split sub (SF.args (.ref x) (.str name tk) v) ?_)
 have hm:PySem.W.Looks (model prog w) s.heap (mroOf (.ref C)) cd.mro:=(looks_clsIn X hc).andThen .now
 rw [PySem.W.osa_eq,refuse_eq]
 refine wpAny_bind (wpAny_bind (I.type.here (wpAny_bind (hm.here ?_))))
 rw [vE _ ho]
 exact wpAny_pure (wpAny_bind (I.type.here (wpAny_bind ((looks_findIn X hk.no).here (wpAny_bind (wpAny_pure (h _)))))))
theorem aLz {Q:Unit->Shared->Prop} (X:K.In s.heap) (I:InstAt s.heap x ox C none) (hk:aEF K C name) (hd:ox.dict = none)
  (h:∀ h' tk oD,h'.get? s.heap.objs.size = some oD->h'.Ns1 s.heap.objs.size (fun y=>if y = name then some v else none)->h'.get? x = some { ox with dict:=some s.heap.objs.size }->(∀ b o,b ≠ x->s.heap.get? b = some o->h'.get? b = some o)->Q () { s with heap:=h',toks:=tk }) :
  wpAny (model prog w) A (setAttr (.ref x) name v) Q E s:=by
 refine PySem.W.set_plain X I hk.sa (aHl (s:={ s with toks:=s.toks + 1 }) X I hk fun b=>?_)
 obtain ⟨cd,hc,_,hcd⟩:=hk.cd
 obtain ⟨hx,hcl,hn,-⟩:=I
 obtain ⟨hh,g,d,t,os⟩:=s
 obtain ⟨oc,odi,oda,osl⟩:=ox
 dsimp only at hcl hd hx h
 subst hcl hd
 have hxs:x ≠ hh.objs.size:=Nat.ne_of_lt (Heap.lt_size hx)
 refine wpAny_bind (wpAny_pure (wpAny_bind (wpAny_bind (wpAny_loadPart hx (wpAny_bind (PySem.W.Looks.here (s:=⟨hh,g,d,t + 1,os⟩) (looks_clsIn X hc) ?_))))))
 rw [hcd]
 have nc:∀ c,oda ≠ .cls c:=fun c z=>by
  unfold PySem.W.notCls at hn
  rw [z] at hn;cases hn
 rw [if_neg (by decide)]
 dsimp only
 rw [if_neg (by simp [typeHasDict])]
 split
 ·exact absurd rfl (nc _)
 have hx1:(hh.push { cls:=.type "dict",data:=.dict #[] }).get? x = some ⟨.ref C,none,oda,osl⟩:=Heap.get?_push_of_some _ hx
 refine wpAny_bind (wpAny_alloc' (wpAny_bind (wpAny_update' hx1 (wpAny_pure ?_))))
 have hgd:((hh.push { cls:=.type "dict",data:=.dict #[] }).update x fun o=>{ cls:=o.cls,dict:=some hh.objs.size,data:=o.data,slots:=o.slots }).get? hh.objs.size = some { cls:=.type "dict",data:=.dict #[] } :=
  (Heap.get?_update_ne _ _ _ _ (Ne.symm hxs)).trans (Heap.get?_push_at rfl rfl)
 have hgx:((hh.push { cls:=.type "dict",data:=.dict #[] }).update x fun o=>{ cls:=o.cls,dict:=some hh.objs.size,data:=o.data,slots:=o.slots }).get? x = some ⟨.ref C,some hh.objs.size,oda,osl⟩:=by
  refine Heap.get?_update_self _ hx1 ?_
  have hfr:=(Heap.get?_some_iff.mp hx).2
  cases oda<;>first | rfl | exact hfr
 have hgb:∀ b o,b ≠ x->hh.get? b = some o->((hh.push { cls:=.type "dict",data:=.dict #[] }).update x fun o=>{ cls:=o.cls,dict:=some hh.objs.size,data:=o.data,slots:=o.slots }).get? b = some o:=fun b o n e =>
  (Heap.get?_update_ne _ _ _ _ n).trans (Heap.get?_push_of_some _ e)
 generalize (hh.push { cls:=.type "dict",data:=.dict #[] }).update x _ = h1 at hgd hgx hgb ⊢
 have hnd:h1.Ns hh.objs.size (fun _=>none):=⟨_,#[],_,hgd,rfl,fun e he=>absurd he (by simp),fun _=>rfl⟩
 show wpAny _ _ (storeInDict hh.objs.size (.str name t) name v) _ _ _
 unfold storeInDict newKeyGuard
 refine wpAny_bind (wpAny_pure (wpAny_bind (wpAny_nsSet1 (Heap.Ns1.of_empty hnd) fun h' hn' hs=>?_)))
 obtain ⟨oD,esD,epD,hoD,hdD,hcD⟩:=hn'.count (PySem.Within.cons name v PySem.Within.nil)
 refine wpAny_bind (wpAny_lookBehind hoD (by rw [hdD];exact pastItsLine_dict (Nat.le_trans hcD (by rw [List.length_cons,List.length_nil,sizeLine_eq];omega))) ?_)
 wp_walk
 exact h h' _ oD hoD hn' ((hs.2 x hxs).trans hgx) fun b o n e=>(hs.2 b (Nat.ne_of_lt (Heap.lt_size e))).trans (hgb b o n e)
end
noncomputable def lR (C t:Addr) (od:Option Addr):Obj:={ cls:=.ref C,dict:=od,data:=.fields #[.ref t,.none,.none,.none,.bool false,.none] }
noncomputable def XO (e C:Addr) (od:Option Addr):Heap->Prop:=fun h=>∃ t,h.get? e = some (lR C t od)
theorem aI9 {P:Program} {w:World} {H:Hp} {h:Heap} {e C:Addr} {od:Option Addr} (x:XO e C od h):fH P w H h e (.ext (XO e C od)) :=
 ⟨x,let ⟨t,q⟩:=x;⟨_,q⟩,fun h1 h2 ⟨t,q⟩ k=>⟨t,k _ q⟩⟩
section
variable {X:Cx} {pins:List (Addr × Obj)} {σ:L2.St} {H:Hp} {s:Shared} {e C:Addr} {f:Str} {y:V} {u:Value}
noncomputable def aDo (H:Hp) (e:Addr):Hp:=fun b=>if b = e then none else H b
theorem aAw:aDo H e e = none:=if_pos rfl
theorem wH {b:Addr} (h:b ≠ e):aDo H e b = H b:=if_neg h
theorem _root_.L2.Inv.drop {φ:Heap->Prop} (I:Inv X pins σ H s) (h:H e = some (.ext φ)):Inv X pins σ (aDo H e) s:=by
 have out:∀ b o,aDo H e b = some o->b ≠ e/\H b = some o:=fun b o q=>by
  by_cases z:b = e
  ·rw [z,aAw] at q;cases q
  ·rw [wH z] at q;exact ⟨z,q⟩
 have sub:∀ b,H b = none->aDo H e b = none:=fun b q=>by
  unfold aDo;split
  ·rfl
  ·exact q
 have nt:∀ b o,H b = some o->(∀ φ,o ≠ .ext φ)->aDo H e b = some o:=fun b o q n=>by
  rw [wH (fun z=>by rw [z,h] at q;exact n φ (Option.some.inj q).symm)];exact q
 refine ⟨I.ok,I.os,I.bare,⟨I.base.keep,I.base.slot,fun b o q n hx=>sub b (I.base.free b o q n hx),I.base.there,fun b xs q=>nt b _ (I.base.tups b xs q) (fun φ z=>by cases z),fun b o v q=>nt b _ (I.base.frzs b o v q) (fun φ z=>by cases z),fun b ps q=>?_⟩,I.loc,I.cell,sub _ I.free,fun x c q=>sub c (I.freeC x c q),fun p hp=>?_,fun b o q=>?_,I.len⟩
 ·obtain ⟨m,z⟩:=I.base.tbls b ps q
  exact ⟨m,nt b _ z fun φ z=>by cases z⟩
 ·obtain ⟨a1,a2,a3,a4,a5⟩:=I.pin p hp
  exact ⟨a1,sub _ a2,a3,a4,a5⟩
 ·obtain ⟨ne,q⟩:=out b o q
  refine (I.hok b o q).stay (fun _ _ _ z=>z) (fun c z=>nt c _ z fun φ y=>by cases y) fun c xs z=>nt c _ z fun φ y=>by cases y
theorem aHL {A:Around} {E:Value->Shared->Prop} {Q:Unit->Shared->Prop} (I:Inv X pins σ H s) (h0:H e = some (.ext (XO e C none))) (hk:aEF X.K C f) (ry:cR y u)
  (h:∀ s' dx,H dx = none->dx ≠ e->Inv X pins σ (upd (upd H dx (.xd [(f,y)])) e (.ext (XO e C (some dx)))) s'->Q () s'):wpAny (model X.prog X.w) A (setAttr (.ref e) f u) Q E s:=by
 obtain ⟨⟨t,he⟩,_,_⟩:=I.hok e _ h0
 have ia:InstAt s.heap e (lR C t none) C none:=⟨he,rfl,rfl,trivial⟩
 refine aLz I.kIn ia hk rfl fun h' tk oD hoD hns hx hb=>?_
 have hlt:e < s.heap.objs.size:=Heap.lt_size he
 have hne:s.heap.objs.size ≠ e:=Nat.ne_of_gt hlt
 have hn:H s.heap.objs.size = none:=I.hok.fresh (Nat.le_refl _)
 have nf:oD.isFreed = false:=(Heap.get?_some_iff.mp hoD).2
 have pg:(s.heap.push oD).get? s.heap.objs.size = some oD:=Heap.get?_push_size _ nf
 have n1:(s.heap.push oD).Ns1 s.heap.objs.size (fun z=>if z = f then some u else none):=by
  obtain ⟨o',es,ep,q1,q2⟩:=hns
  rw [hoD] at q1
  cases q1
  exact ⟨oD,es,ep,pg,q2⟩
 have rel:∀ g,aIu (([(f,y)]:List (Str × V)).lookup g) (if g = f then some u else none):=fun g=>by
  by_cases z:g = f
  ·subst z
   rw [if_pos rfl,List.lookup_cons,beq_self_eq_true]
   exact ry
  ·rw [if_neg z,List.lookup_cons,beq_eq_false_iff_ne.mpr z]
   exact trivial
 have I1:Inv X pins σ (upd H s.heap.objs.size (.xd [(f,y)])) { s with heap:=s.heap.push oD,toks:=tk } :=
  I.laid (fun b v q=>Heap.get?_push_of_some _ q) (Nat.le_refl _) ⟨_,n1,rel⟩
 have e1:upd H s.heap.objs.size (.xd [(f,y)]) e = some (.ext (XO e C none)):=by rw [bN (Ne.symm hne)];exact h0
 have I2:=I1.write (h':=h') (t':=tk) (x:=e) (e:=e) (o:=.ext (XO e C (some s.heap.objs.size))) (by rw [e1];trivial) (.inl rfl) (fun b v nb q=>?_) ⟨_,hx⟩ (aI9 ⟨t,hx⟩)
 ·exact h _ _ hn hne I2
 ·by_cases z:b = s.heap.objs.size
  ·rw [z,pg] at q
   cases q
   rw [z];exact hoD
  ·rw [Heap.get?_push_ne _ _ _ z] at q
   exact hb b v nb q
end
end Dd
namespace Dd
open PySem PySem.Spec PyProof.Rows L2 Mz
open PySem.W (InstAt findIn clsIn takerIn mroIn looks_findIn looks_clsIn looks_mroIn)
noncomputable def aNL (K:PySem.W.Frag) (ta tv:TE) (f:Str):TS:=fun D σ H=>tv σ H fun y H1=>ta σ H1 fun x H2=>∃ e C,x = .ref e/\H2 e = some (.ext (XO e C none))/\aEF K C f/\∀ dx,H2 dx = none->dx ≠ e->D.nx σ (upd (upd H2 dx (.xd [(f,y)])) e (.ext (XO e C (some dx))))
section
variable {X:Cx} {o value:Expr} {f:Str} {pos pos':Pos} {ta tv:TE}
theorem aIt (ha:PE X o ta) (hv:PE X value tv) (hs:swapsWith value (some (.Attribute o f pos')) pos.line X.env = pure false):PS X (.Assign [.Attribute o f pos'] value pos) (aNL X.K ta tv f):=by
 intro pins s σ H D I h
 refine plainObj_wpAny_Assign_Attribute (thn (hv pins s σ H _ I h) fun u s1 ⟨y,H1,I1,ry,q⟩=>thn (ha pins s1 σ H1 _ I1 q) fun ov s2 ⟨x,H2,I2,rx,e,C,ex,ea,fk,q2⟩=>?_) hs
 subst ex
 obtain rfl:ov = Value.ref e:=rx
 exact aHL I2 ea fk ry fun s3 dx n1 n2 I3=>⟨σ,_,I3,q2 dx n1 n2⟩
end
noncomputable def spI (C:Addr) (f:Str):Sp:=fun vs H Q _=>∃ e y,vs = [.ref e,y]/\H e = some (.ext (XO e C none))/\∀ dx,H dx = none->dx ≠ e->Q .non (upd (upd H dx (.xd [(f,y)])) e (.ext (XO e C (some dx))))
section
variable {P:Program} {w:World} {K:PySem.W.Frag} {mg:Str->Option Value} {base:Heap}
theorem aHZ {x qual a b f:Str} {st:Stmt} {fI C:Addr} {fd:FuncData} {p1 p2 p3 p4:Pos} (F:L2.Fun K x qual st fI fd) (S:aQ [a,b] [a,b] (aJ st)) (fk:aEF K C f)
  (hb:eT st = [.Assign [.Attribute (.Name a p1) f p2] (.Name b p3) p4]) (va:Vis (aJ st) a) (vb:Vis (aJ st) b) (da:(a == ("__debug__":Str)) = false) (da':(a == ("__classdict__":Str)) = false) (db:(b == ("__debug__":Str)) = false) (db':(b == ("__classdict__":Str)) = false)
  (hs:∀ env:Env,swapsWith (.Name b p3) (some (.Attribute (.Name a p1) f p2)) p4.line env = pure false) (k:Nat):jJ P w K mg base CX0 (k + 1) fI fd [a,b] (spI C f):=by
 refine F.ok S (fun vs H Q E ⟨e,y,z,_⟩=>by rw [z];rfl) fun cdv A outer s H vs Q E hr ⟨e,y,z,he,q⟩=>?_
 subst z
 rw [hb]
 exact ⟨_,aD3 (aIt (aBd (i:=0) rfl va da da') (aBd (i:=1) rfl vb db db') (hs _)),_,rfl,_,rfl,e,C,rfl,he,fk,q⟩
end
section
variable {prog:Program} {w:World} {A:Around} {E:Value->Shared->Prop} {s:Shared} {K:PySem.W.Frag}
variable {nm qn:Str} {C N fI:Addr} {bs bm:List Value} {hdct:Bool} {sn:List Str} {sub:List Value} {ab:Bool} {col:Option Bool} {dd:Option Addr} {k0 k1 k2 k3 k5:Option Value}
theorem aIO {us:List Value} {Q:Value->Shared->Prop} (X:K.In s.heap) (T:OwnTail s.heap bmV bm) (cC:s.heap.get? C = some (excClassObj nm qn C N bs bm hdct sn sub ab col dd k0 k1 k2 k3 k5 "ValueError.__new__"))
  (hi:findIn K (.ref C) "__init__" = some (some (.ref fI))) (hf:PySem.W.typeIn K (.ref fI) = some (.type "function")) (hl:us.length<=sizeLine)
  (hq:wpAny (model prog w) (A.under (.builtin "type.__call__" ⟨.ref C :: us,[]⟩)) (call (.ref fI) (.ref (s.heap.objs.size + 1) :: us)) (fun r s'=>r = .none/\Q (.ref (s.heap.objs.size + 1)) s') E { s with heap:=(s.heap.push { cls:=.type "tuple",data:=.seq us.toArray }).push (lR C s.heap.objs.size none) }) :
  wpAny (model prog w) A (call (.ref C) us) Q E s:=by
 obtain ⟨hh,g,d,t,os⟩:=s
 have FB:=PySem.F.excBase_ValueError
 have g1:=tc_lookup
 have g2:=tc_bind (.ref C)
 have hT:(⟨hh,g,d,t,os⟩:Shared).TypeIs (.ref C) "type":=⟨_,cC,rfl⟩
 refine wpAny_call (codeAny_of_tree ?_)
 show wpAny _ _ (callAny (.ref C) _) _ _ _
 repeat (any_goals (first | assumption | (with_reducible refine wpAny_loadPart_at cC ?_) | wp_step))
 refine ⟨rfl,codeAny_call_builtin_at (Code.quiet_builtin _ (by decide +kernel)) entry_typeCall (wpAny_check_type_call_sub cC ?_)⟩
 repeat (first | (with_reducible refine wpAny_loadPart_at cC ?_) | (with_reducible refine wpAny_madeBy_exc cC ?_) | wp_step)
 refine codeAny_call_builtin_code (Code.quiet_builtin _ FB.quiet) (wpAny_check_new_subT FB T cC (codeAny_exc_new_subT FB T cC ?_ hl))
 show wpAny _ _ _ _ _ _
 have kp:∀ b o,hh.get? b = some o->((hh.push { cls:=.type "tuple",data:=.seq us.toArray }).push (lR C hh.objs.size none)).get? b = some o:=fun b o e=>Heap.get?_push_of_some _ (Heap.get?_push_of_some _ e)
 have X2:K.In ((hh.push { cls:=.type "tuple",data:=.seq us.toArray }).push (lR C hh.objs.size none)):=PySem.W.Frag.In.keeps (h:=hh) X kp
 have hg:((hh.push { cls:=.type "tuple",data:=.seq us.toArray }).push (lR C hh.objs.size none)).get? (hh.objs.size + 1) = some (lR C hh.objs.size none):=by
  have:=Heap.get?_push_size (hh.push { cls:=.type "tuple",data:=.seq us.toArray }) (o:=lR C hh.objs.size none) rfl
  rwa [Heap.size_push] at this
 have ia:InstAt ((hh.push { cls:=.type "tuple",data:=.seq us.toArray }).push (lR C hh.objs.size none)) (hh.objs.size + 1) (lR C hh.objs.size none) C none:=⟨hg,rfl,rfl,trivial⟩
 have cC2:=kp _ _ cC
 have L0:PySem.W.Looks (model prog w) ((hh.push { cls:=.type "tuple",data:=.seq us.toArray }).push (lR C hh.objs.size none)) (isInstance (.ref (hh.objs.size + 1)) (.ref C)) true:=by
  refine ia.type.andThen ?_
  intro A' Q' E' s' k' q'
  have:=wpAny_isSubtype_exc (M:=model prog w) (A:=A') (E:=E') (g:=s'.gens) (d:=s'.drawn) (t:=s'.toks) (os:=s'.os) (base:=.ref C) (Q:=Q') (k' _ _ cC2) (by rw [show (Value.ref C :: bm).contains (.ref C) = true by simp];exact q')
  exact this
 refine wpAny_bind (PySem.W.Looks.here (s:=⟨(hh.push { cls:=.type "tuple",data:=.seq us.toArray }).push (lR C hh.objs.size none),g,d,t,os⟩) L0 ?_)
 rw [if_neg (by decide)]
 refine wpAny_bind (wpAny_holding (PySem.W.special_fn (s:=⟨(hh.push { cls:=.type "tuple",data:=.seq us.toArray }).push (lR C hh.objs.size none),g,d,t,os⟩) X2 ia hi hf (wpAny_mono hq (fun r s' ⟨e1,q1⟩=>?_) fun e s' z=>z)))
 subst e1
 exact wpAny_pure q1
end
end Dd
namespace Dd
open PySem PySem.Spec PyProof.Rows L2 Mz
open PySem.W (InstAt findIn clsIn takerIn mroIn looks_findIn looks_clsIn looks_mroIn)
noncomputable def NwY (od:Option Addr) (h:Heap) (e:Addr) (cls:Value):Prop:=∃ oe vs,h.get? e = some oe/\(oe.cls = cls/\oe.dict = od)/\oe.data = .fields vs/\vs[1]? = some Value.none
noncomputable def TrY (od:Option Addr) (h:Heap) (e:Addr) (cls:Value) (T:Addr) (fl:Value):Prop :=
 ∃ oe vs oT ts,h.get? e = some oe/\(oe.cls = cls/\oe.dict = od)/\oe.data = .fields vs/\vs[1]? = some (.ref T)/\T ≠ e/\h.get? T = some oT/\oT.data = .fields ts/\ts[3]? = some fl
section
variable {X:Cx} {pins:List (Addr × Obj)} {σ:L2.St} {H:Hp} {s:Shared} {M:Model} {A:Around} {E:Value->Shared->Prop} {e T:Addr} {cls:Value} {od:Option Addr}
theorem xM {oe:Obj} {vs:Array Value} {head:Value} {hadNext:Bool} {Q:Unit->Shared->Prop} (I:Inv X pins σ H s) (hs:X.stack = X.env :: X.outer) (hf:X.env.frame = some X.env.locals) (hex:X.ex = [])
  (hA:A.frames = some X.stack) (he:s.heap.get? e = some oe) (hdi:oe.dict = od) (hd:oe.data = .fields vs) (hsz:1 < vs.size) (fe:FpN X pins H e)
  (h:∀ s' T,Inv X pins σ H s'->TrY od s'.heap e oe.cls T (rawInt X.env.locals)->FpN X pins H T->s.heap.get? T = none->Q () s') :
  wpAny M A (do let a <- frameOf X.env;let pl <- entryPlaceOf X.env.locals hadNext;let b <- EntryCells.newEntry head a .none (rawInt X.env.locals) .none pl;setField (.ref e) 1 b) Q E s:=by
 have hfr:A.frames = some (X.env :: X.outer):=by rw [hA,hs]
 have hl:s.heap.FunFrames X.base (X.env :: X.outer):=hs ▸ I.stack
 have hene:e ∉ (X.env :: X.outer).filterMap (·.frame):=fun hm=>by
  obtain ⟨_,o,ho,hnf⟩:=hl.mem hm
  rw [he] at ho;cases ho;exact hnf vs hd
 have hfs:frs X.stack = (X.env :: X.outer).filterMap (·.frame):=by rw [hs];rfl
 refine wpAny_bind (wpAny_frameOf_fun hfr hl hf fun h₁ hs₁=>?_)
 refine wpAny_bind (wpAny_entryPlaceOf fun pl hpl=>?_)
 unfold EntryCells.newEntry newFields
 refine wpAny_bind (wpAny_newObj_type ?_ (hpl.sizeOk5 _ _ _ _ _))
 have he₁:h₁.get? e = some oe:=(hs₁.2.1 e hene).trans he
 have he₂:=Heap.get?_push_of_some (h:=h₁) { cls:=.type "traceback",dict:=none,data:=.fields ([head,.ref X.env.locals,.none,rawInt X.env.locals,.none] ++ (if pl.isEmpty then List.replicate 6 Value.none else pl)).toArray } he₁
 refine wpAny_setField he₂ hd hsz ?_
 have hTe:h₁.objs.size ≠ e:=Nat.ne_of_gt (Heap.lt_size he₁)
 have hd₃:=Obj.data_mapFields hd (·.setIfInBounds 1 (Value.ref h₁.objs.size))
 have he₃:=Heap.get?_update_self (Obj.mapFields (·.setIfInBounds 1 (Value.ref h₁.objs.size))) he₂ (Obj.isFreed_of_fields hd₃)
 have hT₃:=(Heap.get?_update_other (h₁.push { cls:=.type "traceback",dict:=none,data:=.fields ([head,.ref X.env.locals,.none,rawInt X.env.locals,.none] ++ (if pl.isEmpty then List.replicate 6 Value.none else pl)).toArray })
  (Obj.mapFields (·.setIfInBounds 1 (Value.ref h₁.objs.size))) (Ne.symm hTe)).trans (Heap.get?_push_size h₁ rfl)
 have hTn:s.heap.get? h₁.objs.size = none:=Heap.get?_none_of_le (by rw [hs₁.1];exact Nat.le_refl _)
 refine h _ h₁.objs.size (L2.Inv.mark (s:=s) (ch:=[e]) I (fun b hb=>by rw [List.mem_singleton.mp hb];exact fe) (fun b o hb hc q=>?_) fun b o hc q=>?_) ?_ (L2.Inv.fpN (s:=s) I hex hTn (L2.Inv.untr (s:=s) I hTn)) hTn
 ·have hbe:b ≠ e:=fun z=>hc (by simp [z])
  rw [Heap.get?_update_other _ _ (Ne.symm hbe)]
  exact Heap.get?_push_of_some _ ((hs₁.2.1 b (by rw [<- hfs];exact hb)).trans q)
 ·have hbe:b ≠ e:=fun z=>hc (by simp [z])
  obtain ⟨sl,z⟩:=hs₁.2.2 b o q
  exact ⟨sl,by rw [Heap.get?_update_other _ _ (Ne.symm hbe)];exact Heap.get?_push_of_some _ z⟩
 ·exact ⟨_,_,_,_,he₃,⟨Obj.cls_mapFields _ _,(oM _ _).trans hdi⟩,hd₃,by simp [hsz],hTe,hT₃,rfl,by first | (simp;done) | (rcases hpl with rfl | ⟨_,_,_,_,_,_,_,rfl⟩<;>simp)⟩
theorem aER {Q:Unit->Shared->Prop} (I:Inv X pins σ H s) (hs:X.stack = X.env :: X.outer) (hf:X.env.frame = some X.env.locals) (hex:X.ex = []) (hA:A.frames = some X.stack) (n:NwY od s.heap e cls) (fe:FpN X pins H e)
  (h:∀ s' T,Inv X pins σ H s'->TrY od s'.heap e cls T (rawInt X.env.locals)->FpN X pins H T->s.heap.get? T = none->Q () s'):wpAny M A (noteFrame (.ref e) X.env) Q E s:=by
 obtain ⟨oe,vs,he,⟨rfl,hdi⟩,hd,h1⟩:=n
 unfold noteFrame
 simp only [hf]
 refine wpAny_bind (wpAny_field he hd h1 ?_)
 rw [if_neg (by decide)]
 exact xM I hs hf hex hA he hdi hd (Array.getElem?_eq_some_iff.mp h1).1 fe h
theorem vN {fl:Value} {Q:Unit->Shared->Prop} (I:Inv X pins σ H s) (t:TrY od s.heap e cls T fl) (fT:FpN X pins H T) (h:∀ s',Inv X pins σ H s'->TrY od s'.heap e cls T .none->Q () s'):wpAny M A (setFlight (.ref e) none) Q E s:=by
 obtain ⟨oe,vs,oT,ts,he,hcls,hd,h1,hTe,hT,hdT,h3⟩:=t
 have hsz3:3 < ts.size:=(Array.getElem?_eq_some_iff.mp h3).1
 unfold setFlight
 refine wpAny_bind (wpAny_field he hd h1 ?_)
 rw [if_pos (show (Value.ref T != Value.none) = true from by simp)]
 refine wpAny_setField hT hdT hsz3 (h _ (aAR (ts:=ts) I fT hT) ?_)
 exact ⟨oe,vs,_,_,(Heap.get?_update_other _ _ hTe).trans he,hcls,hd,h1,hTe,Heap.get?_update_self _ hT (Obj.isFreed_of_fields (Obj.data_mapFields hdT _)),Obj.data_mapFields hdT _,by simp [hsz3]⟩
theorem aDx {Q:Unit->Shared->Prop} (I:Inv X pins σ H s) (hs:X.stack = X.env :: X.outer) (hf:X.env.frame = some X.env.locals) (hex:X.ex = []) (hA:A.frames = some X.stack) (t:TrY od s.heap e cls T .none) (fe:FpN X pins H e) (fT:FpN X pins H T)
  (h:∀ s' T',Inv X pins σ H s'->TrY od s'.heap e cls T' (rawInt X.env.locals)->FpN X pins H T'->Q () s'):wpAny M A (noteFrame (.ref e) X.env) Q E s:=by
 obtain ⟨oe,vs,oT,ts,he,⟨rfl,hdi⟩,hd,h1,hTe,hT,hdT,h3⟩:=t
 unfold noteFrame
 simp only [hf]
 refine wpAny_bind (wpAny_field he hd h1 ?_)
 rw [if_pos (show (Value.ref T != Value.none) = true from by simp)]
 refine wpAny_bind (wpAny_field hT hdT h3 ?_)
 rw [if_neg (show ¬ ((Value.none == rawInt X.env.locals) = true) from by simp [rawInt])]
 refine wpAny_bind (wpAny_setField hT hdT (Array.getElem?_eq_some_iff.mp h3).1 ?_)
 exact xM (aAR (ts:=ts) I fT hT) hs hf hex hA ((Heap.get?_update_other _ _ hTe).trans he) hdi hd (Array.getElem?_eq_some_iff.mp h1).1 fe fun s' T' I' t' f' _=>h s' T' I' t' f'
theorem aDl {Q:Unit->Shared->Prop} (I:Inv X pins σ H s) (hs:X.stack = X.env :: X.outer) (hf:X.env.frame = some X.env.locals) (hex:X.ex = []) (hA:A.frames = some X.stack) (n:NwY od s.heap e cls) (fe:FpN X pins H e)
  (h:∀ s' T,Inv X pins σ H s'->TrY od s'.heap e cls T .none->FpN X pins H T->s.heap.get? T = none->Q () s'):wpAny M A (leaving X.env (.ref e)) Q E s:=by
 unfold leaving
 exact wpAny_bind (aER I hs hf hex hA n fe fun s1 T I1 t1 f1 n1=>vN I1 t1 f1 fun s2 I2 t2=>h s2 T I2 t2 f1 n1)
theorem aB5 {Q:Unit->Shared->Prop} (I:Inv X pins σ H s) (hs:X.stack = X.env :: X.outer) (hf:X.env.frame = some X.env.locals) (hex:X.ex = []) (hA:A.frames = some X.stack) (t:TrY od s.heap e cls T .none) (fe:FpN X pins H e) (fT:FpN X pins H T)
  (h:∀ s' T',Inv X pins σ H s'->TrY od s'.heap e cls T' .none->FpN X pins H T'->Q () s'):wpAny M A (leaving X.env (.ref e)) Q E s:=by
 unfold leaving
 exact wpAny_bind (aDx I hs hf hex hA t fe fT fun s1 T1 I1 t1 f1=>vN I1 t1 f1 fun s2 I2 t2=>h s2 T1 I2 t2 f1)
end
noncomputable def CXy (P:Program) (w:World):CXT:=fun outer H s E e s'=>∃ (a:Addr) (cls:Value) (T:Addr) (H':Hp) (od:Option Addr),e = Value.ref a/\s'.os = s.os/\AllBare s'.gens/\Un (frs outer) [] H H' s.heap s'.heap/\HOk P w H' s'.heap /\
 TrY od s'.heap a cls T .none/\s.heap.get? a = none/\s.heap.get? T = none/\H' a = none/\H' T = none/\E cls od H'
structure sM (P:Program) (w:World) (K:PySem.W.Frag) (mg:Str->Option Value) (base:Heap) (x:Str) (C:Addr) (f:Str):Prop where
 nm:mg x = some (.ref C)
 kp:PySem.W.keepIn K (.ref C) = true
 ob:∃ M nm qn N bs hdct sn sub ab col dd k0 k1 k2 k3 k5,K.lookup C = some (excClassObj nm qn C N bs (.ref M :: bmV) hdct sn sub ab col dd k0 k1 k2 k3 k5 "ValueError.__new__")/\PySem.W.excIn K M bmV "ValueError.__new__" = true/\∃ cdM,clsIn K M = some cdM/\cdM.mro = .ref M :: bmV
 init:∃ fI fd a b,findIn K (.ref C) "__init__" = some (some (.ref fI))/\PySem.W.typeIn K (.ref fI) = some (.type "function")/\jJ P w K mg base CX0 1 fI fd [a,b] (spI C f)/\mG K fd [a,b] []
theorem sM.tail {P:Program} {w:World} {K:PySem.W.Frag} {mg:Str->Option Value} {base h:Heap} {x f:Str} {C:Addr} (c:sM P w K mg base x C f) (X:K.In h) :
  ∃ bm nm qn N bs hdct sn sub ab col dd k0 k1 k2 k3 k5,h.get? C = some (excClassObj nm qn C N bs bm hdct sn sub ab col dd k0 k1 k2 k3 k5 "ValueError.__new__")/\OwnTail h bmV bm:=by
 obtain ⟨M,nm,qn,N,bs,hdct,sn,sub,ab,col,dd,k0,k1,k2,k3,k5,lk,hq,cdM,hcM,hm⟩:=c.ob
 obtain ⟨bm,N',nm',qn',bs',hdct',sn',sub',ab',col',dd',l0,l1,l2,l3,l5,mN,hC,hN,hni,T⟩:=aD6 X hq
 refine ⟨_,nm,qn,N,bs,hdct,sn,sub,ab,col,dd,k0,k1,k2,k3,k5,X _ _ lk,?_⟩
 have e:bm = bmV:=by
  unfold PySem.W.clsIn at hcM
  split at hcM
  ·rename_i q
   have z:=(X _ _ q).symm.trans hC
   cases hcM
   cases z
   exact List.cons.inj hm |>.2
  ·cases hcM
 subst e
 exact .own hC hN hni T
noncomputable def aBD (X:Cx) (x:Str) (V:Int->DM->Prop):Prop:=X.calm = true/\X.ex = []/\∃ C f,sM X.prog X.w X.K X.mg X.base x C f /\
 ∀ pins σ H s a M' dx i,Inv X pins σ H s->NwY (some dx) s.heap a (.ref C)->FpN X pins H a->cO X.K M' H->H dx = some (.xd [(f,.int i)])->V i M'->X.xe (.ref a) s
noncomputable def aLX (V:Int->DM->Prop) (ds:List D) (M:DM):Prop:=match ds with
 | [.int i]=>V i M
 | _=>False
noncomputable def aBy (V:Int->DM->Prop) (te:DE):DS:=fun _ ρ M=>jS te oF ρ M (aLX V)
theorem aEl {K:PySem.W.Frag} {M:DM} {H H':Hp} (h:cO K M H) (g:∀ b o,H b = some o->H' b = some o):cO K M H':=by
 have ex:Ext H H':=⟨fun a ys e=>g a _ e,fun a ob u e=>g a _ e⟩
 exact ⟨fun a ds q=>let ⟨xs,z,r⟩:=h.l a ds q;⟨xs,g _ _ z,r.ext ex⟩,fun a ds q=>let ⟨xs,z,r⟩:=h.d a ds q;⟨xs,g _ _ z,qN r ex⟩⟩
section
variable {X:Cx} {pins:List (Addr × Obj)} {σ:L2.St} {H:Hp} {s:Shared} {x f:Str} {C:Addr} {k:Nat} {i:Int}
theorem aFZ {us:List Value} {Q:Value->Shared->Prop} (c:sM X.prog X.w X.K X.mg X.base x C f) (hr:eP k X.A) (hk:2<=k) (hex:X.ex = []) (I:Inv X pins σ H s) (r:cA [V.int i] us)
  (h:∀ s' a t dx H',Inv X pins σ H' s'->s'.heap.get? a = some (lR C t (some dx))->FpN X pins H' a->H' dx = some (.xd [(f,.int i)])->(∀ b o,H b = some o->H' b = some o)->Q (.ref a) s') :
  wpAny (model X.prog X.w) X.A (call (.ref C) us) Q X.xe s:=by
 obtain ⟨bm,nm,qn,N,bs,hdct,sn,sub,ab,col,dd,k0,k1,k2,k3,k5,hC,T⟩:=c.tail I.kIn
 obtain ⟨fI,fd,a,b,hi,hf,F,hb⟩:=c.init
 have hl:us.length<=sizeLine:=by rw [<- r.length];show 1<=sizeLine;decide
 refine aIO I.kIn T hC hi hf hl ?_
 have hg:((s.heap.push { cls:=.type "tuple",data:=.seq us.toArray }).push (lR C s.heap.objs.size none)).get? (s.heap.objs.size + 1) = some (lR C s.heap.objs.size none):=by
  have:=Heap.get?_push_size (s.heap.push { cls:=.type "tuple",data:=.seq us.toArray }) (o:=lR C s.heap.objs.size none) rfl
  rwa [Heap.size_push] at this
 have hn:s.heap.get? (s.heap.objs.size + 1) = none:=Heap.get?_none_of_le (Nat.le_succ _)
 have hH:H (s.heap.objs.size + 1) = none:=I.untr hn
 have I1:Inv X pins σ (upd H (s.heap.objs.size + 1) (.ext (XO (s.heap.objs.size + 1) C none))) { s with heap:=(s.heap.push { cls:=.type "tuple",data:=.seq us.toArray }).push (lR C s.heap.objs.size none) } :=
  I.laid (t':=s.toks) (fun b u q=>Heap.get?_push_of_some _ (Heap.get?_push_of_some _ q)) (Nat.le_succ _) (aI9 ⟨_,hg⟩)
 generalize (s.heap.push { cls:=.type "tuple",data:=.seq us.toArray }).push (lR C s.heap.objs.size none) = h1 at I1 hg ⊢
 generalize s.heap.objs.size + 1 = e at *
 have r2:cA (V.ref e :: [V.int i]) (Value.ref e :: us):=.cons rfl r
 have hlen:(Value.ref e :: us ++ []).length = [a,b].length:=by rw [List.append_nil,<- r2.length];rfl
 have hsp:spI C f (V.ref e :: [V.int i]) (upd H e (.ext (XO e C none))) (fun v H2=>v = .non/\∃ dx,upd H e (.ext (XO e C none)) dx = none/\dx ≠ e/\H2 = upd (upd (upd H e (.ext (XO e C none))) dx (.xd [(f,.int i)])) e (.ext (XO e C (some dx)))) (fun _ _ _=>False) :=
  ⟨e,.int i,rfl,dE,fun dx n1 n2=>⟨rfl,dx,n1,n2,rfl⟩⟩
 have hbb:=hb { s with heap:=h1 } (Value.ref e :: us) I1.kIn hlen
 rw [List.append_nil] at hbb
 refine wpAny_call (codeAny_mono (F.run _ X.stack _ _ ⟨Value.ref e :: us,[]⟩ (Value.ref e :: us) _ _ _ ((hr.mono hk).make C us []) (I1.env0.make C us []) hbb r2 hsp) fun r s' hq'=>?_)
 cases r with
 | error ev=>exact False.elim (by exact hq')
 | ok fl =>
  cases fl with
  | ret u =>
   obtain ⟨v,H2,I3,rv,ev,dx,n1,n2,e2⟩:=I1.after hq'
   subst ev e2
   refine ⟨rv,?_⟩
   have he2:upd (upd (upd H e (.ext (XO e C none))) dx (.xd [(f,.int i)])) e (.ext (XO e C (some dx))) e = some (.ext (XO e C (some dx))):=dE
   obtain ⟨⟨t,ht⟩,_,_⟩:=I3.hok e _ he2
   have hdx:H dx = none:=by rw [bN n2] at n1;exact n1
   refine h s' e t dx _ (I3.drop he2) ht (I.fpN hex hn aAw) (by rw [wH n2,bN n2];exact dE) fun b o q=>?_
   have b1:b ≠ e:=bU q hH
   rw [wH b1,bN b1,bN (bU q hdx),bN b1];exact q
  | next=>exact False.elim hq'
  | brk=>exact False.elim hq'
  | cont=>exact False.elim hq'
end
section
variable {X:Cx} {x:Str} {V:Int->DM->Prop} {e:Expr} {te:DE} {np cpos pos:Pos} {k:Nat}
theorem aE2 (R:aBD X x V) (hr:eP k X.A) (hk:2<=k) (he:PDE X e te) (hg:Gl X x:=by rfl) (hd:(x == ("__debug__":Str)) = false:=by decide)
  (hst:starEach [e] X.env = (false,eval e X.env) :: starEach [] X.env:=by rfl) (hpl:(backTo cpos (starEach [] X.env)).any (·.1) = false:=by rfl) :
  PDS X (.Raise (some (.Call (.Name x np) [e] [] cpos)) none pos) (aBy V te):=by
 intro pins s σ H D I ⟨ρ,M,D',re,hm,q,kk⟩
 obtain ⟨calm,hex,C,f,hc,fly⟩:=R
 rw [arm_exec_Raise]
 refine wpAny_bind (wpAny_standAt ?_)
 show wpAny _ _ (raiseStmt X.env (some (do let v <- eval (.Call (.Name x np) [e] [] cpos) X.env;standAt pos;pure v)) none) _ _ _
 have key:wpAny (model X.prog X.w) X.A (eval (.Call (.Name x np) [e] [] cpos) X.env) (fun v s1=>∃ a t dx,v = .ref a/\X.K.In s1.heap/\s1.heap.get? a = some (lR C t (some dx))/\X.xe (.ref a) s1) X.xe s:=by
  refine wpAny_Call_Name_kw (kX I hg hc.nm ?_ hd)
  refine PySem.W.callWith_K (h₀:=X.base) I.ok.mod.kin hc.kp (thn ((kS he oI hst:PDA X [e] (jS te oF)) cpos pins s σ H (LA X.K H _) I ⟨ρ,M,aLX V,re,hm,?_,fun vs H' z=>z⟩) fun us s1 ⟨vs,H1,I1,rv,ds,M1,rs,hm1,ex,q1⟩=>⟨I1.kIn,?_⟩) hst hpl
  ·exact q
  ·match ds,q1 with
   | [.int i],q1 =>
    obtain ⟨v,rfl,r1⟩:=eV rs
    obtain rfl:=aS r1
    refine aFZ hc hr hk hex I1 rv fun s' a t dx H' I' ht fe hx mono=>?_
    exact ⟨a,t,dx,rfl,I'.kIn,ht,fly pins σ H' s' a M1 dx i I' ⟨_,_,ht,⟨rfl,rfl⟩,rfl,rfl⟩ fe (aEl hm1 mono) hx q1⟩
 unfold raiseStmt
 refine wpAny_bind (wpAny_bind (wpAny_mono key (fun v s1 ⟨a,t,dx,ev,kin,h1,h4⟩=>wpAny_bind (wpAny_standAt (wpAny_pure ?_))) fun _ _ z=>z))
 subst ev
 obtain ⟨bm,nm,qn,N,bs,hdct,sn,sub,ab,col,dd,k0,k1,k2,k3,k5,cC,T⟩:=hc.tail kin
 have hcB:(Value.ref C :: bm).contains (.type "BaseException") = true:=by rw [List.contains_cons,T.hasType (X:="BaseException") (b:=true) (by decide +kernel),Bool.or_true]
 obtain ⟨hh,g,d,tk,os⟩:=s1
 dsimp only at cC h1
 unfold lR at h1
 repeat (first | (with_reducible refine wpAny_loadPart_at h1 ?_) | (with_reducible refine wpAny_loadPart_at cC ?_) | (with_reducible refine wpAny_isSubtype_exc cC ?_;rw [hcB]) | wp_step)
 exact wpAny_raiseNew_none (I.ok.hd calm) h4
end
end Dd
namespace Dd
open PySem PySem.Spec PyProof.Rows L2 Mz
open PySem.W (InstAt findIn clsIn takerIn mroIn looks_findIn looks_clsIn looks_mroIn)
noncomputable def aNK (K:PySem.W.Frag) (C:Addr) (f:Str) (cond:List D->DM->Int->Prop):Sp:=fun vs H _ E=>∃ ds M i,bY K H ds vs/\cO K M H/\cond ds M i/\∀ M' H' dx,cO K M' H'->aW M M'->H' dx = some (.xd [(f,.int i)])->E (.ref C) (some dx) H'
noncomputable def jU (P:Program) (w:World) (K:PySem.W.Frag) (mg:Str->Option Value) (base:Heap) (k:Nat) (x:Str) (ps:List Str) (C:Addr) (f:Str) (cond:List D->DM->Int->Prop):Prop :=
 ∃ fa fd,jJ P w K mg base (CXy P w) k fa fd ps (aNK K C f cond)/\mg x = some (.ref fa)/\PySem.W.keepIn K (.ref fa) = true/\mG K fd ps []
noncomputable def aDW (X:Cx) (C:Addr) (f:Str) (V:Int->DM->Prop):Prop:=X.ex = [] /\
 ∀ pins σ H s a T M' dx i,Inv X pins σ H s->TrY (some dx) s.heap a (.ref C) T .none->FpN X pins H a->FpN X pins H T->cO X.K M' H->H dx = some (.xd [(f,.int i)])->V i M'->X.xe (.ref a) s
noncomputable def aC1 (V:Int->DM->Prop) (cond:List D->DM->Int->Prop) (t:DA):DE:=fun ρ M _=>t ρ M fun ds M1=>∃ i,cond ds M1 i/\∀ M',aW M1 M'->V i M'
noncomputable def XW (K:PySem.W.Frag) (C:Addr) (f:Str) (M1:DM) (i:Int):XK:=fun c od H'=>c = .ref C/\∃ dx M',od = some dx/\cO K M' H'/\aW M1 M'/\H' dx = some (.xd [(f,.int i)])
section
variable {X:Cx} {e:Expr} {es:List Expr} {t:DA} {fn f:Str} {ps:List Str} {cond:List D->DM->Int->Prop} {C:Addr} {k1 k:Nat} {V:Int->DM->Prop} {pf pc:Pos}
theorem aGH (hH:jU X.prog X.w X.K X.mg X.base k1 fn ps C f cond) (hr:eP k X.A) (hk1:k1<=k) (PO:aDW X C f V) (ha:PDA X (e :: es) t) (hg:Gl X fn:=by rfl) (hdb:(fn == ("__debug__":Str)) = false:=by decide)
  (he:starEach (e :: es) X.env = (false,eval e X.env) :: starEach es X.env:=by rfl) (hpl:(backTo pc (starEach es X.env)).any (·.1) = false:=by rfl) :
  PDE X (.Call (.Name fn pf) (e :: es) [] pc) (aC1 V cond t):=by
 intro pins s σ H Q I ⟨ρ,M,Q',re,hm,q,k'⟩
 obtain ⟨hex,fly⟩:=PO
 obtain ⟨f1,fd,F,hmf,hk,hb⟩:=id hH
 refine wpAny_Call_Name_kw (kX I hg hmf ?_ hdb)
 refine PySem.W.callWith_K (h₀:=X.base) I.ok.mod.kin hk (thn (ha pc pins s σ H (LA X.K H _) I ⟨ρ,M,_,re,hm,q,fun vs H' z=>z⟩) fun us s1 ⟨vs,H1,I1,rv,ds,M1,rs,hm1,ex,i,q1,q2⟩=>⟨I1.kIn,?_⟩) he hpl
 have hsp:aNK X.K C f cond vs H1 (fun _ _=>False) (XW X.K C f M1 i):=⟨ds,M1,i,rs,hm1,q1,fun M' H' dx a b c=>⟨rfl,dx,M',rfl,a,b,c⟩⟩
 have hl:(us ++ []).length = ps.length:=by rw [List.append_nil,<- rv.length];exact F.len _ _ _ _ hsp
 have hbb:=hb s1 us I1.kIn hl
 rw [List.append_nil] at hbb
 refine wpAny_call (codeAny_mono (F.run X.A X.stack s1 H1 ⟨us,[]⟩ us vs _ _ (hr.mono hk1) I1.env0 hbb rv hsp) fun r s' hq=>?_)
 cases r with
 | error ev =>
  obtain ⟨a,cls,T,H',od,rfl,os,bare,un,hok,tr,na,nT,ha',hT,rfl,dx,M',rfl,hm',sub,hx⟩:=(show CXy X.prog X.w X.stack H1 s1 (XW X.K C f M1 i) ev s' from hq)
  have I2:Inv X pins σ H' s':=I1.call' (ch:=[]) os un hok bare (fun b z=>absurd z (by simp))
  exact fly pins σ H' s' a T M' dx i I2 tr (I1.fpN hex na ha') (I1.fpN hex nT hT) hm' hx (q2 M' sub)
 | ok fl =>
  cases fl with
  | ret u=>obtain ⟨_,_,_,_,_,_,_,z⟩:=(show CE _ _ _ _ _ _ _ _ from hq);exact z.elim
  | next=>exact False.elim hq
  | brk=>exact False.elim hq
  | cont=>exact False.elim hq
end
section
variable {P:Program} {w:World} {K:PySem.W.Frag} {mg:Str->Option Value} {base:Heap}
theorem jU.mkZ {x c f:Str} {C:Addr} {st:Stmt} {N ps:List Str} {k:Nat} {cond:List D->DM->Int->Prop} (h:bX K mg x st ps) (hc:sM P w K mg base c C f) (S:aQ N ps (aJ st)) (len:∀ ds M i,cond ds M i->ds.length = ps.length)
  (hbody:∀ (fa:Addr) (cdv:Value) (A:Around) (outer:List Env) (s:Shared) (H:Hp) (ds:List D) (M:DM) (i:Int) (E:XK),eP k (A.deeper (envOfC x (aJ st) s.heap.objs.size fa cdv))->cond ds M i ->
   aBD (kD (CXy P w) P w K mg base N x (aJ st) fa cdv A outer s H E) c (fun j M'=>j = i/\aW M M')->aDW (kD (CXy P w) P w K mg base N x (aJ st) fa cdv A outer s H E) C f (fun j M'=>j = i/\aW M M') ->
   ∃ t,ZSs (kD (CXy P w) P w K mg base N x (aJ st) fa cdv A outer s H E) (eT st) t/\t { nx:=fun _ _=>False,rt:=fun _ _=>False } (iJ N ds) M):jU P w K mg base (k + 1) x ps C f cond:=by
 obtain ⟨fa,fd,F,hm,hb⟩:=h
 refine ⟨fa,fd,?_,hm,F.kp,hb⟩
 obtain ⟨oc,od,kV,doc,pm,an,cdv,ct,osl,rfl,lk,hcd⟩:=F.ex
 refine aE6 lk hcd S (fun vs H Q E ⟨ds,M,i,rs,hm,q,_⟩=>by rw [<- rs.length];exact len ds M i q) fun A outer s H vs Q E hr ⟨ds,M,i,rs,hm,q,k'⟩=>?_
 have RO:aBD (kD (CXy P w) P w K mg base N x (aJ st) fa cdv A outer s H E) c (fun j M'=>j = i/\aW M M') :=
  ⟨rfl,rfl,C,f,hc,fun pins σ H' s1 a M' dx j I n fe hm' hx ⟨ej,sub⟩ =>
   aDl (X:=kD (CXy P w) P w K mg base N x (aJ st) fa cdv A outer s H E) I rfl rfl rfl I.ok.frames n fe fun s' T I' t' fT _ =>
    ⟨a,.ref C,T,H',some dx,rfl,I'.os,I'.bare,I'.base,I'.hok,t',fe.2.2.1,fT.2.2.1,fe.1,fT.1,k' M' H' dx hm' sub (by rw [<- ej];exact hx)⟩⟩
 have PO:aDW (kD (CXy P w) P w K mg base N x (aJ st) fa cdv A outer s H E) C f (fun j M'=>j = i/\aW M M') :=
  ⟨rfl,fun pins σ H' s1 a T M' dx j I t fe fT hm' hx ⟨ej,sub⟩ =>
   aB5 (X:=kD (CXy P w) P w K mg base N x (aJ st) fa cdv A outer s H E) I rfl rfl rfl I.ok.frames t fe fT fun s' T' I' t' fT' =>
    ⟨a,.ref C,T',H',some dx,rfl,I'.os,I'.bare,I'.base,I'.hok,t',fe.2.2.1,fT'.2.2.1,fe.1,fT'.1,k' M' H' dx hm' sub (by rw [<- ej];exact hx)⟩⟩
 obtain ⟨t,h1,h2⟩:=hbody fa cdv A outer s H ds M i E hr q RO PO
 exact ⟨_,h1.o,iJ N ds,M,_,rC rs N,hm,h2,⟨fun σ' H' ⟨_,_,_,_,_,z⟩=>z.elim,fun v H' ⟨_,_,_,_,_,z⟩=>z.elim,fun σ' H' ⟨_,_,_,_,_,z⟩=>z.elim,fun σ' H' ⟨_,_,_,_,_,z⟩=>z.elim⟩⟩
theorem jU.never {x c f:Str} {C:Addr} {st:Stmt} {N ps:List Str} (h:bX K mg x st ps) (hc:sM P w K mg base c C f) (S:aQ N ps (aJ st)) (k:Nat):jU P w K mg base (k + 1) x ps C f (fun _ _ _=>False) :=
 jU.mkZ h hc S (fun _ _ _ z=>z.elim) fun _ _ _ _ _ _ _ _ _ _ _ z=>z.elim
theorem jU.imp {x f:Str} {C:Addr} {ps:List Str} {k:Nat} {cond cond':List D->DM->Int->Prop} (h:jU P w K mg base k x ps C f cond) (g:∀ ds M i,cond' ds M i->cond ds M i):jU P w K mg base k x ps C f cond':=by
 obtain ⟨fa,fd,F,hm,hk,hb⟩:=h
 exact ⟨fa,fd,F.imp fun vs H Q E ⟨ds,M,i,a,b,c,d⟩=>⟨ds,M,i,a,b,g _ _ _ c,d⟩,hm,hk,hb⟩
end
section
variable {X:Cx} {pins:List (Addr × Obj)} {σ:L2.St} {H:Hp} {s:Shared} {a e:Addr} {o:Obj} {fs:List (Str × V)}
end
noncomputable def aNl (sp:DSp) (cond:List D->DM->Int->Prop) (j:Nat) (t:DA) (nx:iV->D->cV->DM->Prop) (ts:Addr->Int->DS):DS:=fun D ρ M=>t ρ M fun ds M1 =>
 (∃ i,cond ds M1 i/\∀ a,ts a i (D.un j) (ρ.set j (some (.ref a))) M1) ∨ sp ds M1 fun d M2=>nx D d ρ M2
section
variable {X:Cx} {a:Expr} {e:Expr} {es:List Expr} {t:DA} {x f n cm fl:Str} {ps:List Str} {sp:DSp} {cond:List D->DM->Int->Prop} {C Cm:Addr} {k1 k2 k i j:Nat} {ts:Addr->Int->DS} {b0:Stmt} {suite:List Stmt} {px pf pc pa pcm ph pos:Pos}
end
noncomputable def aOD (j:Nat) (a:Addr) (i:Int):DE:=fun ρ M Q=>ρ[j]? = some (some (.ref a))/\Q (.int i) M
section
variable {X:Cx} {n f:Str} {C a dx:Addr} {o oD:Obj} {p pos:Pos} {j:Nat} {i:Int} {tk:Tok}
end
end Dd
namespace Dd
open PySem PySem.Spec PyProof.Rows L2 Mz
noncomputable def aDO (w:World) (K:PySem.W.Frag) (mg:Str->Option Value) (x:Str) (tab:List (Str × Int)) (non:List Str):Prop :=
 ∃ a es ep,mg x = some (.ref a)/\(a == sysModules) = false/\K.lookup a = some ⟨.type "dict",none,.dict es ep,#[]⟩/\PySem.W.KeysLit w.params es.toList/\(∀ k n,tab.lookup k = some n->∃ t,PySem.W.nsIn K a k = some (some (.int n t)))/\∀ k ∈ non,PySem.W.nsIn K a k = some none
noncomputable def aLv (tab:List (Str × Int)) (non:List Str) (Q:DQ) (ds:List D) (M1:DM):Prop:=match ds with
 | [.str k]=>(∃ n,tab.lookup k = some n/\Q (.int n) M1) ∨ (k ∈ non/\Q .non M1)
 | _=>False
noncomputable def aFn (tab:List (Str × Int)) (non:List Str) (te:DE):DE:=fun ρ M Q=>jS te oF ρ M (aLv tab non Q)
section
variable {X:Cx} {x:Str} {tab:List (Str × Int)} {non:List Str} {p apos cpos:Pos} {e:Expr} {te:DE}
theorem aHr (T:aDO X.w X.K X.mg x tab non) (he:PDE X e te) (hg:Gl X x:=by rfl) (hd:(x == ("__debug__":Str)) = false:=by decide)
  (hbase:attributeBase (.Name x p) "get" X.env (eval (.Name x p) X.env) = eval (.Name x p) X.env:=by rfl)
  (hfew:((backTo cpos (starEach [e] X.env)).all (fun x=>!x.1) && (backToKw cpos (keywordEach [] X.env)).all (fun x=>x.1.isSome)
   && decide ([e].length + ([]:List Keyword).length + (if ([]:List Keyword).isEmpty then 0 else 1) < 30)) = true:=by rfl)
  (hline:(apos.endLine == cpos.line) = true:=by rfl) (hs:starEach [e] X.env = (false,eval e X.env) :: starEach [] X.env:=by rfl) (hplain:(backTo cpos (starEach [] X.env)).any (·.1) = false:=by rfl) :
  PDE X (.Call (.Attribute (.Name x p) "get" apos) [e] [] cpos) (aFn tab non te):=by
 obtain ⟨a,es,ep,hm,hsm,hk,ks,look,nol⟩:=T
 intro pins s σ H Q I ⟨ρ,M,Q',re,hm',q,kq⟩
 refine wpAny_Call_method_late hbase hfew hline rfl (kX I hg hm ?_ hd)
 have mo:=PySem.W.mapOf_K (prog:=X.prog) (w:=X.w) I.kIn hk ks
 refine ⟨"dict","dict.get",PySem.F.plainAttrs_dict,PySem.F.slot_dict_get,PySem.F.type_dict_get,mo.typeIs,?_,?_⟩
 ·intro b e;cases e;exact ⟨_,I.kIn _ _ hk,rfl⟩
 ·have hA:=(kS he oI hs:PDA X [e] (jS te oF)) cpos pins s σ H (LA X.K H (aLv tab non Q')) I ⟨ρ,M,_,re,hm',q,fun vs H' z=>z⟩
  rw [hs] at hA ⊢
  refine Calls.callWith_builtin (by show (false || (backTo cpos (starEach [] X.env)).any (·.1)) = false;rw [hplain]<;>rfl) (Calls.evalArgs_plain (thn hA fun us s1 ⟨vs,H1,I1,rv,ds,M1,rs,hm1,ex,q1⟩=>?_))
  match ds,q1 with
  | [.str k],q1 =>
   obtain ⟨v,rfl,r1⟩:=eV rs
   obtain rfl:=bA r1
   obtain ⟨u,rfl,ru⟩:=tK rv
   obtain ⟨t,rfl⟩:=ru
   have mo1:=PySem.W.mapOf_K (prog:=X.prog) (w:=X.w) I1.kIn hk ks
   refine call_meetsIn PySem.F.slot_dict_get mo1.typeIs PySem.F.entry_dict_get (PySem.F.args_dict_get_2 _ _) (meets_dict_get (PySem.strKind X.prog X.w) a (strKind_is X.prog X.w k t) hsm) ⟨_,mo1,?_⟩
   rcases q1 with ⟨n,hn,q1⟩ | ⟨hn,q1⟩
   ·obtain ⟨t',hf⟩:=look k n hn
    rw [PySem.W.find_K hk hf]
    exact ⟨.int n,H1,I1.tok _,⟨_,rfl⟩,kq _ _ ⟨.int n,M1,bT,hm1,ex,q1⟩⟩
   ·rw [PySem.W.find_K hk (nol k hn)]
    exact ⟨.non,H1,I1.tok _,rfl,kq _ _ ⟨.non,M1,tS,hm1,ex,q1⟩⟩
end
end Dd
namespace Dd
open PySem PySem.Spec PyProof.Rows L2
section
variable {X:Cx} {pins:List (Addr × Obj)} {σ:L2.St} {H:Hp} {s:Shared} {M:Model} {A:Around} {E:Value->Shared->Prop} {e T:Addr} {cls:Value} {od:Option Addr}
end
section
variable {X:Cx} {pins:List (Addr × Obj)} {σ:L2.St} {H:Hp} {s:Shared} {x f:Str} {C:Addr} {k:Nat} {i:Int}
end
section
variable {X:Cx} {x:Str} {V:Int->DM->Prop} {e:Expr} {te:DE} {np cpos pos:Pos} {k:Nat}
theorem yO (R:aBD X x V) (hr:eP k X.A) (hk:2<=k) (he:ZE X e te) (hg:Gl X x:=by rfl) (hd:(x == ("__debug__":Str)) = false:=by decide) (hst:starEach [e] X.env = (false,eval e X.env) :: starEach [] X.env:=by rfl) (hpl:(backTo cpos (starEach [] X.env)).any (·.1) = false:=by rfl):ZS X (.Raise (some (.Call (.Name x np) [e] [] cpos)) none pos) (aBy V te):=.i (aE2 R hr hk he.o hg hd hst hpl)
end
section
variable {X:Cx} {e:Expr} {es:List Expr} {t:DA} {fn f:Str} {ps:List Str} {cond:List D->DM->Int->Prop} {C:Addr} {k1 k:Nat} {V:Int->DM->Prop} {pf pc:Pos}
theorem aAk (hH:jU X.prog X.w X.K X.mg X.base k1 fn ps C f cond) (hr:eP k X.A) (hk1:k1<=k) (PO:aDW X C f V) (ha:ZA X (e :: es) t) (hg:Gl X fn:=by rfl) (hdb:(fn == ("__debug__":Str)) = false:=by decide) (he:starEach (e :: es) X.env = (false,eval e X.env) :: starEach es X.env:=by rfl) (hpl:(backTo pc (starEach es X.env)).any (·.1) = false:=by rfl):ZE X (.Call (.Name fn pf) (e :: es) [] pc) (aC1 V cond t):=.i (aGH hH hr hk1 PO ha.o hg hdb he hpl)
end
section
variable {P:Program} {w:World} {K:PySem.W.Frag} {mg:Str->Option Value} {base:Heap}
end
section
variable {X:Cx} {pins:List (Addr × Obj)} {σ:L2.St} {H:Hp} {s:Shared} {a e:Addr} {o:Obj} {fs:List (Str × V)}
end
section
variable {X:Cx} {a:Expr} {e:Expr} {es:List Expr} {t:DA} {x f n cm fl:Str} {ps:List Str} {sp:DSp} {cond:List D->DM->Int->Prop} {C Cm:Addr} {k1 k2 k i j:Nat} {ts:Addr->Int->DS} {b0:Stmt} {suite:List Stmt} {px pf pc pa pcm ph pos:Pos}
end
section
variable {X:Cx} {n f:Str} {C a dx:Addr} {o oD:Obj} {p pos:Pos} {j:Nat} {i:Int} {tk:Tok}
end
section
variable {X:Cx} {x:Str} {tab:List (Str × Int)} {non:List Str} {p apos cpos:Pos} {e:Expr} {te:DE}
theorem aFD (T:aDO X.w X.K X.mg x tab non) (he:ZE X e te) (hg:Gl X x:=by rfl) (hd:(x == ("__debug__":Str)) = false:=by decide) (hbase:attributeBase (.Name x p) "get" X.env (eval (.Name x p) X.env) = eval (.Name x p) X.env:=by rfl) (hfew:((backTo cpos (starEach [e] X.env)).all (fun x=>!x.1) && (backToKw cpos (keywordEach [] X.env)).all (fun x=>x.1.isSome)
   && decide ([e].length + ([]:List Keyword).length + (if ([]:List Keyword).isEmpty then 0 else 1) < 30)) = true:=by rfl) (hline:(apos.endLine == cpos.line) = true:=by rfl) (hs:starEach [e] X.env = (false,eval e X.env) :: starEach [] X.env:=by rfl) (hplain:(backTo cpos (starEach [] X.env)).any (·.1) = false:=by rfl):ZE X (.Call (.Attribute (.Name x p) "get" apos) [e] [] cpos) (aFn tab non te):=.i (aHr T he.o hg hd hbase hfew hline hs hplain)
end
end Dd
namespace Dd
open PySem PySem.Spec PyProof.Rows L2 Mz
noncomputable def aNQ (w:World) (a:Addr) (Q:DQ) (ds:List D) (M2:DM):Prop:=match ds with
 | [.str k,dv]=>∃ kvs,M2 (.d a) = some (aNU w kvs)/\(kvs.map (·.1)).Nodup/\Q (((kvs.find? fun p=>decide (p.1 = k)).map (·.2)).getD dv) M2
 | _=>False
noncomputable def aNT (w:World) (to te ti:DE):DE:=fun ρ M Q=>to ρ M fun x M1=>match x with
 | .ref a=>(∃ kvs,M1 (.d a) = some (aNU w kvs)/\(kvs.map (·.1)).Nodup)/\jS te (jS ti oF) ρ M1 (aNQ w a Q)
 | _=>False
section
variable {X:Cx} {o e e2:Expr} {to te ti:DE} {apos cpos pos:Pos}
end
section
open PySem.W PySem.Calls
variable {prog:Program} {w:World} {A:Around} {E:Value->Shared->Prop} {s:Shared} {K:Frag} {x C D:Addr} {ox:Obj} {od:Option Obj}
end
section
variable {X:Cx} {n c:Str} {C Cc a dx:Addr} {o oD:Obj} {p p1 p2 pos:Pos} {j:Nat}
end
theorem aEh.nm {K:PySem.W.Frag} {mg:Str->Option Value} {x:Str} {C:Addr} (h:aEh K mg x C):mg x = some (.ref C):=h.1
noncomputable def aHM (g:Bool->Bool) (ta:DE) (tn:DA):DE:=fun ρ M Q=>ta ρ M fun x M1=>tn ρ M1 fun ds M2=>match x,ds with
 | .int k,[.int i,.int j]=>Q (.bl (g (decide (i<=k/\k < j)))) M2
 | _,_=>False
section
variable {X:Cx} {a n m:Expr} {ta:DE} {tn:DA} {pos p pos':Pos}
end
end Dd
namespace Dd
open PySem PySem.Spec PyProof.Rows L2
section
variable {X:Cx} {o e e2:Expr} {to te ti:DE} {apos cpos pos:Pos}
end
section
variable {prog:Program} {w:World} {A:Around} {E:Value->Shared->Prop} {s:Shared} {K:Frag} {x C D:Addr} {ox:Obj} {od:Option Obj}
end
section
variable {X:Cx} {n c:Str} {C Cc a dx:Addr} {o oD:Obj} {p p1 p2 pos:Pos} {j:Nat}
end
section
variable {X:Cx} {a n m:Expr} {ta:DE} {tn:DA} {pos p pos':Pos}
end
end Dd
namespace Ty
open PySem PySem.Builtin PySem.Builtin.Str PySem.StrLaws
noncomputable abbrev cl (x:Str):List Nat:=x.cps.toList
noncomputable abbrev one (c:Nat):Str:=⟨#[c]⟩
theorem ext {x y:Str} (h:cl x = cl y):x = y:=Str.ext' (Array.toList_inj.mp h)
theorem len_cl (x:Str):x.length = (cl x).length:=rfl
theorem cl_app (x y:Str):cl (x ++ y) = cl x ++ cl y:=by
 show (x.cps ++ y.cps).toList = _
 rw [Array.toList_append]
theorem nE (x:Str) (c limit:Nat):∀ (l:List Nat) (st:Array Nat × Nat),(∀ i ∈ l,st.2<=i)->l.Pairwise (· < ·) ->
  (forIn l st (occBody x (one c) x.length limit)).run.fst.toList = st.1.toList ++ (l.filter fun i=>decide ((cl x)[i]? = some c)).take (limit - st.1.size)
 | [],st,_,_=>by
  rw [List.filter_nil,List.take_nil,List.append_nil];rfl
 | a :: l,st,hf,hp=>by
  rw [List.forIn_cons]
  unfold occBody
  have ha:=hf a (List.mem_cons_self ..)
  rw [List.pairwise_cons] at hp
  have so:=subAt_one x c a
  by_cases hc:(cl x)[a]? = some c
  ·have h1:=so.mpr hc
   rw [List.filter_cons_of_pos (by simpa using hc)]
   by_cases hs:st.1.size < limit
   ·rw [if_pos ⟨⟨⟨hs,ha⟩,h1.1⟩,h1.2⟩]
    have ih:=nE x c limit l (st.1.push a,a + (one c).length) (fun i hi=>hp.1 i hi) hp.2
    refine ih.trans ?_
    rw [Array.toList_push,Array.size_push,List.append_assoc,show limit - st.1.size = (limit - (st.1.size + 1)) + 1 by omega,List.take_succ_cons]
    rfl
   ·rw [if_neg fun z=>hs z.1.1.1]
    have ih:=nE x c limit l st (fun i hi=>hf i (List.mem_cons_of_mem _ hi)) hp.2
    refine ih.trans ?_
    rw [show limit - st.1.size = 0 by omega,List.take_zero,List.take_zero]
  ·rw [List.filter_cons_of_neg (by simpa using hc),if_neg fun z=>hc (so.mp ⟨z.1.2,z.2⟩)]
   exact nE x c limit l st (fun i hi=>hf i (List.mem_cons_of_mem _ hi)) hp.2
theorem aDU (x:Str) (c limit:Nat):occurrences x (one c) 0 x.length limit = ((List.range' 0 (x.length + 1)).filter fun i=>decide ((cl x)[i]? = some c)).take limit:=by
 rw [occ_eq]
 have:=nE x c limit (List.range' 0 (x.length + 1 - 0)) (#[],0) (fun _ _=>Nat.zero_le _) List.pairwise_lt_range'
 rw [this]
 rfl
theorem pM (c:Nat):∀ (L:List Nat) (k:Nat),((List.range' k (L.length + 1)).filter fun i=>decide (L[i - k]? = some c)).length = L.count c
 | [],k=>by simp [List.range'_succ]
 | a :: L,k=>by
  rw [List.length_cons,List.range'_succ,List.filter_cons]
  have e:((List.range' (k + 1) (L.length + 1)).filter fun i=>decide ((a :: L)[i - k]? = some c)) = ((List.range' (k + 1) (L.length + 1)).filter fun i=>decide (L[i - (k + 1)]? = some c)):=by
   refine List.filter_congr fun i hi=>?_
   obtain ⟨h1,_⟩:=List.mem_range'_1.mp hi
   rw [show i - k = (i - (k + 1)) + 1 by omega,List.getElem?_cons_succ]
  rw [e,Nat.sub_self,List.getElem?_cons_zero,List.count_cons]
  by_cases h:a = c
  ·subst h
   rw [if_pos (by simp),List.length_cons,pM a L (k + 1)]
   simp
  ·rw [if_neg (by simpa using h),pM c L (k + 1),if_neg (by simpa using h)]
   rfl
theorem occ_count (x:Str) (c:Nat):(occurrences x (one c) 0 x.length (x.length + 1)).length = (cl x).count c:=by
 rw [aDU,List.length_take]
 have h:=pM c (cl x) 0
 simp only [Nat.sub_zero] at h
 rw [len_cl,h]
 have:=List.count_le_length (a:=c) (l:=cl x)
 omega
noncomputable def jl (c:Nat):List (List Nat)->List Nat
 | []=>[]
 | [x]=>x
 | x :: y :: r=>x ++ c :: jl c (y :: r)
theorem aCb (c:Nat):∀ ss:List Str,cl (Str.join (one c) ss) = jl c (ss.map cl)
 | []=>rfl
 | [_]=>rfl
 | x :: y :: r=>by
  show cl (x ++ one c ++ Str.join (one c) (y :: r)) = _
  rw [cl_app,cl_app,aCb c (y :: r)]
  show cl x ++ [c] ++ jl c (List.map cl (y :: r)) = cl x ++ c :: jl c (List.map cl (y :: r))
  rw [List.append_assoc];rfl
theorem cl_join (c:Nat) (ss:List Str):cl (glued (one c) ss) = jl c (ss.map cl):=by rw [glued_eq_join,aCb]
theorem aBU (c:Nat):∀ ps:List (List Nat),ps ≠ []->(jl c ps).count c + 1 = ps.length + (ps.map fun p=>p.count c).sum
 | [],h=>absurd rfl h
 | [x],_=>by
  show x.count c + 1 = 1 + (x.count c + 0)
  omega
 | x :: y :: r,_=>by
  have ih:=aBU c (y :: r) (fun e=>nomatch e)
  show (x ++ c :: jl c (y :: r)).count c + 1 = _
  rw [List.count_append,List.count_cons_self,List.map_cons,List.sum_cons,List.length_cons]
  omega
theorem aFV {c:Nat}:∀ {a b u v:List Nat},c ∉ a->c ∉ b->a ++ c :: u = b ++ c :: v->a = b/\u = v
 | [],[],u,v,_,_,h=>⟨rfl,(List.cons.inj h).2⟩
 | [],y :: b,u,v,_,hb,h=>absurd (List.cons.inj h).1 (fun e=>hb (e ▸ List.mem_cons_self ..))
 | x :: a,[],u,v,ha,_,h=>absurd (List.cons.inj h).1 (fun e=>ha (e ▸ List.mem_cons_self ..))
 | x :: a,y :: b,u,v,ha,hb,h=>by
  obtain ⟨e,h⟩:=List.cons.inj h
  obtain ⟨e2,e3⟩:=aFV (fun z=>ha (List.mem_cons_of_mem _ z)) (fun z=>hb (List.mem_cons_of_mem _ z)) h
  exact ⟨by rw [e,e2],e3⟩
theorem jl_inj {c:Nat}:∀ {ps ss:List (List Nat)},ps ≠ []->ss ≠ []->(∀ p ∈ ps,c ∉ p)->(∀ s ∈ ss,c ∉ s)->jl c ps = jl c ss->ps = ss
 | [],_,h,_,_,_,_=>absurd rfl h
 | _,[],_,h,_,_,_=>absurd rfl h
 | [x],[y],_,_,_,_,h=>by rw [show x = y from h]
 | [x],y :: z :: r,_,_,hp,_,h=>by
  have h:x = y ++ c :: jl c (z :: r):=h
  exact absurd (by rw [h];simp) (hp x (List.mem_cons_self ..))
 | x :: y :: r,[z],_,_,_,hs,h=>by
  have h:x ++ c :: jl c (y :: r) = z:=h
  exact absurd (by rw [<- h];simp) (hs z (List.mem_cons_self ..))
 | x :: y :: r,x' :: y' :: r',_,_,hp,hs,h=>by
  have h:x ++ c :: jl c (y :: r) = x' ++ c :: jl c (y' :: r'):=h
  obtain ⟨e1,e2⟩:=aFV (hp x (List.mem_cons_self ..)) (hs x' (List.mem_cons_self ..)) h
  have e3:y :: r = y' :: r':=jl_inj (by simp) (by simp) (fun p m=>hp p (List.mem_cons_of_mem _ m)) (fun s m=>hs s (List.mem_cons_of_mem _ m)) e2
  rw [e1,e3]
theorem parts_len (x:Str) (cuts:List Nat) (w:Nat):(partsBetween x cuts w).length = cuts.length + 1:=by
 unfold partsBetween
 simp
theorem map_cl_inj:∀ {ps ss:List Str},ps.map cl = ss.map cl->ps = ss
 | [],[],_=>rfl
 | [],_ :: _,h=>nomatch h
 | _ :: _,[],h=>nomatch h
 | p :: ps,s :: ss,h=>by
  rw [List.map_cons,List.map_cons] at h
  obtain ⟨e,h⟩:=List.cons.inj h
  rw [ext e,map_cl_inj h]
theorem aCF:∀ {ns:List Nat},ns.sum = 0->∀ n ∈ ns,n = 0
 | n :: ns,h,m,hm=>by
  rw [List.sum_cons] at h
  rcases List.mem_cons.mp hm with rfl | hm
  ·omega
  ·exact aCF (by omega) m hm
theorem split_eq {x:Str} {c:Nat} {ss:List Str} (h:x = glued (one c) ss) (n0:ss ≠ []) (hn:∀ s ∈ ss,c ∉ cl s):partsBetween x (occurrences x (one c) 0 x.length (x.length + 1)) (one c).length = ss:=by
 have g:=glued_between_self x (one c) (x.length + 1)
 generalize hps:partsBetween x (occurrences x (one c) 0 x.length (x.length + 1)) (one c).length = ps at g ⊢
 have pl:ps.length = (cl x).count c + 1:=by rw [<- hps,parts_len,occ_count]
 have pn:ps ≠ []:=fun e=>by rw [e] at pl;cases pl
 have ej:jl c (ps.map cl) = cl x:=by rw [<- cl_join,g]
 have ct:=aBU c (ps.map cl) (fun e=>pn (List.map_eq_nil_iff.mp e))
 rw [ej,List.length_map,pl] at ct
 have z:((ps.map cl).map fun p=>p.count c).sum = 0:=by omega
 refine map_cl_inj (jl_inj (c:=c) (fun e=>pn (List.map_eq_nil_iff.mp e)) (fun e=>n0 (List.map_eq_nil_iff.mp e)) (fun p hp=>?_) (fun s hs=>?_) ?_)
 ·have:=aCF z _ (List.mem_map_of_mem hp)
  exact List.count_eq_zero.mp this
 ·obtain ⟨t,ht,rfl⟩:=List.mem_map.mp hs
  exact hn t ht
 ·rw [ej,h,cl_join]
theorem wT (c:Nat):∀ (a b:List Nat) (k:Nat),c ∉ a->∃ r,((List.range' k ((a ++ c :: b).length + 1)).filter fun i=>decide ((a ++ c :: b)[i - k]? = some c)) = (k + a.length) :: r
 | [],b,k,_=>by
  rw [List.nil_append,List.length_cons,List.range'_succ,List.filter_cons_of_pos (by simp)]
  exact ⟨_,rfl⟩
 | y :: a,b,k,h=>by
  obtain ⟨r,e⟩:=wT c a b (k + 1) (fun z=>h (List.mem_cons_of_mem _ z))
  rw [List.cons_append,List.length_cons,List.range'_succ,List.filter_cons_of_neg (by
   rw [Nat.sub_self,List.getElem?_cons_zero]
   simp
   exact fun e=>h (e ▸ List.mem_cons_self ..))]
  refine ⟨r,?_⟩
  rw [show k + (y :: a).length = k + 1 + a.length by rw [List.length_cons];omega,<- e]
  refine List.filter_congr fun i hi=>?_
  obtain ⟨h1,_⟩:=List.mem_range'_1.mp hi
  rw [show i - k = (i - (k + 1)) + 1 by omega,List.getElem?_cons_succ]
theorem part_found {x:Str} {c:Nat} {a b:List Nat} (h:cl x = a ++ c :: b) (hn:c ∉ a):occurrences x (one c) 0 x.length 1 = [a.length]:=by
 rw [aDU,len_cl,h]
 obtain ⟨r,e⟩:=wT c a b 0 hn
 simp only [Nat.sub_zero,Nat.zero_add] at e
 rw [e];rfl
theorem part_none {x:Str} {c:Nat} (h:c ∉ cl x):occurrences x (one c) 0 x.length 1 = []:=by
 have:=found_one x c
 rw [decide_eq_false h] at this
 cases e:occurrences x (one c) 0 x.length 1 with
 | nil=>rfl
 | cons i r=>rw [e] at this;cases this
theorem cl_sub (x:Str) (i j:Nat):cl (strSub x i j) = ((cl x).drop i).take (j - i):=strSub_toList x i j
end Ty
namespace Dd
open PySem PySem.Spec PyProof.Rows L2 Mz
open PySem.Builtin.Str (glued occurrences partsBetween strSub subAt)
theorem uK {n:Nat} (h:n<=1000000):n<=sizeLine:=Nat.le_trans h (by decide)
noncomputable def aJk:D2:=fun x y M Q=>match x,y with
 | .str i,.str j=>i.length + j.length<=1000000/\Q (.str (i ++ j)) M
 | _,_=>False
noncomputable def aJm:D2:=fun x y M Q=>match x,y with
 | .str i,.int n=>(n = 0 ∨ n = 1)/\Q (.str (if n = 1 then i else Str.empty)) M
 | _,_=>False
noncomputable def aMu:DSp:=fun ds M Q=>match ds with
 | [.int i]=>i.natAbs.log2 < 1920/\Q (.str (toString i)) M
 | _=>False
noncomputable def aJi:DSp:=fun ds M Q=>match ds with
 | [.str x]=>∃ n,PySem.intText? x = some n/\x.length<=640/\Q (.int n) M
 | _=>False
section
variable {X:Cx}
theorem aDB:OpD X (binaryOp .Add) aJk:=fun pins s σ H x y v u Q I rx ry ⟨dx,dy,M,Q',r1,r2,hm,q,k⟩=>by
 match dx,dy,q with
 | .str i,.str j,q =>
  obtain ⟨hl,q⟩:=q
  obtain rfl:=bA r1
  obtain rfl:=bA r2
  exact aCW pins s σ H _ _ v u Q I rx ry ⟨i,j,rfl,rfl,uK hl,k _ H ⟨_,M,eR,hm,.refl H,q⟩⟩
theorem aIc:OpD X (binaryOp .Mult) aJm:=fun pins s σ H x y v u Q I rx ry ⟨dx,dy,M,Q',r1,r2,hm,q,k⟩=>by
 match dx,dy,q with
 | .str i,.int n,q =>
  obtain ⟨hn,q⟩:=q
  obtain rfl:=bA r1
  obtain rfl:=aS r2
  obtain ⟨t,rfl⟩:=rx
  obtain ⟨t2,rfl⟩:=ry
  rcases hn with rfl | rfl
  ·refine SB.mul ⟨by decide,fun h=>absurd (by decide) h,fun h=>absurd (by decide) h⟩ fun t' tk=>?_
   exact ⟨.str Str.empty,H,I.tok _,⟨_,rfl⟩,k _ H ⟨.str Str.empty,M,eR,hm,.refl H,q⟩⟩
  ·refine SB.mul ⟨by decide,fun _ h=>absurd h (by simp),fun _ h=>absurd h (by simp)⟩ fun t' tk=>?_
   exact ⟨.str i,H,I.tok _,⟨_,rfl⟩,k _ H ⟨.str i,M,eR,hm,.refl H,q⟩⟩
theorem aC9:gM X (.type "str") aMu:=gM.of aAK fun vs H M ds Q rs hm q=>by
 match ds,q with
 | [.int i],q =>
  obtain ⟨hl,q⟩:=q
  obtain ⟨v,rfl,rv⟩:=eV rs
  obtain rfl:=aS rv
  exact ⟨i,rfl,hl,_,M,eR,hm,.refl H,q⟩
theorem aHY:gM X (.type "int") aJi:=by
 intro pins s σ H xs us Q I rs ⟨ds,M,Q',r1,hm,q,k⟩
 match ds,q with
 | [.str x],q =>
  obtain ⟨n,hn,hl,q⟩:=q
  obtain ⟨v,rfl,rv⟩:=eV r1
  obtain rfl:=bA rv
  obtain ⟨u,rfl,ru⟩:=tK rs
  obtain ⟨t,rfl⟩:=ru
  exact PySem.W.KIN.call_text hn hl ⟨.int n,H,I.tok _,⟨_,rfl⟩,k _ H ⟨_,M,bT,hm,.refl H,q⟩⟩
theorem aAG:∀ {ss:List Str} {its:List Value},cA (ss.map V.str) its->∃ l:List (Str × Tok),its = strValues l/\l.map (·.1) = ss
 | [],_,.nil=>⟨[],rfl,rfl⟩
 | x :: ss,_,.cons r rr=>by
  obtain ⟨t,rfl⟩:=r
  obtain ⟨l,e1,e2⟩:=aAG rr
  exact ⟨(x,t) :: l,by rw [e1];rfl,by rw [List.map_cons,e2]⟩
theorem aAq:∀ (ss:List Str) (tk:Nat),cA (ss.map V.str) (strsFrom tk ss)
 | [],_=>.nil
 | x :: ss,tk=>.cons ⟨tk,rfl⟩ (aAq ss (tk + 1))
theorem aCC (n:Nat):∀ (ss:List Str) (a:Nat),ss.foldl (fun acc p=>acc + p.length + n) a = a + (ss.map (·.length)).sum + ss.length * n
 | [],a=>by simp
 | x :: ss,a=>by
  rw [List.foldl_cons,aCC n ss,List.map_cons,List.sum_cons,List.length_cons,Nat.add_mul]
  omega
noncomputable def aNj:V->List V->Hp->VK->Prop:=fun x vs H Q=>∃ sep a ss,x = .str sep/\vs = [.ref a]/\H a = some (.lst (ss.map V.str))/\(ss.map (·.length)).sum + ss.length * sep.length<=1000000/\Q (.str (glued sep ss)) H
theorem aH1:MtM X "str.join" aNj:=by
 intro pins s σ H x vs v us Q I rx rv ⟨sep,a,ss,e1,e2,hH,hl,q⟩
 subst e1 e2
 obtain ⟨t,rfl⟩:=rx
 obtain ⟨u,rfl,ru⟩:=rv.one
 cases ru
 obtain ⟨z,its,n,r,hz,e⟩:=I.lstM hH
 obtain ⟨l,rfl,rfl⟩:=aAG r
 refine call_meets PySem.F.slot_str_join (typeIs_str _ _ _) PySem.F.entry_str_join (PySem.F.args_str_join_2 _ _) (meets_str_join_list sep t a l ?_) ⟨⟨_,e,rfl,_,rfl⟩,?_⟩
 ·unfold Builtin.Str.tooLong
  rw [List.foldl_toArray,aCC]
  have:=uK hl
  exact decide_eq_false (by omega)
 ·match l,q with
  | [p],q=>exact ⟨.str p.1,H,I,⟨_,rfl⟩,q⟩
  | [],q=>exact ⟨Nat.zero_le _,.str _,H,I.tok _,⟨_,rfl⟩,q⟩
  | p :: p2 :: l,q =>
   refine ⟨?_,.str _,H,I.tok _,⟨_,rfl⟩,q⟩
   refine uK ?_
   rw [size_glued,List.length_map]
   rw [List.length_map] at hl
   rw [Nat.sub_mul]
   omega
noncomputable def aKS:V->List V->Hp->VK->Prop:=fun x vs H Q=>∃ y c ss,x = .str y/\vs = [.str (Ty.one c)]/\y = glued (Ty.one c) ss/\ss ≠ []/\(∀ s ∈ ss,c ∉ Ty.cl s)/\c < 256/\y.length<=900000/\∀ p,H p = none->Q (.ref p) (upd H p (.lst (ss.map V.str)))
theorem aE7:MtM X "str.split" aKS:=by
 intro pins s σ H x vs v us Q I rx rv ⟨y,c,ss,e1,e2,hy,n0,hn,hc,hl,q⟩
 subst e1 e2
 obtain ⟨t,rfl⟩:=rx
 obtain ⟨u,rfl,ru⟩:=rv.one
 obtain ⟨t2,rfl⟩:=ru
 have sp:=Ty.split_eq hy n0 hn
 have lz:ss.length<=sizeLine:=by
  have:=Ty.parts_len y (occurrences y (Ty.one c) 0 y.length (y.length + 1)) (Ty.one c).length
  rw [sp] at this
  have h2:=PySem.StrLaws.occ_length_le y (Ty.one c) 0 y.length (y.length + 1)
  refine uK ?_
  omega
 have fin:∀ (its:List Value) (tk:Nat),cA (ss.map V.str) its->EP X pins σ Q (.ref s.heap.objs.size) { s with heap:=s.heap.push { cls:=.type "list",data:=.seq its.toArray },toks:=tk }:=fun its tk hv =>
  ⟨.ref _,_,I.lnew hv (by rw [List.length_map];exact lz),rfl,q _ I.fresh⟩
 by_cases ho:(occurrences y (Ty.one c) 0 y.length (y.length + 1)).isEmpty = true
 ·have e0:occurrences y (Ty.one c) 0 y.length (y.length + 1) = []:=List.isEmpty_iff.mp ho
  have es:ss = [y]:=by
   rw [e0] at sp
   rw [<- sp]
   show [strSub y 0 y.length] = [y]
   rw [show strSub y 0 y.length = y from Ty.ext (by rw [Ty.cl_sub,List.drop_zero,Nat.sub_zero,Ty.len_cl,List.take_length])]
  have fin1:=fin [.str y t] s.toks (by rw [es];exact .cons ⟨t,rfl⟩ .nil)
  by_cases h1:(decide (y.length < (Ty.one c).length) || decide (Builtin.Str.strKind y < Builtin.Str.strKind (Ty.one c))) = true
  ·exact call_meets PySem.F.slot_str_split (typeIs_str _ _ _) PySem.F.entry_str_split (PySem.F.args_str_split_2 _ _) (meets_str_split_cannot_occur y (Ty.one c) t t2 h1) fin1
  ·exact call_meets PySem.F.slot_str_split (typeIs_str _ _ _) PySem.F.entry_str_split (PySem.F.args_str_split_2 _ _) (meets_str_split_not_found y (Ty.one c) t t2 (by simpa using h1) rfl ho) fin1
 ·have ho':(occurrences y (Ty.one c) 0 y.length (y.length + 1)).isEmpty = false:=by simpa using ho
  have l1:1<=y.length:=by
   have h2:=Ty.occ_count y c
   have h3:(occurrences y (Ty.one c) 0 y.length (y.length + 1)).length ≠ 0:=fun z=>ho (by rw [List.length_eq_zero_iff.mp z];rfl)
   have h4:=List.count_le_length (a:=c) (l:=Ty.cl y)
   rw [Ty.len_cl]
   omega
  have kc:Builtin.Str.strKind (Ty.one c) = 1:=by
   unfold Builtin.Str.strKind
   rw [if_pos (by simpa using hc)]
  have ky:1<=Builtin.Str.strKind y:=by
   unfold Builtin.Str.strKind
   split
   ·exact Nat.le_refl _
   ·split<;>decide
  have h1:(decide (y.length < (Ty.one c).length) || decide (Builtin.Str.strKind y < Builtin.Str.strKind (Ty.one c))) = false:=by
   rw [kc,decide_eq_false (show ¬ y.length < (Ty.one c).length by show ¬ y.length < 1;omega),decide_eq_false (by omega)];rfl
  refine call_meets PySem.F.slot_str_split (typeIs_str _ _ _) PySem.F.entry_str_split (PySem.F.args_str_split_2 _ _) (meets_str_split_sep y (Ty.one c) t t2 h1 rfl ho' (uK (by omega)) (by rw [sp];exact lz)) ?_
  rw [sp]
  exact fin _ _ (aAq ss _)
noncomputable def aNi:V->List V->Hp->VK->Prop:=fun x vs H Q=>∃ y c,x = .str y/\vs = [.str (Ty.one c)]/\y.length<=900000 /\
 (
  (c ∉ Ty.cl y/\∀ p,H p = none->Q (.ref p) (upd H p (.tup [.str y,.str Str.empty,.str Str.empty]))) ∨
  (∃ a b:Str,Ty.cl y = Ty.cl a ++ c :: Ty.cl b/\c ∉ Ty.cl a/\∀ p,H p = none->Q (.ref p) (upd H p (.tup [.str a,.str (Ty.one c),.str b]))))
theorem aH6:MtM X "str.partition" aNi:=by
 intro pins s σ H x vs v us Q I rx rv ⟨y,c,e1,e2,hl,q⟩
 subst e1 e2
 obtain ⟨t,rfl⟩:=rx
 obtain ⟨u,rfl,ru⟩:=rv.one
 obtain ⟨t2,rfl⟩:=ru
 refine call_meets PySem.F.slot_str_partition (typeIs_str _ _ _) PySem.F.entry_str_partition (PySem.F.args_str_partition_2 _ _) (meets_str_partition y (Ty.one c) t t2 rfl (uK (by omega))) ?_
 rcases q with ⟨hc,q⟩ | ⟨a,b,hy,hc,q⟩
 ·rw [Ty.part_none hc]
  exact ⟨.ref _,_,I.laid (t':=s.toks + 1) (o:=.tup [.str y,.str Str.empty,.str Str.empty]) (fun b ob q=>Heap.get?_push_of_some _ q) (Nat.le_refl _) ⟨(show (3:Nat)<=sizeLine by decide),_,.cons ⟨_,rfl⟩ (.cons ⟨_,rfl⟩ (.cons ⟨_,rfl⟩ .nil)),IsTup.new _ _⟩,rfl,q _ I.fresh⟩
 ·rw [Ty.part_found hy hc]
  have ea:strSub y 0 (Ty.cl a).length = a:=Ty.ext (by rw [Ty.cl_sub,List.drop_zero,Nat.sub_zero,hy,List.take_left])
  have eb:strSub y ((Ty.cl a).length + (Ty.one c).length) y.length = b:=Ty.ext (by
   rw [Ty.cl_sub,hy,show (Ty.cl a).length + (Ty.one c).length = (Ty.cl a ++ [c]).length by rw [List.length_append];rfl,show Ty.cl a ++ c :: Ty.cl b = (Ty.cl a ++ [c]) ++ Ty.cl b by rw [List.append_assoc];rfl,List.drop_left]
   refine List.take_of_length_le ?_
   rw [Ty.len_cl,hy]
   rw [List.length_append,List.length_append,List.length_cons,List.length_cons,List.length_nil]
   omega)
  show EP X pins σ Q (.ref s.heap.objs.size) { s with toks:=s.toks + 1 + 1,heap:=s.heap.push { cls:=.type "tuple",data:=.seq [.str (strSub y 0 (Ty.cl a).length) s.toks,.str (Ty.one c) t2,.str (strSub y ((Ty.cl a).length + (Ty.one c).length) y.length) (s.toks + 1)].toArray } }
  rw [ea,eb]
  exact ⟨.ref _,_,I.laid (t':=s.toks + 1 + 1) (o:=.tup [.str a,.str (Ty.one c),.str b]) (fun b ob q=>Heap.get?_push_of_some _ q) (Nat.le_refl _) ⟨(show (3:Nat)<=sizeLine by decide),_,.cons ⟨_,rfl⟩ (.cons ⟨_,rfl⟩ (.cons ⟨_,rfl⟩ .nil)),IsTup.new _ _⟩,rfl,q _ I.fresh⟩
noncomputable def startB (x y:Str):Bool:=decide (0 + y.length<=x.length) && subAt x y 0
noncomputable def aLE:V->List V->Hp->VK->Prop:=fun x vs H Q=>∃ y z,x = .str y/\vs = [.str z]/\Q (.bl (startB y z)) H
theorem aHa:MtM X "str.startswith" aLE:=by
 intro pins s σ H x vs v us Q I rx rv ⟨y,z,e1,e2,q⟩
 subst e1 e2
 obtain ⟨t,rfl⟩:=rx
 obtain ⟨u,rfl,ru⟩:=rv.one
 obtain ⟨t2,rfl⟩:=ru
 exact call_gives PySem.F.slot_str_startswith (typeIs_str _ _ _) PySem.F.entry_str_startswith (PySem.F.args_str_startswith_2 _ _) (gives_str_startswith y z t t2) ⟨.bl _,H,I,rfl,q⟩
noncomputable def ascB (x:Str):Bool:=x.cps.all (· < 128)
noncomputable def digB (x:Str):Bool:=x.length > 0 && x.cps.all Unicode.isDigit
noncomputable def aOx:V->List V->Hp->VK->Prop:=fun x vs H Q=>∃ y,x = .str y/\vs = []/\Q (.bl (ascB y)) H
noncomputable def aOH:V->List V->Hp->VK->Prop:=fun x vs H Q=>∃ y,x = .str y/\vs = []/\Q (.bl (digB y)) H
theorem aKN:MtM X "str.isascii" aOx:=by
 intro pins s σ H x vs v us Q I rx rv ⟨y,e1,e2,q⟩
 subst e1 e2
 obtain ⟨t,rfl⟩:=rx
 obtain rfl:=rv.zero
 exact call_gives PySem.F.slot_str_isascii (typeIs_str _ _ _) PySem.F.entry_str_isascii (PySem.F.args_str_isascii_1 _) (gives_str_isascii y t) ⟨.bl _,H,I,rfl,q⟩
theorem aLI:MtM X "str.isdigit" aOH:=by
 intro pins s σ H x vs v us Q I rx rv ⟨y,e1,e2,q⟩
 subst e1 e2
 obtain ⟨t,rfl⟩:=rx
 obtain rfl:=rv.zero
 exact call_gives PySem.F.slot_str_isdigit (typeIs_str _ _ _) PySem.F.entry_str_isdigit (PySem.F.args_str_isdigit_1 _) (gives_str_isdigit y t) ⟨.bl _,H,I,rfl,q⟩
theorem aHU:SlR X fun x lo hi H Q=>∃ y i,x = .str y/\lo = some i/\hi = none/\y.length<=1000000/\Q (.str (Txt.slice y (some i) none)) H:=by
 intro pins s σ H x v vl vu lo hi sl Q I rx hs pl pu ⟨y,i,e1,e2,e3,hl,q⟩
 subst e1 e2 e3
 obtain ⟨t,rfl⟩:=rx
 cases pl with
 | int _ tl =>
  cases pu
  exact ⟨"str",_,PySem.F.slot_str_getitem.lookup,typeIs_str _ _ _,wpAny_getItem_str_slice (l:=some (i,tl)) (u:=none) (st:=none) hs rfl (post_val_or_str ⟨Nat.le_trans (Txt.slice_le y _ _) (uK hl),fun t' k=>⟨.str _,H,I.tok _,⟨_,rfl⟩,q⟩⟩)⟩
end
end Dd
namespace Dd
open PySem PySem.Spec PyProof.Rows L2 Mz
open PySem.Builtin.Str (glued)
section
variable {prog:Program} {w:World} {A:Around} {E:Value->Shared->Prop} {s:Shared}
theorem aCl (hh:A.handled = none) (I l:Addr) (hne:l ≠ I) (items:Array Value) (h1:1<=items.size) :
  Walks prog w A I [I,l] [I] (items.size - 1) (fun i v=>items[1 + i]? = some v) (fun i h=>h.IsListIter I l (1 + i)/\h.IsList l items) where
 sub:=fun b hb=>by simp at hb;simp [hb]
 frame:=fun _ _ _ x hk=>⟨x.1.at fun o e=>hk I (by simp) o e,x.2.at fun o e=>hk l (by simp) o e⟩
 item:=fun i s Q E hi x hQ=>by
  have hx:items[1 + i]? = some (items[1 + i]'(by omega)):=Array.getElem?_eq_getElem (by omega)
  refine wpAny_pyNext_list_item x.1 x.2 hx fun h' hit' hs'=>?_
  exact hQ _ h' s.toks hx ⟨hit',x.2.at fun o eo=>(hs'.2 l hne).trans eo⟩ fun b o hb eo=>hs'.extBut b o (fun h=>hb (by simp [h])) eo
 done:=fun s Q E x hQ=>by
  exact wpAny_pyNext_list_end hh x.1 x.2 (by rw [Array.getElem?_eq_none];omega) fun h' he'=>hQ h' s.toks fun b o hb eo=>he' b o (fun h=>hb (by simp [h])) eo
 self:=fun _ _ _ _ x hQ=>wpAny_pyIter_listiter x.1 hQ
theorem vZ {t:Addr} {v0:Value} {vs:List Value} {Q:List Value->Shared->Prop} (hh:A.handled = none) (ht:s.heap.IsList t (v0 :: vs).toArray) (hz:vs.length<=sizeLine)
  (hQ:∀ (h':Heap) (tk:Nat),(∀ b o,s.heap.get? b = some o->h'.get? b = some o)->Q [v0,.ref h'.objs.size] { s with heap:=h'.push { cls:=.type "list",data:=.seq vs.toArray },toks:=tk }):wpAny (model prog w) A (unpackItems (.ref t) 2 (some 1)) Q E s:=by
 have hlt:t ≠ s.heap.objs.size:=by obtain ⟨o,ho,_⟩:=ht;exact Nat.ne_of_lt (Heap.lt_size ho)
 unfold unpackItems
 refine wpAny_bind ?_
 ·unfold notIterableAtAll
  refine wpAny_bind (wpAny_specialOf ht.typeIs slot_list_iter.lookup ?_)
  refine wpAny_pure ?_
  simp only [Bool.false_eq_true,if_false]
  refine wpAny_bind (wpAny_holding (wpAny_pyIter_list ht ?_))
  refine wpAny_bind (wpAny_holding (vD hlt 1 0 _ _ ⟨_,Heap.get?_push_size _ rfl,rfl,rfl⟩ (kZ ht _) (by simp) fun h₁ hit₁ hs₁=>?_))
  have hall:List.take 1 (List.drop 0 (v0 :: vs).toArray.toList) = [v0]:=rfl
  rw [hall]
  rw [if_neg (by simp)]
  have ht₁:h₁.IsList t (v0 :: vs).toArray:=sD (kZ ht _) hs₁ hlt
  have W:=(aCl (prog:=prog) (w:=w) (A:=A.in1) hh s.heap.objs.size t hlt (v0 :: vs).toArray (by simp)).toS
  refine wpAny_bind (wpAny_holding (wpAny_collect_iter (T:="list_iterator") (.inr (.inr (.inl rfl))) W ?_ ?_ ?_ (by simp) ?_ ?_))
  ·intro i s' x
   exact x.1.typeIs
  ·exact ⟨hit₁,ht₁⟩
  ·intro b hb
   have le:s.heap.objs.size < h₁.objs.size:=Heap.lt_size hit₁.choose_spec.1
   rcases List.mem_cons.mp hb with rfl | hb
   ·exact le
   ·rw [List.mem_singleton.mp hb]
    exact Heap.lt_size ht₁.choose_spec.1
  ·intro s' acc mv it
   have ea:acc.toList = vs:=by
    refine List.ext_getElem? fun j=>?_
    have hs:=it.1
    by_cases hj:j < acc.size
    ·have e1:acc[j]? = some acc[j]:=Array.getElem?_eq_getElem hj
     have e2:=it.2 j _ e1
     rw [Array.getElem?_toList,e1,<- e2,List.getElem?_toArray,Nat.add_comm 1 j,List.getElem?_cons_succ]
    ·have hl:acc.size = vs.length:=by rw [hs];simp
     rw [List.getElem?_eq_none (by rw [Array.length_toList];omega),List.getElem?_eq_none (by omega)]
   rw [ea]
   rw [if_neg (by omega),show 2 - 1 - 1 = 0 from rfl,Nat.sub_zero,List.take_length,List.drop_length]
   refine wpAny_bind (wpAny_newList ?_ hz)
   refine wpAny_pure ?_
   have es:s' = { s with heap:=s'.heap,toks:=s'.toks }:=by
    obtain ⟨hp,gg,dd,tt,oo⟩:=s'
    have g1:=mv.gens
    have g2:=mv.drawn
    have g3:=mv.os
    dsimp only at g1 g2 g3
    subst g1 g2 g3
    rfl
   rw [es]
   refine hQ s'.heap s'.toks fun b o e=>?_
   have nb:b ≠ s.heap.objs.size:=Nat.ne_of_lt (Heap.lt_size e)
   exact mv.heap b o (by simp [nb]) (hs₁.extBut b o nb (Heap.get?_push_of_some _ e))
  ·simp;exact hz
end
section
variable {X:Cx} {pos:Pos} {e a b o e1 e2 e3:Expr} {es:List Expr} {te ta tb to t1 t2 t3:DE} {apos cpos:Pos}
noncomputable def aGm (t:DGs):DG:=fun d ρ M Q=>match d with
 | .ref a=>∃ d0 ds,M a = some (d0 :: ds)/\∀ p:Addr,M p = none->t [d0,.ref p] ρ (bC M p ds) Q
 | _=>False
theorem aHJ {k:Nat} {t:DGs} {ps:Pos} (hc:X.calm = true) (h:aBL X [e1,e2] t) (heq:(assignEach [e1,.Starred e2 ps] X.env).map (·.2) = (assignEach [e1,e2] X.env).map (·.2):=by rfl)
  (hn:(assignEach [e1,.Starred e2 ps] X.env).length = 2:=by rfl) (hst:(assignEach [e1,.Starred e2 ps] X.env).findIdx? (·.1) = some 1:=by rfl):PDG X (.Tuple [e1,.Starred e2 ps] k pos) (aGm t):=by
 intro pins s σ H v u Q I r ⟨d,ρ,M,Q',rd,re,hm,q,k'⟩
 match d,q with
 | .ref p,q =>
  obtain ⟨d0,ds,hp,q⟩:=q
  obtain rfl:=bD rd
  cases r
  obtain ⟨us,hu,ru⟩:=hm.l p _ hp
  obtain ⟨u0,us',rfl,ru0,ru'⟩:=aU ru
  obtain ⟨z,its,nn,rv,hlen,e1'⟩:=I.lstM hu
  obtain ⟨v0,vs,rfl,rv0,rvs⟩:∃ v0 vs,its = v0 :: vs/\cR u0 v0/\cA us' vs:=by cases rv with | cons r t=>exact ⟨_,_,rfl,r,t⟩
  rw [assign_Tuple]
  refine wpAny_bind (wpAny_standAt ?_)
  unfold unpack
  rw [hn,hst]
  have hz:us'.length<=sizeLine:=by rw [List.length_cons] at z;omega
  refine wpAny_bind (wpAny_holding (vZ (I.ok.hd hc) ⟨_,e1',rfl,_,rfl⟩ (by rw [<- rvs.length];exact hz) fun h' tk hk=>?_))
  rw [heq]
  have I1:Inv X pins σ H { s with heap:=h',toks:=tk }:=I.kept (t':=tk) fun b o e=>hk b o e
  have I2:=I1.lnew (t':=tk) rvs hz
  have hn1:=I1.fresh
  exact h pins _ σ _ [u0,.ref h'.objs.size] [v0,.ref h'.objs.size] Q I2 (.cons rv0 (.cons rfl .nil)) ⟨[d0,.ref h'.objs.size],ρ,bC M h'.objs.size ds,Q',bH (ru0.ext (Ext.new hn1 _)) (bH iO cP),re.ext (Ext.new hn1 _),hm.lnew hn1 ru',q _ (hm.fresh hn1),fun σ' H' ⟨ρ2,M2,r2,hm2,ex2,q2⟩=>k' σ' H' ⟨ρ2,M2,r2,hm2,(Ext.new hn1 _).trans ex2,q2⟩⟩
theorem aAn {K:PySem.W.Frag} {H:Hp}:∀ {ss:List Str} {us:List V},bY K H (ss.map D.str) us->us = ss.map V.str
 | [],us,r=>by rw [bS r];rfl
 | x :: ss,us,r=>by
  obtain ⟨v,r2,rfl,hv,hr⟩:=aU r
  obtain rfl:=bA hv
  rw [aAn hr];rfl
theorem aAt {K:PySem.W.Frag} {H:Hp}:∀ (ss:List Str),bY K H (ss.map D.str) (ss.map V.str)
 | []=>cP
 | x :: ss=>bH eR (aAt ss)
noncomputable def aJg (sep:Str) (Q:DQ) (ds:List D) (M2:DM):Prop:=match ds with
 | [.ref a]=>∃ ss:List Str,M2 a = some (ss.map D.str)/\(ss.map (·.length)).sum + ss.length * sep.length<=1000000/\Q (.str (glued sep ss)) M2
 | _=>False
noncomputable def aGU (to te:DE):DE:=fun ρ M Q=>to ρ M fun x M1=>match x with
 | .str sep=>jS te oF ρ M1 (aJg sep Q)
 | _=>False
theorem aHx (ho:PDE X o to) (he:PDE X e te) (hse:starEach [e] X.env = (false,eval e X.env) :: starEach [] X.env:=by rfl)
  (hbase:attributeBase o "join" X.env (eval o X.env) = eval o X.env:=by rfl)
  (hfew:((backTo cpos (starEach [e] X.env)).all (fun x=>!x.1) && (backToKw cpos (keywordEach [] X.env)).all (fun x=>x.1.isSome)
   && decide ([e].length + ([]:List Keyword).length + (if ([]:List Keyword).isEmpty then 0 else 1) < 30)) = true:=by rfl)
  (hline:(apos.endLine == cpos.line) = true:=by rfl) (hplain:(backTo cpos (starEach [] X.env)).any (·.1) = false:=by rfl) :
  PDE X (.Call (.Attribute o "join" apos) [e] [] cpos) (aGU to te) :=
 cJ (aCA PySem.F.plainAttrs_str PySem.F.slot_str_join PySem.F.type_str_join aH1 ho (kS he oI hse) hbase hfew hline hse hplain) fun σ H Q ⟨ρ,M,Q',re,hm,q,k⟩=>⟨ρ,M,_,re,hm,q,fun v H1 ⟨d,M1,rd,hm1,e1,q1⟩=>by
  match d,q1 with
  | .str sep,q1 =>
   obtain rfl:=bA rd
   refine ⟨rfl,ρ,M1,_,re.ext e1,hm1,q1,fun vs H2 ⟨dvs,M2,rs,hm2,e2,q2⟩=>?_⟩
   match dvs,q2 with
   | [.ref a],q2 =>
    obtain ⟨ss,ha,hl,q2⟩:=q2
    obtain ⟨w,rfl,rw'⟩:=eV rs
    obtain rfl:=bD rw'
    obtain ⟨us,hu,ru⟩:=hm2.l a _ ha
    obtain rfl:=aAn ru
    exact ⟨sep,a,ss,rfl,rfl,hu,hl,k _ _ ⟨_,M2,eR,hm2,e1.trans e2,q2⟩⟩⟩
noncomputable def aFt (y:Str) (Q:DQ) (ds:List D) (M2:DM):Prop:=match ds with
 | [.str z]=>∃ c ss,z = Ty.one c/\y = glued (Ty.one c) ss/\ss ≠ []/\(∀ s ∈ ss,c ∉ Ty.cl s)/\c < 256/\y.length<=900000/\∀ p:Addr,M2 p = none->Q (.ref p) (bC M2 p (ss.map D.str))
 | _=>False
noncomputable def aDj (to te:DE):DE:=fun ρ M Q=>to ρ M fun x M1=>match x with
 | .str y=>jS te oF ρ M1 (aFt y Q)
 | _=>False
theorem aGM (ho:PDE X o to) (he:PDE X e te) (hse:starEach [e] X.env = (false,eval e X.env) :: starEach [] X.env:=by rfl)
  (hbase:attributeBase o "split" X.env (eval o X.env) = eval o X.env:=by rfl)
  (hfew:((backTo cpos (starEach [e] X.env)).all (fun x=>!x.1) && (backToKw cpos (keywordEach [] X.env)).all (fun x=>x.1.isSome)
   && decide ([e].length + ([]:List Keyword).length + (if ([]:List Keyword).isEmpty then 0 else 1) < 30)) = true:=by rfl)
  (hline:(apos.endLine == cpos.line) = true:=by rfl) (hplain:(backTo cpos (starEach [] X.env)).any (·.1) = false:=by rfl) :
  PDE X (.Call (.Attribute o "split" apos) [e] [] cpos) (aDj to te) :=
 cJ (aCA PySem.F.plainAttrs_str PySem.F.slot_str_split PySem.F.type_str_split aE7 ho (kS he oI hse) hbase hfew hline hse hplain) fun σ H Q ⟨ρ,M,Q',re,hm,q,k⟩=>⟨ρ,M,_,re,hm,q,fun v H1 ⟨d,M1,rd,hm1,e1,q1⟩=>by
  match d,q1 with
  | .str y,q1 =>
   obtain rfl:=bA rd
   refine ⟨rfl,ρ,M1,_,re.ext e1,hm1,q1,fun vs H2 ⟨dvs,M2,rs,hm2,e2,q2⟩=>?_⟩
   match dvs,q2 with
   | [.str z],q2 =>
    obtain ⟨c,ss,ez,ey,n0,hn,hc,hl,q2⟩:=q2
    obtain ⟨w,rfl,rw'⟩:=eV rs
    obtain rfl:=bA rw'
    exact ⟨y,c,ss,rfl,by rw [ez],ey,n0,hn,hc,hl,fun p hp=>k _ _ ⟨.ref p,_,iO,hm2.lnew hp (aAt ss),(e1.trans e2).trans (Ext.new hp _),q2 p (hm2.fresh hp)⟩⟩⟩
noncomputable def aI8 (y:Str) (Q:DQ) (ds:List D) (M2:DM):Prop:=match ds with
 | [.str z]=>∃ c,z = Ty.one c/\y.length<=900000/\((c ∉ Ty.cl y/\Q (.tup [.str y,.str Str.empty,.str Str.empty]) M2) ∨ (∃ a b:Str,Ty.cl y = Ty.cl a ++ c :: Ty.cl b/\c ∉ Ty.cl a/\Q (.tup [.str a,.str (Ty.one c),.str b]) M2))
 | _=>False
noncomputable def aFC (to te:DE):DE:=fun ρ M Q=>to ρ M fun x M1=>match x with
 | .str y=>jS te oF ρ M1 (aI8 y Q)
 | _=>False
theorem aHQ (ho:PDE X o to) (he:PDE X e te) (hse:starEach [e] X.env = (false,eval e X.env) :: starEach [] X.env:=by rfl)
  (hbase:attributeBase o "partition" X.env (eval o X.env) = eval o X.env:=by rfl)
  (hfew:((backTo cpos (starEach [e] X.env)).all (fun x=>!x.1) && (backToKw cpos (keywordEach [] X.env)).all (fun x=>x.1.isSome)
   && decide ([e].length + ([]:List Keyword).length + (if ([]:List Keyword).isEmpty then 0 else 1) < 30)) = true:=by rfl)
  (hline:(apos.endLine == cpos.line) = true:=by rfl) (hplain:(backTo cpos (starEach [] X.env)).any (·.1) = false:=by rfl) :
  PDE X (.Call (.Attribute o "partition" apos) [e] [] cpos) (aFC to te) :=
 cJ (aCA PySem.F.plainAttrs_str PySem.F.slot_str_partition PySem.F.type_str_partition aH6 ho (kS he oI hse) hbase hfew hline hse hplain) fun σ H Q ⟨ρ,M,Q',re,hm,q,k⟩=>⟨ρ,M,_,re,hm,q,fun v H1 ⟨d,M1,rd,hm1,e1,q1⟩=>by
  match d,q1 with
  | .str y,q1 =>
   obtain rfl:=bA rd
   refine ⟨rfl,ρ,M1,_,re.ext e1,hm1,q1,fun vs H2 ⟨dvs,M2,rs,hm2,e2,q2⟩=>?_⟩
   match dvs,q2 with
   | [.str z],q2 =>
    obtain ⟨c,ez,hl,q2⟩:=q2
    obtain ⟨w,rfl,rw'⟩:=eV rs
    obtain rfl:=bA rw'
    refine ⟨y,c,rfl,by rw [ez],hl,?_⟩
    rcases q2 with ⟨hc,q2⟩ | ⟨a,b,hy,hc,q2⟩
    ·exact .inl ⟨hc,fun p hp=>k _ _ ⟨.tup _,M2,cG (.of dE) (bH eR (bH eR (bH eR cP))),hm2.new hp _,(e1.trans e2).trans (Ext.new hp _),q2⟩⟩
    ·exact .inr ⟨a,b,hy,hc,fun p hp=>k _ _ ⟨.tup _,M2,cG (.of dE) (bH eR (bH eR (bH eR cP))),hm2.new hp _,(e1.trans e2).trans (Ext.new hp _),q2⟩⟩⟩
noncomputable def aGF (y:Str) (Q:DQ) (ds:List D) (M2:DM):Prop:=match ds with
 | [.str z]=>Q (.bl (startB y z)) M2
 | _=>False
noncomputable def aCS (to te:DE):DE:=fun ρ M Q=>to ρ M fun x M1=>match x with
 | .str y=>jS te oF ρ M1 (aGF y Q)
 | _=>False
theorem aFG (ho:PDE X o to) (he:PDE X e te) (hse:starEach [e] X.env = (false,eval e X.env) :: starEach [] X.env:=by rfl)
  (hbase:attributeBase o "startswith" X.env (eval o X.env) = eval o X.env:=by rfl)
  (hfew:((backTo cpos (starEach [e] X.env)).all (fun x=>!x.1) && (backToKw cpos (keywordEach [] X.env)).all (fun x=>x.1.isSome)
   && decide ([e].length + ([]:List Keyword).length + (if ([]:List Keyword).isEmpty then 0 else 1) < 30)) = true:=by rfl)
  (hline:(apos.endLine == cpos.line) = true:=by rfl) (hplain:(backTo cpos (starEach [] X.env)).any (·.1) = false:=by rfl) :
  PDE X (.Call (.Attribute o "startswith" apos) [e] [] cpos) (aCS to te) :=
 cJ (aCA PySem.F.plainAttrs_str PySem.F.slot_str_startswith PySem.F.type_str_startswith aHa ho (kS he oI hse) hbase hfew hline hse hplain) fun σ H Q ⟨ρ,M,Q',re,hm,q,k⟩=>⟨ρ,M,_,re,hm,q,fun v H1 ⟨d,M1,rd,hm1,e1,q1⟩=>by
  match d,q1 with
  | .str y,q1 =>
   obtain rfl:=bA rd
   refine ⟨rfl,ρ,M1,_,re.ext e1,hm1,q1,fun vs H2 ⟨dvs,M2,rs,hm2,e2,q2⟩=>?_⟩
   match dvs,q2 with
   | [.str z],q2 =>
    obtain ⟨w,rfl,rw'⟩:=eV rs
    obtain rfl:=bA rw'
    exact ⟨y,z,rfl,rfl,k _ _ ⟨_,M2,dL,hm2,e1.trans e2,q2⟩⟩⟩
noncomputable def aKC (to:DE):DE:=fun ρ M Q=>to ρ M fun x M1=>match x with
 | .str y=>Q (.bl (ascB y)) M1
 | _=>False
noncomputable def aLs (to:DE):DE:=fun ρ M Q=>to ρ M fun x M1=>match x with
 | .str y=>Q (.bl (digB y)) M1
 | _=>False
theorem aL5 (ho:PDE X o to) (hbase:attributeBase o "isascii" X.env (eval o X.env) = eval o X.env:=by rfl) (hline:(apos.endLine == cpos.line) = true:=by rfl) :
  PDE X (.Call (.Attribute o "isascii" apos) [] [] cpos) (aKC to) :=
 cJ (aDt PySem.F.plainAttrs_str PySem.F.slot_str_isascii PySem.F.type_str_isascii aKN ho hbase hline) fun σ H Q ⟨ρ,M,Q',re,hm,q,k⟩=>⟨ρ,M,_,re,hm,q,fun v H1 ⟨d,M1,rd,hm1,e1,q1⟩=>by
  match d,q1 with
  | .str y,q1 =>
   obtain rfl:=bA rd
   exact ⟨rfl,y,rfl,rfl,k _ _ ⟨_,M1,dL,hm1,e1,q1⟩⟩⟩
theorem aK7 (ho:PDE X o to) (hbase:attributeBase o "isdigit" X.env (eval o X.env) = eval o X.env:=by rfl) (hline:(apos.endLine == cpos.line) = true:=by rfl) :
  PDE X (.Call (.Attribute o "isdigit" apos) [] [] cpos) (aLs to) :=
 cJ (aDt PySem.F.plainAttrs_str PySem.F.slot_str_isdigit PySem.F.type_str_isdigit aLI ho hbase hline) fun σ H Q ⟨ρ,M,Q',re,hm,q,k⟩=>⟨ρ,M,_,re,hm,q,fun v H1 ⟨d,M1,rd,hm1,e1,q1⟩=>by
  match d,q1 with
  | .str y,q1 =>
   obtain rfl:=bA rd
   exact ⟨rfl,y,rfl,rfl,k _ _ ⟨_,M1,dL,hm1,e1,q1⟩⟩⟩
end
end Dd
namespace Dd
open PySem PySem.Spec PyProof.Rows L2 Mz
section
variable {X:Cx} {pos p0 p1 p2 p3 p4:Pos} {e e1 e2:Expr} {te t1 t2:DE} {lo hi:Option Expr} {tl th:DO} {c:Str}
noncomputable def aI2 (x:D) (lo hi:Option Int) (M:DM) (Q:DQ):Prop:=match x,lo,hi with
 | .str y,some i,none=>y.length<=1000000/\Q (.str (Txt.slice y (some i) none)) M
 | _,_,_=>False
noncomputable def aLU (te:DE) (tl th:DO):DE:=fun ρ M Q=>te ρ M fun x M1=>tl ρ M1 fun l M2=>th ρ M2 fun h M3=>aI2 x l h M3 Q
theorem aEx (he:PDE X e te) (hl:PO X lo (yK X.K tl)) (hu:PO X hi (yK X.K th)):PDE X (.Subscript e (.Slice lo hi none p2) pos) (aLU te tl th) :=
 cJ (xA aHU he hl hu) fun σ H Q ⟨ρ,M,Q',re,hm,q,k⟩=>⟨ρ,M,_,re,hm,q,fun v H1 ⟨d,M1,rd,hm1,e1,q1⟩=>⟨ρ,M1,_,re.ext e1,hm1,q1,fun l H2 ⟨M2,hm2,e2,q2⟩=>⟨ρ,M2,_,(re.ext e1).ext e2,hm2,q2,fun h H3 ⟨M3,hm3,e3,q3⟩=>by
  match d,l,h,q3 with
  | .str y,some i,none,q3 =>
   obtain rfl:=bA rd
   exact ⟨y,i,rfl,rfl,rfl,q3.1,k _ _ ⟨.str _,M3,eR,hm3,(e1.trans e2).trans e3,q3.2⟩⟩⟩⟩⟩
noncomputable def aJ5 (te:DE):DE:=fun ρ M Q=>te ρ M fun x M1=>match x with
 | .int i=>i.natAbs.log2 < 1920/\Q (.str (toString i)) M1
 | _=>False
theorem aKW (he:PDE X e te):PDE X (.JoinedStr [.FormattedValue e (-1) none p1] pos) (aJ5 te):=by
 intro pins s σ H Q I ⟨ρ,M,Q',re,hm,q,k⟩
 refine JoinedStr_one (FormattedValue_plain (thn (he pins s σ H (LQ X.K H _) I ⟨ρ,M,_,re,hm,q,fun _ _ z=>z⟩) fun u s1 ⟨y,H1,I1,ry,d,M1,rd,hm1,ex,q1⟩=>?_))
 match d,q1 with
 | .int i,q1 =>
  obtain rfl:=aS rd
  obtain ⟨t,rfl⟩:=ry
  exact formatField_int_small q1.1 ⟨.str _,H1,I1.tok _,⟨_,rfl⟩,k _ _ ⟨.str _,M1,eR,hm1,ex,q1.2⟩⟩
noncomputable def aKq (c:Str) (te:DE):DE:=fun ρ M Q=>te ρ M fun x M1=>match x with
 | .int i=>i.natAbs.log2 < 1920/\(c ++ Str.ofString (toString i)).length<=1000000/\Q (.str (c ++ Str.ofString (toString i))) M1
 | _=>False
theorem aLl {j} (he:PDE X e te) (hc:c.length<=1000000:=by decide):PDE X (.JoinedStr [.Constant (.str c) j p0,.FormattedValue e (-1) none p1] pos) (aKq c te):=by
 intro pins s σ H Q I ⟨ρ,M,Q',re,hm,q,k⟩
 refine JoinedStr_many (joinParts_cons (Calls.Constant_str ⟨?_,?_⟩))
 ·rw [Str.empty_append];exact uK hc
 rw [Str.empty_append]
 refine joinParts_cons (FormattedValue_plain (thn (he pins _ σ H (LQ X.K H _) (I.tok _) ⟨ρ,M,_,re,hm,q,fun _ _ z=>z⟩) fun u s1 ⟨y,H1,I1,ry,d,M1,rd,hm1,ex,q1⟩=>?_))
 match d,q1 with
 | .int i,q1 =>
  obtain rfl:=aS rd
  obtain ⟨t,rfl⟩:=ry
  exact formatField_int_small q1.1 ⟨uK q1.2.1,joinParts_nil ⟨.str _,H1,I1.tok _,⟨_,rfl⟩,k _ _ ⟨.str _,M1,eR,hm1,ex,q1.2.2⟩⟩ (uK q1.2.1)⟩
noncomputable def aK3 (c:Str) (t1 t2:DE):DE:=fun ρ M Q=>t1 ρ M fun x M1=>match x with
 | .int i=>i.natAbs.log2 < 1920/\(Str.ofString (toString i) ++ c).length<=1000000/\t2 ρ M1 fun y M2=>match y with
  | .int n=>n.natAbs.log2 < 1920/\(Str.ofString (toString i) ++ c ++ Str.ofString (toString n)).length<=1000000/\Q (.str (Str.ofString (toString i) ++ c ++ Str.ofString (toString n))) M2
  | _=>False
 | _=>False
theorem aL1 {j} (h1:PDE X e1 t1) (h2:PDE X e2 t2):PDE X (.JoinedStr [.FormattedValue e1 (-1) none p1,.Constant (.str c) j p0,.FormattedValue e2 (-1) none p2] pos) (aK3 c t1 t2):=by
 intro pins s σ H Q I ⟨ρ,M,Q',re,hm,q,k⟩
 refine JoinedStr_many (joinParts_cons (FormattedValue_plain (thn (h1 pins s σ H (LQ X.K H _) I ⟨ρ,M,_,re,hm,q,fun _ _ z=>z⟩) fun u s1 ⟨y,H1,I1,ry,d,M1,rd,hm1,ex,q1⟩=>?_)))
 match d,q1 with
 | .int i,q1 =>
  obtain rfl:=aS rd
  obtain ⟨t,rfl⟩:=ry
  obtain ⟨l1,l2,q1⟩:=q1
  refine formatField_int_small l1 ⟨by rw [Str.empty_append];exact int_text_fits l1,?_⟩
  rw [Str.empty_append]
  refine joinParts_cons (Calls.Constant_str ⟨uK l2,?_⟩)
  refine joinParts_cons (FormattedValue_plain (thn (h2 pins _ σ H1 (LQ X.K H1 _) ((I1.tok _).tok _) ⟨ρ,M1,_,re.ext ex,hm1,q1,fun _ _ z=>z⟩) fun u2 s2 ⟨y2,H2,I2,ry2,d2,M2,rd2,hm2,ex2,q2⟩=>?_))
  match d2,q2 with
  | .int n,q2 =>
   obtain rfl:=aS rd2
   obtain ⟨t2,rfl⟩:=ry2
   exact formatField_int_small q2.1 ⟨uK q2.2.1,joinParts_nil ⟨.str _,H2,I2.tok _,⟨_,rfl⟩,k _ _ ⟨.str _,M2,eR,hm2,ex.trans ex2,q2.2.2⟩⟩ (uK q2.2.1)⟩
noncomputable def aD9:Value->Bool
 | .none=>true
 | _=>false
noncomputable def xW:D->Bool
 | .non=>true
 | _=>false
noncomputable def aNo (g:Bool->Bool):D2:=fun x y M Q=>match x,y with
 | .non,.ref a=>∃ ds,M a = some ds/\ds.all (bM 60) = true/\Q (.bl (g (ds.any xW))) M
 | _,_=>False
theorem aDd {H:Hp} {d:D} {w:V} {y:Value} (h:Rep X.K H d w) (r:cR w y) (p:bM 60 d = true):aD9 y = xW d/\eqD d .non = xW d:=by
 cases d with
 | non=>rw [cY h] at r;cases (show y = Value.none from r);exact ⟨rfl,rfl⟩
 | bl b=>rw [cB h] at r;cases (show y = Value.bool b from r);exact ⟨rfl,rfl⟩
 | int i=>rw [aS h] at r;obtain ⟨t,rfl⟩:=r;exact ⟨rfl,rfl⟩
 | str i=>rw [bA h] at r;obtain ⟨t,rfl⟩:=r;exact ⟨rfl,rfl⟩
 | tup xs=>obtain ⟨a,us,rfl,sq,ru⟩:=cH h;cases r;exact ⟨rfl,rfl⟩
 | fz xs=>cases p
 | ref a=>cases p
theorem aDL {H:Hp}:∀ {ds:List D} {us:List V} {its:List Value},ds.all (bM 60) = true->bY X.K H ds us->cA us its->its.any aD9 = ds.any xW
 | [],us,its,_,r,rv=>by rw [bS r] at rv;cases rv;rfl
 | d :: ds,us,its,p,r,rv=>by
  obtain ⟨w,rr,rfl,hw,hr⟩:=aU r
  rw [List.all_cons,Bool.and_eq_true] at p
  cases rv with
  | cons q ws=>rw [List.any_cons,List.any_cons,(aDd hw q p.1).1,aDL p.2 hr ws]
theorem aDI {H:Hp} {pins:List (Addr × Obj)} {σ:L2.St} {s:Shared} (I:Inv X pins σ H s) {A:Around} (hu:A.units + 60 < cLine):∀ {ds:List D} {us:List V} {its:List Value},ds.all (bM 60) = true->bY X.K H ds us->cA us its->∀ y ∈ its,SeqAt.EqAt A s y .none (aD9 y)
 | [],us,its,_,r,rv,y,hy=>by rw [bS r] at rv;cases rv;exact nomatch hy
 | d :: ds,us,its,p,r,rv,y,hy=>by
  obtain ⟨w,rr,rfl,hw,hr⟩:=aU r
  rw [List.all_cons,Bool.and_eq_true] at p
  cases rv with
  | cons q ws =>
   rcases List.mem_cons.mp hy with rfl | hy
   ·have:=aGu I 60 hu (d:=d) (d':=.non) p.1 rfl hw tS q rfl
    rw [(aDd hw q p.1).2] at this
    rw [(aDd hw q p.1).1];exact this
   ·exact aDI I hu p.2 hr ws y hy
theorem aEI {k:Nat} (hr:eP k X.A):OpD X (compareOp .NotIn) (aNo not):=fun pins s σ H x y v u Q I rx ry ⟨dx,dy,M,Q',r1,r2,hm,q,k⟩=>by
 match dx,dy,q with
 | .non,.ref a,q =>
  obtain ⟨ds,ha,hp,q⟩:=q
  obtain rfl:=cY r1
  cases (show v = Value.none from rx)
  obtain rfl:=bD r2
  cases ry
  obtain ⟨us,hu,ru⟩:=hm.l a _ ha
  obtain ⟨zz,its,nn,rv,hlen,e1⟩:=I.lstM hu
  have un:=hr.un
  refine SeqAt.notIn_listAt aD9 ⟨_,e1,rfl,_,rfl⟩ (fun y hy=>aDI I (by show X.A.units + 1 + 60 < cLine;omega) hp ru rv y (by simpa using hy)) ?_
  rw [<- Array.any_toList,aDL hp ru rv]
  exact ⟨.bl _,H,I,rfl,k _ H ⟨_,M,dL,hm,.refl H,q⟩⟩
noncomputable def aKO (K:PySem.W.Frag) (T1 T2:String) (te:DE):DE:=fun ρ M Q=>te ρ M fun d M1=>∃ T k,tyD d = some T/\PySem.W.kitAny K (.type T) [.type T1,.type T2] = some k/\Q (.bl k) M1
theorem aKm {H:Hp} {s:Shared} {pins:List (Addr × Obj)} {σ:L2.St} {A:Around} {E:Value->Shared->Prop} {Q:Value->Shared->Prop} {its:List Value} {tp:Addr} {dd:Option Addr} {n:Nat} {sl:Array (Option Value)} {d:D} {v:V} {u:Value} {T:String} {k:Bool} (I:Inv X pins σ H s) (htp:s.heap.get? tp = some ⟨.type "tuple",dd,.seq its.toArray n,sl⟩) (rd:Rep X.K H d v) (rv:cR v u) (ty:tyD d = some T)
  (e:PySem.W.kitAny X.K (.type T) its = some k) (h:∀ tk,Q (.bool k) { s with toks:=tk }):wpAny (model X.prog X.w) A (call (.builtin "isinstance") [u,.ref tp]) Q E s:=by
 cases d with
 | non=>cases ty;rw [cY rd] at rv;cases (show u = Value.none from rv);exact PySem.W.kia_tup PySem.W.kitx_none I.kIn True.intro htp e (fun z=>nomatch z) h
 | bl b=>cases ty;rw [cB rd] at rv;cases (show u = Value.bool b from rv);exact PySem.W.kia_tup PySem.W.kitx_bool I.kIn True.intro htp e (fun z=>nomatch z) h
 | int b=>cases ty;rw [aS rd] at rv;obtain ⟨t,rfl⟩:=rv;exact PySem.W.kia_tup PySem.W.kitx_int I.kIn True.intro htp e (fun z=>nomatch z) h
 | str b=>cases ty;rw [bA rd] at rv;obtain ⟨t,rfl⟩:=rv;exact PySem.W.kia_tup PySem.W.kitx_str I.kIn True.intro htp e (fun z=>nomatch z) h
 | ref b=>cases ty
 | tup b =>
  cases ty
  obtain ⟨a,us,rfl,sq,ru⟩:=cH rd
  cases rv
  obtain ⟨o,h1,h2⟩:=tyT (K:=X.K) I sq
  exact PySem.W.kia_tup PySem.W.kitx_tuple I.kIn ⟨o,h1,h2⟩ htp e (fun z=>nomatch z) h
 | fz b =>
  cases ty
  obtain ⟨a,us,rfl,sq,ru⟩:=lS rd
  cases rv
  obtain ⟨z,its,n,r,e1⟩:=aC7 I sq
  exact PySem.W.kia_tup PySem.W.kitx_list I.kIn ⟨_,e1,rfl⟩ htp e (fun z=>nomatch z) h
theorem aFb {T1 T2:String} {x1 x2:Str} {p:Pos} {kt:Nat} (he:PDE X e te) (hm:X.mg "isinstance" = none) (hm1:X.mg x1 = none) (hm2:X.mg x2 = none) (hv1:bootBuiltins x1 = some (.type T1):=by rfl) (hv2:bootBuiltins x2 = some (.type T2):=by rfl) (hg:Gl X "isinstance":=by rfl) (hg1:Gl X x1:=by rfl) (hg2:Gl X x2:=by rfl) (hn1:x1 ≠ "__name__":=by decide) (hn2:x2 ≠ "__name__":=by decide) (hd1:(x1 == ("__debug__":Str)) = false:=by decide) (hd2:(x2 == ("__debug__":Str)) = false:=by decide)
  (hse:starEach [e,.Tuple [.Name x1 p1,.Name x2 p2] kt p3] X.env = (false,eval e X.env) :: starEach [.Tuple [.Name x1 p1,.Name x2 p2] kt p3] X.env:=by rfl) (hse2:starEach [.Tuple [.Name x1 p1,.Name x2 p2] kt p3] X.env = (false,eval (.Tuple [.Name x1 p1,.Name x2 p2] kt p3) X.env) :: starEach [] X.env:=by rfl)
  (hs1:starEach [.Name x1 p1,.Name x2 p2] X.env = (false,eval (.Name x1 p1) X.env) :: starEach [.Name x2 p2] X.env:=by rfl) (hs2:starEach [.Name x2 p2] X.env = (false,eval (.Name x2 p2) X.env) :: starEach [] X.env:=by rfl)
  (hpl:(backTo pos (starEach [.Tuple [.Name x1 p1,.Name x2 p2] kt p3] X.env)).any (·.1) = false:=by rfl) :
  PDE X (.Call (.Name "isinstance" p) [e,.Tuple [.Name x1 p1,.Name x2 p2] kt p3] [] pos) (aKO X.K T1 T2 te):=by
 have hc:lA X (.builtin "isinstance") fun vs H Q=>∃ d M Q' v tp,vs = [v,.ref tp]/\H tp = some (.tup [.ty T1,.ty T2])/\Rep X.K H d v/\cO X.K M H/\(∃ T' k,tyD d = some T'/\PySem.W.kitAny X.K (.type T') [.type T1,.type T2] = some k/\Q' (.bl k) M)/\∀ v H',LQ X.K H Q' v H'->Q v H':=by
  intro pins s σ H xs us Q I rs ⟨d,M,Q',v,tp,e1,htp,rd,hm,⟨T',b,ty,e2,q⟩,k⟩
  subst e1
  obtain ⟨u1,u2,rfl,rv,rt⟩:=rs.two
  cases rt
  obtain ⟨_,its,r,⟨ot,h1,h2,nn,h3⟩⟩:=(show fH X.prog X.w H s.heap tp (.tup [.ty T1,.ty T2]) from I.hok tp _ htp)
  obtain ⟨w1,w2,rfl,r1,r2⟩:=r.two
  obtain rfl:w1 = Value.type T1:=r1
  obtain rfl:w2 = Value.type T2:=r2
  obtain ⟨oc,od,oda,osl⟩:=ot
  dsimp only at h2 h3
  subst h2 h3
  exact aKm I h1 rd rv ty e2 fun tk=>⟨.bl b,H,I.tok tk,rfl,k _ H ⟨_,M,dL,hm,.refl H,q⟩⟩
 refine cJ (zE hc hg hm rfl (mY he (mY (aFI (mY (aBI (v:=.ty T1) hg1 hm1 hv1 rfl hn1 hd1) (mY (aBI (v:=.ty T2) hg2 hm2 hv2 rfl hn2 hd2) aBH hs2) hs1)) aBH hse2) hse) (by decide) (by decide) hse hpl) fun σ H Q ⟨ρ,M,Q',re,hm,q,k⟩=>?_
 refine ⟨ρ,M,_,re,hm,q,fun v H1 ⟨d,M1,rd,hm1,e1,q1⟩=>⟨(show (2:Nat)<=sizeLine by decide),fun p hp=>?_⟩⟩
 obtain ⟨T,b,ty,e2,q1⟩:=q1
 exact ⟨d,M1,Q',v,p,rfl,dE,rd.ext (Ext.new hp _),hm1.new hp _,⟨T,b,ty,e2,q1⟩,fun v H' ⟨d',M',r',hm',ex',q'⟩=>k v H' ⟨d',M',r',hm',(e1.trans (Ext.new hp _)).trans ex',q'⟩⟩
end
end Dd
namespace Dd
open PySem PySem.Spec PyProof.Rows L2
section
variable {prog:Program} {w:World} {A:Around} {E:Value->Shared->Prop} {s:Shared}
end
section
variable {X:Cx} {pos:Pos} {e a b o e1 e2 e3:Expr} {es:List Expr} {te ta tb to t1 t2 t3:DE} {apos cpos:Pos}
theorem aFN {k:Nat} {t:DGs} {ps:Pos} (hc:X.calm = true) (h:ZGs X [e1,e2] t) (heq:(assignEach [e1,.Starred e2 ps] X.env).map (·.2) = (assignEach [e1,e2] X.env).map (·.2):=by rfl) (hn:(assignEach [e1,.Starred e2 ps] X.env).length = 2:=by rfl) (hst:(assignEach [e1,.Starred e2 ps] X.env).findIdx? (·.1) = some 1:=by rfl):ZG X (.Tuple [e1,.Starred e2 ps] k pos) (aGm t):=.i (aHJ hc h.o heq hn hst)
theorem sN (ho:ZE X o to) (he:ZE X e te) (hse:starEach [e] X.env = (false,eval e X.env) :: starEach [] X.env:=by rfl) (hbase:attributeBase o "join" X.env (eval o X.env) = eval o X.env:=by rfl) (hfew:((backTo cpos (starEach [e] X.env)).all (fun x=>!x.1) && (backToKw cpos (keywordEach [] X.env)).all (fun x=>x.1.isSome)
   && decide ([e].length + ([]:List Keyword).length + (if ([]:List Keyword).isEmpty then 0 else 1) < 30)) = true:=by rfl) (hline:(apos.endLine == cpos.line) = true:=by rfl) (hplain:(backTo cpos (starEach [] X.env)).any (·.1) = false:=by rfl):ZE X (.Call (.Attribute o "join" apos) [e] [] cpos) (aGU to te):=.i (aHx ho.o he.o hse hbase hfew hline hplain)
theorem aAo (ho:ZE X o to) (he:ZE X e te) (hse:starEach [e] X.env = (false,eval e X.env) :: starEach [] X.env:=by rfl) (hbase:attributeBase o "split" X.env (eval o X.env) = eval o X.env:=by rfl) (hfew:((backTo cpos (starEach [e] X.env)).all (fun x=>!x.1) && (backToKw cpos (keywordEach [] X.env)).all (fun x=>x.1.isSome)
   && decide ([e].length + ([]:List Keyword).length + (if ([]:List Keyword).isEmpty then 0 else 1) < 30)) = true:=by rfl) (hline:(apos.endLine == cpos.line) = true:=by rfl) (hplain:(backTo cpos (starEach [] X.env)).any (·.1) = false:=by rfl):ZE X (.Call (.Attribute o "split" apos) [e] [] cpos) (aDj to te):=.i (aGM ho.o he.o hse hbase hfew hline hplain)
theorem aGn (ho:ZE X o to) (he:ZE X e te) (hse:starEach [e] X.env = (false,eval e X.env) :: starEach [] X.env:=by rfl) (hbase:attributeBase o "partition" X.env (eval o X.env) = eval o X.env:=by rfl) (hfew:((backTo cpos (starEach [e] X.env)).all (fun x=>!x.1) && (backToKw cpos (keywordEach [] X.env)).all (fun x=>x.1.isSome)
   && decide ([e].length + ([]:List Keyword).length + (if ([]:List Keyword).isEmpty then 0 else 1) < 30)) = true:=by rfl) (hline:(apos.endLine == cpos.line) = true:=by rfl) (hplain:(backTo cpos (starEach [] X.env)).any (·.1) = false:=by rfl):ZE X (.Call (.Attribute o "partition" apos) [e] [] cpos) (aFC to te):=.i (aHQ ho.o he.o hse hbase hfew hline hplain)
theorem aAv (ho:ZE X o to) (he:ZE X e te) (hse:starEach [e] X.env = (false,eval e X.env) :: starEach [] X.env:=by rfl) (hbase:attributeBase o "startswith" X.env (eval o X.env) = eval o X.env:=by rfl) (hfew:((backTo cpos (starEach [e] X.env)).all (fun x=>!x.1) && (backToKw cpos (keywordEach [] X.env)).all (fun x=>x.1.isSome)
   && decide ([e].length + ([]:List Keyword).length + (if ([]:List Keyword).isEmpty then 0 else 1) < 30)) = true:=by rfl) (hline:(apos.endLine == cpos.line) = true:=by rfl) (hplain:(backTo cpos (starEach [] X.env)).any (·.1) = false:=by rfl):ZE X (.Call (.Attribute o "startswith" apos) [e] [] cpos) (aCS to te):=.i (aFG ho.o he.o hse hbase hfew hline hplain)
theorem aIb (ho:ZE X o to) (hbase:attributeBase o "isascii" X.env (eval o X.env) = eval o X.env:=by rfl) (hline:(apos.endLine == cpos.line) = true:=by rfl):ZE X (.Call (.Attribute o "isascii" apos) [] [] cpos) (aKC to):=.i (aL5 ho.o hbase hline)
theorem aIn (ho:ZE X o to) (hbase:attributeBase o "isdigit" X.env (eval o X.env) = eval o X.env:=by rfl) (hline:(apos.endLine == cpos.line) = true:=by rfl):ZE X (.Call (.Attribute o "isdigit" apos) [] [] cpos) (aLs to):=.i (aK7 ho.o hbase hline)
end
section
variable {X:Cx} {pos p0 p1 p2 p3 p4:Pos} {e e1 e2:Expr} {te t1 t2:DE} {lo hi:Option Expr} {tl th:DO} {c:Str}
theorem aCN (he:ZE X e te) (hl:ZO X lo tl) (hu:ZO X hi th):ZE X (.Subscript e (.Slice lo hi none p2) pos) (aLU te tl th):=.i (aEx he.o hl.o hu.o)
theorem aIw (he:ZE X e te):ZE X (.JoinedStr [.FormattedValue e (-1) none p1] pos) (aJ5 te):=.i (aKW he.o)
theorem aHp {j} (he:ZE X e te) (hc:c.length<=1000000:=by decide):ZE X (.JoinedStr [.Constant (.str c) j p0,.FormattedValue e (-1) none p1] pos) (aKq c te):=.i (aLl (j:=j) he.o hc)
theorem aIv {j} (h1:ZE X e1 t1) (h2:ZE X e2 t2):ZE X (.JoinedStr [.FormattedValue e1 (-1) none p1,.Constant (.str c) j p0,.FormattedValue e2 (-1) none p2] pos) (aK3 c t1 t2):=.i (aL1 (j:=j) h1.o h2.o)
theorem aE1 {T1 T2:String} {x1 x2:Str} {p:Pos} {kt:Nat} (he:ZE X e te) (hm:X.mg "isinstance" = none) (hm1:X.mg x1 = none) (hm2:X.mg x2 = none) (hv1:bootBuiltins x1 = some (.type T1):=by rfl) (hv2:bootBuiltins x2 = some (.type T2):=by rfl) (hg:Gl X "isinstance":=by rfl) (hg1:Gl X x1:=by rfl) (hg2:Gl X x2:=by rfl) (hn1:x1 ≠ "__name__":=by decide) (hn2:x2 ≠ "__name__":=by decide) (hd1:(x1 == ("__debug__":Str)) = false:=by decide) (hd2:(x2 == ("__debug__":Str)) = false:=by decide) (hse:starEach [e,.Tuple [.Name x1 p1,.Name x2 p2] kt p3] X.env = (false,eval e X.env) :: starEach [.Tuple [.Name x1 p1,.Name x2 p2] kt p3] X.env:=by rfl) (hse2:starEach [.Tuple [.Name x1 p1,.Name x2 p2] kt p3] X.env = (false,eval (.Tuple [.Name x1 p1,.Name x2 p2] kt p3) X.env) :: starEach [] X.env:=by rfl) (hs1:starEach [.Name x1 p1,.Name x2 p2] X.env = (false,eval (.Name x1 p1) X.env) :: starEach [.Name x2 p2] X.env:=by rfl) (hs2:starEach [.Name x2 p2] X.env = (false,eval (.Name x2 p2) X.env) :: starEach [] X.env:=by rfl) (hpl:(backTo pos (starEach [.Tuple [.Name x1 p1,.Name x2 p2] kt p3] X.env)).any (·.1) = false:=by rfl):ZE X (.Call (.Name "isinstance" p) [e,.Tuple [.Name x1 p1,.Name x2 p2] kt p3] [] pos) (aKO X.K T1 T2 te):=.i (aFb he.o hm hm1 hm2 hv1 hv2 hg hg1 hg2 hn1 hn2 hd1 hd2 hse hse2 hs1 hs2 hpl)
end
end Dd
namespace Ty
open PySem PySem.Builtin.Str PySem.NumText PyProof.Rows
noncomputable def nt (n:Int):Str:=Str.ofString (toString n)
noncomputable def dg (m:Nat):List Nat:=(Nat.toDigits 10 m).map Char.toNat
theorem dg_all (m:Nat):AllDigits (dg m):=fun c hc=>by
 obtain ⟨ch,hch,e⟩:=List.mem_map.mp hc
 have r:=digit_range (Nat.isDigit_of_mem_toDigits (by decide) (by decide) hch)
 rw [<- e];exact r
theorem dg_ne (m:Nat):dg m ≠ []:=fun e=>by
 have h:=toDigits_len_ge 10 m
 rw [List.map_eq_nil_iff.mp e] at h
 exact absurd h (by decide)
theorem aFF (m:Nat):digitsVal (dg m) = m:=PySem.W.KIN.val_back m
theorem aDE {m:Nat} (h:¬ m < 10):dg m = dg (m / 10) ++ dg (m % 10):=by
 have hm:m % 10 < 10:=Nat.mod_lt m (by decide)
 have t:Nat.toDigits 10 (m / 10) ++ Nat.toDigits 10 (m % 10) = Nat.toDigits 10 (10 * (m / 10) + m % 10):=Nat.toDigits_append_toDigits (by decide) (by omega) hm
 rw [Nat.div_add_mod] at t
 unfold dg
 rw [<- t,List.map_append]
theorem xO {m:Nat} (h:m < 10):dg m = [48 + m]:=by
 unfold dg
 rw [Nat.toDigits_of_lt_base h]
 have:∀ d:Nat,d < 10->(Nat.digitChar d).toNat = 48 + d:=by decide
 rw [List.map_cons,List.map_nil,this m h]
theorem dg_head (m:Nat):∀ c,(dg m).head? = some c->c = 48->m = 0:=by
 induction m using Nat.strongRecOn with
 | _ m ih =>
  intro c hc e
  by_cases h:m < 10
  ·rw [xO h] at hc
   have:48 + m = c:=Option.some.inj hc
   omega
  ·rw [aDE h] at hc
   obtain ⟨y,ys,ey⟩:=List.exists_cons_of_ne_nil (dg_ne (m / 10))
   rw [ey,List.cons_append,List.head?_cons] at hc
   replace hc:(dg (m / 10)).head? = some c:=by rw [ey,List.head?_cons];exact hc
   have:=ih (m / 10) (by omega) c hc e
   omega
theorem aLQ (m:Nat):∀ k,1<=k->m < 10 ^ k->(dg m).length<=k:=by
 induction m using Nat.strongRecOn with
 | _ m ih =>
  intro k hk hm
  by_cases h:m < 10
  ·rw [xO h];exact hk
  ·have k2:2<=k:=by
    rcases Nat.lt_or_ge 1 k with z | z
    ·exact z
    ·have:k = 1:=by omega
     rw [this] at hm
     omega
   rw [aDE h,List.length_append,xO (Nat.mod_lt m (by decide))]
   have:=ih (m / 10) (by omega) (k - 1) (by omega) (by
    refine Nat.div_lt_of_lt_mul ?_
    rw [Nat.mul_comm,<- Nat.pow_succ,Nat.succ_eq_add_one,show k - 1 + 1 = k by omega]
    exact hm)
   show (dg (m / 10)).length + 1<=k
   omega
theorem aJx (m:Nat):cl (nt (m:Int)) = dg m:=PySem.W.KIN.signs_num m
theorem aKB (m:Nat):cl (nt (Int.negSucc m)) = 45 :: dg (m + 1):=by
 show (Str.ofString (toString (Int.negSucc m))).cps.toList = _
 rw [signs_ofString]
 show ("-" ++ Nat.repr (m + 1)).toList.map Char.toNat = _
 rw [String.toList_append,List.map_append,Nat.toList_repr]
 rfl
theorem nt_cases (n:Int):(0<=n/\cl (nt n) = dg n.natAbs) ∨ (n < 0/\cl (nt n) = 45 :: dg n.natAbs):=by
 cases n with
 | ofNat m=>exact .inl ⟨Int.natCast_nonneg m,aJx m⟩
 | negSucc m=>exact .inr ⟨Int.negSucc_lt_zero m,aKB m⟩
theorem nt_not {n:Int} {c:Nat} (h:c ≠ 45) (h2:¬ (48<=c/\c<=57)):c ∉ cl (nt n):=fun z=>by
 rcases nt_cases n with ⟨_,e⟩ | ⟨_,e⟩
 ·rw [e] at z;exact h2 (dg_all _ c z)
 ·rw [e] at z
  rcases List.mem_cons.mp z with z | z
  ·exact h z
  ·exact h2 (dg_all _ c z)
theorem nt_len {n:Int} (h:n.natAbs < 2 ^ 120):(nt n).length<=38:=by
 have:=aLQ n.natAbs 37 (by decide) (Nat.lt_of_lt_of_le h (by decide))
 rw [len_cl]
 rcases nt_cases n with ⟨_,e⟩ | ⟨_,e⟩
 ·rw [e];omega
 ·rw [e,List.length_cons];omega
theorem nt_int {n:Int} (h:n.natAbs < 2 ^ 120):PySem.intText? (nt n) = some n:=by
 have hl:=nt_len h
 rcases nt_cases n with ⟨h0,e⟩ | ⟨h0,e⟩
 ·have hd:AllDigits (nt n).cps.toList:=by rw [show (nt n).cps.toList = dg n.natAbs from e];exact dg_all _
  have hn:(nt n).cps.toList ≠ []:=by rw [show (nt n).cps.toList = dg n.natAbs from e];exact dg_ne _
  have:=intText_digits hd hn (by omega)
  rw [this,show (nt n).cps.toList = dg n.natAbs from e,aFF]
  congr 1;omega
 ·have:=intText_neg (x:=nt n) e (dg_all _) (dg_ne _) (by omega)
  rw [this,aFF]
  congr 1;omega
theorem log_small {n:Int} (h:n.natAbs < 2 ^ 120):n.natAbs.log2 < 1920:=by
 by_cases z:n.natAbs = 0
 ·rw [z];decide
 ·exact Nat.lt_trans ((Nat.log2_lt z).mpr h) (by decide)
theorem ascii_dg {x:Str} {m:Nat} (h:cl x = dg m):Dd.ascB x = true/\Dd.digB x = true:=by
 have hd:=dg_all m
 have hn:=dg_ne m
 have isd:∀ c,48<=c->c<=57->Unicode.isDigit c = true:=fun c h1 h2=>by
  have:∀ k:Fin 10,Unicode.isDigit (48 + k.val) = true:=by decide +kernel
  have:=this ⟨c - 48,by omega⟩
  rw [show 48 + (c - 48) = c by omega] at this
  exact this
 constructor
 ·unfold Dd.ascB
  rw [<- Array.all_toList,show x.cps.toList = dg m from h,List.all_eq_true]
  intro c hc
  have:=hd c hc
  exact decide_eq_true (by omega)
 ·unfold Dd.digB
  have l0:x.length > 0:=by rw [len_cl,h];exact List.length_pos_iff.mpr hn
  rw [decide_eq_true l0,Bool.true_and,<- Array.all_toList,show x.cps.toList = dg m from h,List.all_eq_true]
  intro c hc
  have:=hd c hc
  exact isd c this.1 this.2
theorem start_one (x:Str) (c:Nat):Dd.startB x (one c) = decide ((cl x).head? = some c):=by
 unfold Dd.startB
 have so:=PySem.StrLaws.subAt_one x c 0
 rw [<- List.head?_eq_getElem?] at so
 by_cases h:(cl x).head? = some c
 ·rw [decide_eq_true h]
  obtain ⟨h1,h2⟩:=so.mpr h
  rw [decide_eq_true h1,h2];rfl
 ·rw [decide_eq_false h]
  refine Bool.eq_false_iff.mpr fun z=>h (so.mp ?_)
  rw [Bool.and_eq_true,decide_eq_true_eq] at z
  exact z
theorem cut_one {x:Str} {c:Nat} {r:List Nat} (h:cl x = c :: r):cl (Txt.slice x (some 1) none) = r:=by
 have hl:x.length = r.length + 1:=by rw [len_cl,h];rfl
 have e:=PyProof.Rows.slice_from_eq (x:=x) (i:=1) (b:=(x.length:Int)) (by decide) (by omega) rfl
 rw [e]
 show ((x.cps.toList.drop (1:Int).toNat).take ((x.length:Int) - 1).toNat).toArray.toList = r
 rw [show x.cps.toList = c :: r from h,List.toList_toArray,show (1:Int).toNat = 1 from rfl,List.drop_succ_cons,List.drop_zero]
 exact List.take_of_length_le (by omega)
end Ty
namespace Dd
open PySem PySem.Spec PyProof.Rows L2 Mz
section
variable {prog:Program} {w:World} {A:Around} {E:Value->Shared->Prop} {s:Shared}
theorem aEt {l b:Addr} {Q:Value->Shared->Prop} (ha:s.TypeIs (.ref l) "list") (hb:s.TypeIs (.ref b) "list") (hc:wpAny (model prog w) A (call (.builtin "list.__iadd__") [.ref l,.ref b]) Q E s):wpAny (model prog w) A (inplaceOp .Add (.ref l) (.ref b)) Q E s:=by
 unfold inplaceOp
 refine wpAny_holding ?_
 have hlk:typeLookup (.type "list") (dunderI "add") = pure (some (.builtin "list.__iadd__")):=PySem.F.slot_list_iadd.lookup
 have hq:isSeqSlot (some (.builtin "list.__iadd__")) = true:=by decide +kernel
 have hfi:fillsInplaceSlot (.type "list") "add" (Operator.Add == .Add) = pure false:=by
  unfold fillsInplaceSlot
  show (typeLookup (.type "list") (dunderI "add") >>= fun fi=>pure (fi.isSome && !isSeqSlot fi)) = pure false
  rw [hlk,pure_bind,hq];rfl
 refine wpAny_bind (wpAny_typeOf ha (wpAny_bind (wpAny_of_eq hfi ?_)))
 show wpAny _ A (if false = true then _ else _) Q E s
 rw [if_neg Bool.false_ne_true]
 refine wpAny_bind (wpAny_binaryOp1_none (nm:="add") ha hb noFill_list_add ?_)
 refine wpAny_bind (wpAny_of_eq (PySem.seqSlot_of hlk hq) ?_)
 exact wpAny_bind (wpAny_rule hc)
end
section
variable {X:Cx} {x:Str} {e:Expr} {te:DE} {pos:Pos}
noncomputable def xH:D2:=fun x y M Q=>match x,y with
 | .ref l,.ref b=>∃ xs zs,M l = some xs/\M b = some zs/\xs.length + zs.length<=1000/\Q (.ref l) (bC M l (xs ++ zs))
 | _,_=>False
theorem aIm:OpD X (inplaceOp .Add) xH:=fun pins s σ H x y v u Q I rx ry ⟨dx,dy,M,Q',r1,r2,hm,q,k⟩=>by
 match dx,dy,q with
 | .ref l,.ref b,q =>
  obtain ⟨xs,zs,hx,hz,hl,q⟩:=q
  obtain rfl:=bD r1
  obtain rfl:=bD r2
  cases rx
  cases ry
  obtain ⟨us,hu,ru⟩:=hm.l l _ hx
  obtain ⟨ws,hw,rw'⟩:=hm.l b _ hz
  obtain ⟨z,its,n,r,hl1,e⟩:=I.lstM hu
  obtain ⟨z2,its2,n2,r3,hl2,e2⟩:=I.lstM hw
  have lx:=ru.length
  have lz:=rw'.length
  have hs1:=eX hl
  have hsz:its.toArray.size + its2.toArray.size<=sizeLine:=by rw [List.size_toArray,List.size_toArray];omega
  have hlong:¬ (!its.toArray.isEmpty && Builtin.List.listTooLong (its.toArray.size + its2.toArray.size)) = true:=by
   rw [aFz hsz,Bool.and_false]
   exact Bool.false_ne_true
  refine aEt ⟨_,e,rfl⟩ ⟨_,e2,rfl⟩ (call_meets PySem.F.slot_list_iadd ⟨_,e,rfl⟩ PySem.F.entry_list_iadd (PySem.F.args_list_iadd_2 _ _)
   (AutoSeq1.list___iadd___list_list_0 l its.toArray n b its2.toArray n2 hlong (by rw [List.size_toArray];omega) (by omega)) ⟨e,e2,?_⟩)
  refine ⟨.ref l,_,I.lset (its':=its ++ its2) hu e (by simp) (r.append r3) ?_,rfl,k _ _ ⟨.ref l,_,iO,hm.put hu (ru.append rw'),Ext.put hu _,q⟩⟩
  rw [List.length_append]
  omega
noncomputable def aAA (i:Nat) (te:DE):DS:=fun E ρ M=>match ρ[i]? with
 | some (some z)=>te ρ M fun d M1=>xH z d M1 fun r M2=>E.nx (ρ.set i (some r)) M2
 | _=>False
theorem aH4 {i:Nat} {pos':Pos} (hN:X.N.Nodup) (he:PDE X e te) (hi:X.N[i]? = some x:=by rfl) (hx:Loc X.env.scope x:=by first | exact Or.inl rfl | exact Or.inr rfl) (hf:X.fn x = true ∨ X.env.scope.names.lookup x = some .local:=by first | exact .inl rfl | exact .inr rfl | assumption) :
  PDS X (.AugAssign (.Name x pos') .Add e pos) (aAA i te) :=
 iQ (aGj (i:=i) hN hi hx he (aIm (X:=X)) hf) fun E σ H ⟨ρ,M,Dn,re,hm,q,k⟩=>by
  unfold aAA at q
  split at q
  ·rename_i z e1
   obtain ⟨v,e2,rv⟩:=re.get i _ e1
   refine ⟨_,e2,ρ,M,_,re,hm,q,fun w H1 ⟨d,M1,rd,hm1,ex,q1⟩=>?_⟩
   exact ⟨z,d,M1,_,rv.ext ex,rd,hm1,q1,fun u H2 ⟨r,M2,rr,hm2,ex2,q2⟩=>k.nx _ H2 ⟨_,M2,(re.ext (ex.trans ex2)).set rr i,hm2,ex.trans ex2,q2⟩⟩
  ·exact q.elim
end
end Dd
namespace Dd
open PySem PySem.Spec PyProof.Rows L2
section
variable {prog:Program} {w:World} {A:Around} {E:Value->Shared->Prop} {s:Shared}
end
section
variable {X:Cx} {x:Str} {e:Expr} {te:DE} {pos:Pos}
theorem aGy {i:Nat} {pos':Pos} (hN:X.N.Nodup) (he:ZE X e te) (hi:X.N[i]? = some x:=by rfl) (hx:Loc X.env.scope x:=by first | exact Or.inl rfl | exact Or.inr rfl) (hf:X.fn x = true ∨ X.env.scope.names.lookup x = some .local:=by first | exact .inl rfl | exact .inr rfl | assumption):ZS X (.AugAssign (.Name x pos') .Add e pos) (aAA i te):=.i (aH4 (i:=i) hN he.o hi hx hf)
end
end Dd
namespace Lw
open PySem PySem.Spec PyProof.Rows L2 Dd Mz
local macro_rules | `(tactic| decreasing_tactic) => `(tactic| try dsimp only [aJk, aJm, aMu, aJi, aJg, aGU, aFt, aDj, aI8, aFC, aGF, aCS, aKC, aLs, aGm, aLU, aI2, aJ5, aKq, aK3, aNo, aKO, aNT, aNQ, aHM, aBy, aLX, aC1, aNl, aOD, aFn, aLv, aJ8, aGZ, aGg, aK9, aG6, aK8, aM2, aMv, aNO, iJ, aDn, aLf, List.map, List.length_cons, List.length_nil, Nat.reduceAdd, Nat.reduceSub, List.reduceReplicate, List.cons_append, List.nil_append, List.set_cons_zero, List.set_cons_succ, List.getElem?_cons_zero, List.getElem?_cons_succ, gCn, gN, gNl, aKQ, aLF, aMY, aNr, aMy, aNb, aN4, aM3, aMp, aHq, aHm, aHn, aFR, aKr, aIr, aHX, aHe, aIR, aHt, aIS, aHT, aFi, aK5, aMt, aMx, aNP, aMO, ixT, ixF, aOG, aMM, aNx, aMU, aN2, aKk, oB, jS, oF, dOp, aAP, dC, d2I, d2J, aNV, aAE, aLC, dOr, aJE, aGV, aJM, aGQ, aKL, aKX, aJD, aGe, aLA, aFJ, aJK, aCQ, aEj, aKP, aFX, aIK, aMe, aCa, aE5, aDA, aGp, aH7, aIT, aLu, aJ3, aMR, aNC, aKD, zM, Option.join_some, aMA, aJY, aLN, dPt, aNs, dSl, aLn, aJf, aLo, aCV, aF4, aMm, aBG, aAM, aMq, aFA, aMV, aFO, aOf, aKc, aHi, aGo, isV, aKH, aJ2, aJQ, aLT, aLq, aJ4, aKJ, aJu, aK4, aJI, aKZ, aJJ, aLM, aJ1, aLD, aLH, aMb, aJR, aJV, aJz, aJA, aKg, aKw, aLG, aLe, aL7, aKy])
local macro_rules | `(tactic| simp_arith) => `(tactic| try simp only [aAT, aGb, aKa, cK, aK, id, decide_eq_true_eq, Bool.not_eq_true', decide_eq_false_iff_not])
noncomputable def top (i:Nat):Stmt:=PySem.Challenge.pw_arcmill_k24_programs_written.main.body.getD i (.Pass ⟨0,0,0,0⟩)
section
variable {P:Program} {w:World} {K:PySem.W.Frag} {mg:Str->Option Value} {base:Heap}
noncomputable abbrev hX:Stmt:=top 7
theorem jT:aQ ["one","other"] ["one","other"] (aJ hX):=⟨rfl,rfl,rfl,by decide +kernel,rfl,by decide +kernel,by decide +kernel⟩
theorem oG (hF:bX K mg "greatest_divisor" hX ["one","other"]) (mC:mg "abs" = none):Has P w K mg base 101 "greatest_divisor" ["one","other"] dS:=by
 refine Has.mkZ hF jT (fun ds M Q ⟨a,b,e,_⟩=>by rw [e];rfl) fun f cdv A outer s H ds M Q E hr h=>?_
 obtain ⟨a,b,rfl,q⟩:=h
 refine ⟨_,(aF (kF PassesOwn.never (aP (mE hr) (aB 1) aC) (aE (qI (i:=0) (j:=1) rfl jT.nd (aA (aB 1) (aA (aL dU (aB 0) (aB 1)) aD)))))
  (aE (aM (cD yU mC (aA (aB 0) aD))))),?_⟩
 refine kE (fun m ρ M'=>M' = M/\∃ x y:Int,ρ = [some (.int x),some (.int y)]/\m = y.natAbs/\Int.gcd x y = Int.gcd a b) _ ⟨rfl,a,b,rfl,rfl,rfl⟩ ?_
 rintro m ρ M' ⟨rfl,x,y,rfl,rfl,g⟩
 refine ⟨rfl,rfl,aM6 (fun c=>?_) (fun c=>?_)⟩
 ·have c:y ≠ 0:=by simpa [eqD] using c
  exact ⟨c,_,aAU c,rfl,y,x.fmod y,rfl,rfl,(xU x y).trans g⟩
 ·have c:y = 0:=by simpa [eqD] using c
  subst c
  refine ⟨M',.refl _,?_⟩
  have e:(if x < 0 then -x else x) = (Int.gcd a b:Int):=by rw [<- g,Int.gcd_zero_right];split<;>omega
  rw [e]
  exact q
noncomputable abbrev aC2:Stmt:=top 8
theorem tF:aQ ["one","other","shared","part","top","left"] ["one","other"] (aJ aC2):=⟨rfl,rfl,rfl,by decide +kernel,rfl,by decide +kernel,by decide +kernel⟩
theorem aFq (hF:bX K mg "plus" aC2 ["one","other"]) (bB:Has P w K mg base 101 "greatest_divisor" ["one","other"] dS):Has P w K mg base 102 "plus" ["one","other"] aBF:=by
 refine Has.mkZ hF tF sO fun f cdv A outer s H ds M Q E hr h=>?_
 obtain ⟨p,r,m,n,rfl,_,h1,h2,l,q⟩:=h
 refine ⟨_,(aF (aO (i:=2) tF.nd (aG bB hr (by decide) (aA (aH (aB 0) aC) (aA (aH (aB 1) aC) aD))))
  (aF (aO (i:=3) tF.nd (aL dH (aH (aB 0) aC) (aB 2)))
  (aF (aO (i:=4) tF.nd (aL cU (aL bL (aH (aB 0) aC) (aL dH (aH (aB 1) aC) (aB 2))) (aL bL (aH (aB 1) aC) (aB 3))))
  (aF (aO (i:=5) tF.nd (aG bB hr (by decide) (aA (aB 4) (aA (aB 2) aD))))
  (aE (aM (aR (aA (aL dH (aB 4) (aB 5)) (aA (aL bL (aB 3) (aL dH (aH (aB 1) aC) (aB 5))) aD))))))))),?_⟩
 obtain ⟨g0,l0,gd,ld,e1,e2⟩:=aOb p r _ _ _ _ rfl rfl rfl rfl
 have gr:(Int.gcd p.den r.den:Int) ∣ (r.den:Int):=Int.gcd_dvd_right _ _
 have bg:Bd m (Int.gcd p.den r.den:Int):=h1.2.dvd gd (eI p)
 refine ⟨_,_,rfl,wC h1.2 (by omega) gd (eI p) g0,wC h1.2 (by omega) gd (eI p) g0,dA h1.1 (h2.2.fdiv gr) (by omega),dA h2.1 (h1.2.fdiv gd) (by omega),_,_,rfl,?_⟩
 refine ⟨wC bg (by omega) ld g0 l0,wC bg (by omega) ld g0 l0,dA (h1.2.fdiv gd) (h2.2.fdiv (Int.dvd_trans ld gr)) (by omega),by show (2:Nat)<=1000;decide,M,.refl _,?_⟩
 have q':Q (.tup [.int (p + r).num,.int ((p + r).den:Int)]) M:=q
 rw [<- e1,<- e2] at q'
 exact q'
noncomputable abbrev wM:Stmt:=top 9
theorem mO:aQ ["one","other","falling","rising"] ["one","other"] (aJ wM):=⟨rfl,rfl,rfl,by decide +kernel,rfl,by decide +kernel,by decide +kernel⟩
theorem aEN (hF:bX K mg "times" wM ["one","other"]) (bB:Has P w K mg base 101 "greatest_divisor" ["one","other"] dS):Has P w K mg base 102 "times" ["one","other"] aCo:=by
 refine Has.mkZ hF mO sO fun f cdv A outer s H ds M Q E hr h=>?_
 obtain ⟨p,r,m,n,rfl,_,h1,h2,l,q⟩:=h
 refine ⟨_,(aF (aO (i:=2) mO.nd (aG bB hr (by decide) (aA (aH (aB 0) aC) (aA (aH (aB 1) aC) aD))))
  (aF (aO (i:=3) mO.nd (aG bB hr (by decide) (aA (aH (aB 1) aC) (aA (aH (aB 0) aC) aD))))
  (aE (aM (aR (aA (aL bL (aL dH (aH (aB 0) aC) (aB 2)) (aL dH (aH (aB 1) aC) (aB 3))) (aA (aL bL (aL dH (aH (aB 0) aC) (aB 3)) (aL dH (aH (aB 1) aC) (aB 2))) aD))))))),?_⟩
 obtain ⟨f0,r0,fd,rd,e1,e2⟩:=aMi p r _ _ rfl rfl
 have fl:(Int.gcd p.num r.den:Int) ∣ p.num:=Int.gcd_dvd_left _ _
 have rl:(Int.gcd r.num p.den:Int) ∣ r.num:=Int.gcd_dvd_left _ _
 refine ⟨_,_,rfl,_,_,rfl,wC h2.2 (by omega) fd (eI r) f0,wC h1.2 (by omega) rd (eI p) r0,dA (h1.1.fdiv fl) (h2.1.fdiv rl) (by omega),wC h1.2 (by omega) rd (eI p) r0,wC h2.2 (by omega) fd (eI r) f0,dA (h1.2.fdiv rd) (h2.2.fdiv fd) (by omega),by show (2:Nat)<=1000;decide,M,.refl _,?_⟩
 have q':Q (.tup [.int (p * r).num,.int ((p * r).den:Int)]) M:=q
 rw [<- e1,<- e2] at q'
 exact q'
noncomputable abbrev aBe:Stmt:=top 10
theorem aF2:aQ ["one","other"] ["one","other"] (aJ aBe):=⟨rfl,rfl,rfl,by decide +kernel,rfl,by decide +kernel,by decide +kernel⟩
theorem aEJ (hF:bX K mg "below" aBe ["one","other"]):Has P w K mg base 101 "below" ["one","other"] aB9:=by
 refine Has.mkZ hF aF2 sO fun f cdv A outer s H ds M Q E hr h=>?_
 obtain ⟨p,r,m,n,rfl,_,h1,h2,l,q⟩:=h
 refine ⟨_,(aE (aM (cS yG (aL bL (aH (aB 0) aC) (aH (aB 1) aC)) (aL bL (aH (aB 1) aC) (aH (aB 0) aC))))),?_⟩
 refine ⟨dA h1.1 h2.2 (by omega),dA h2.1 h1.2 (by omega),M,.refl _,?_⟩
 have e:decide (p.num * (r.den:Int) < r.num * (p.den:Int)) = decide (p < r):=decide_eq_decide.mpr (ltQ p r)
 show Q (.bl (decide (p.num * (r.den:Int) < r.num * (p.den:Int)))) M
 rw [e]
 exact q
noncomputable def oD (x y:Rat):Int:=if (x.den:Int) = (y.den:Int) then (x.den:Int) else (x.den:Int) * (y.den:Int)
noncomputable def oX (x y:Rat):Int:=if (x.den:Int) = (y.den:Int) then x.num else x.num * (y.den:Int)
noncomputable def oY (x y:Rat):Int:=if (x.den:Int) = (y.den:Int) then y.num else y.num * (x.den:Int)
theorem aDv (x y:Rat):0 < oD x y:=by
 have h1:(0:Int) < x.den:=by have:=x.den_pos;omega
 have h2:(0:Int) < y.den:=by have:=y.den_pos;omega
 unfold oD;split
 ·exact h1
 ·exact Int.mul_pos h1 h2
theorem aJh (x y:Rat):((oX x y:Int):Rat) = x * (oD x y:Int):=by
 have e:=gP x
 unfold oX oD;split
 ·rw [e]
 ·rw [Rat.intCast_mul,Rat.intCast_mul,e];grind
theorem aI5 (x y:Rat):((oY x y:Int):Rat) = y * (oD x y:Int):=by
 have e:=gP y
 unfold oY oD;split
 ·rename_i h;rw [e,h]
 ·rw [Rat.intCast_mul,Rat.intCast_mul,e];grind
theorem aEU {x y:Rat} {n:Nat} (hx:BQ n x) (hy:BQ n y):Bd (n + n) (oX x y)/\Bd (n + n) (oY x y)/\Bd (n + n) (oD x y):=by
 unfold oX oY oD
 refine ⟨?_,?_,?_⟩
 ·split
  ·exact hx.1.mono (by omega)
  ·exact hx.1.mul hy.2
 ·split
  ·exact hy.1.mono (by omega)
  ·exact hy.1.mul hx.2
 ·split
  ·exact hx.2.mono (by omega)
  ·exact hx.2.mul hy.2
noncomputable def iZ:DSp:=fun ds M Q=>∃ x y n,ds = [PQ x y]/\BQ n x/\BQ n y/\n<=8998/\Q (.tup [.int (oX x y),.int (oY x y),.int (oD x y)]) M
noncomputable abbrev jM:Stmt:=top 13
theorem jB:aQ ["p","x","y"] ["p"] (aJ jM):=⟨rfl,rfl,rfl,by decide +kernel,rfl,by decide +kernel,by decide +kernel⟩
theorem tG (hF:bX K mg "on_one_bottom" jM ["p"]):Has P w K mg base 101 "on_one_bottom" ["p"] iZ:=by
 refine Has.mkZ hF jB (fun ds M Q ⟨x,y,n,e,_⟩=>by rw [e];rfl) fun f cdv A outer s H ds M Q E hr h=>?_
 obtain ⟨x,y,n,rfl,hx,hy,hn,q⟩:=h
 refine ⟨_,(aF (jX (aB 0) (kC (n:=2) rfl (bW (aV (i:=1) jB.nd) (bW (aV (i:=2) jB.nd) gQ))))
  (aF (aX (aP (bZ hr) (aH (aB 1) aC) (aH (aB 2) aC)) (aE (aM (aR (aA (aH (aB 1) aC) (aA (aH (aB 2) aC) (aA (aH (aB 1) aC) aD)))))) aT)
  (aE (aM (aR (aA (aL bL (aH (aB 1) aC) (aH (aB 2) aC)) (aA (aL bL (aH (aB 2) aC) (aH (aB 1) aC)) (aA (aL bL (aH (aB 1) aC) (aH (aB 2) aC)) aD)))))))),?_⟩
 unfold oX oY oD at q
 decreasing_tactic
 rw [cK]
 refine ⟨rfl,dif (fun c=>?_) (fun c=>?_)⟩
 ·rw [if_pos c,if_pos c,if_pos c] at q
  exact ⟨by decide,M,.refl _,q⟩
 ·rw [if_neg c,if_neg c,if_neg c] at q
  exact ⟨dA hx.1 hy.2 (by omega),dA hy.1 hx.2 (by omega),dA hx.2 hy.2 (by omega),by decide,M,.refl _,q⟩
noncomputable def aA6:DSp:=fun ds M Q=>∃ i,ds = [.int i]/\Q (.int (if 0 < i then 1 else if i = 0 then 0 else -1)) M
noncomputable abbrev aCY:Stmt:=top 14
theorem aHD:aQ ["number"] ["number"] (aJ aCY):=⟨rfl,rfl,rfl,by decide +kernel,rfl,by decide +kernel,by decide +kernel⟩
theorem aGx (hF:bX K mg "sign" aCY ["number"]):Has P w K mg base 101 "sign" ["number"] aA6:=by
 refine Has.mkZ hF aHD (fun ds M Q ⟨x,e,_⟩=>by rw [e];rfl) fun f cdv A outer s H ds M Q E hr h=>?_
 obtain ⟨i,rfl,q⟩:=h
 refine ⟨_,(aF (aX (aP iD (aB 0) aC) (aE (aM aC)) aT)
  (aE (aM (eJ (aP (bZ hr) (aB 0) aC) aC (eL aC))))),?_⟩
 decreasing_tactic
 refine dif (fun c=>?_) (fun c=>?_)
 ·rw [if_pos c] at q
  exact ⟨M,.refl _,q⟩
 ·rw [if_neg c] at q
  rw [cK]
  refine dif (fun d=>?_) (fun d=>?_)
  ·rw [if_pos d] at q
   exact ⟨M,.refl _,q⟩
  ·rw [if_neg d] at q
   exact ⟨M,.refl _,q⟩
noncomputable def fS (cx cy px py:Rat):Int:=(oX px py * oD cx cy - oX cx cy * oD px py) * (oX px py * oD cx cy - oX cx cy * oD px py) + (oY px py * oD cx cy - oY cx cy * oD px py) * (oY px py * oD cx cy - oY cx cy * oD px py)
theorem aI6 (cx cy px py:Rat):((fS cx cy px py:Int):Rat) = ((px - cx) * (px - cx) + (py - cy) * (py - cy)) * (((oD cx cy:Int):Rat) * ((oD px py:Int):Rat)) * (((oD cx cy:Int):Rat) * ((oD px py:Int):Rat)):=by
 unfold fS
 simp only [Rat.intCast_add,Rat.intCast_mul,Rat.intCast_sub]
 rw [aJh,aJh,aI5,aI5]
 grind
noncomputable def qS:DSp:=fun ds M Q=>∃ cx cy px py n,ds = [PQ cx cy,PQ px py]/\BQ n cx/\BQ n cy/\BQ n px/\BQ n py/\n<=4000/\Q (.tup [.int (fS cx cy px py),.int (oD px py)]) M
noncomputable abbrev nR:Stmt:=top 16
theorem dI:aQ ["c","p","cx","cy","cd","px","py","pd","x","y"] ["c","p"] (aJ nR):=⟨rfl,rfl,rfl,by decide +kernel,rfl,by decide +kernel,by decide +kernel⟩
theorem yZ (hF:bX K mg "scaled_far" nR ["c","p"]) (gY:Has P w K mg base 101 "on_one_bottom" ["p"] iZ):Has P w K mg base 102 "scaled_far" ["c","p"] qS:=by
 refine Has.mkZ hF dI (fun ds M Q ⟨cx,cy,px,py,n,e,_⟩=>by rw [e];rfl) fun f cdv A outer s H ds M Q E hr h=>?_
 obtain ⟨cx,cy,px,py,n,rfl,h1,h2,h3,h4,hn,q⟩:=h
 refine ⟨_,(aF (jX (aG gY hr (by decide) (aA (aB 0) aD)) (kC (n:=3) rfl (bW (aV (i:=2) dI.nd) (bW (aV (i:=3) dI.nd) (bW (aV (i:=4) dI.nd) gQ)))))
  (aF (jX (aG gY hr (by decide) (aA (aB 1) aD)) (kC (n:=3) rfl (bW (aV (i:=5) dI.nd) (bW (aV (i:=6) dI.nd) (bW (aV (i:=7) dI.nd) gQ)))))
  (aF (aO (i:=8) dI.nd (aL pJ (aL bL (aB 5) (aB 4)) (aL bL (aB 2) (aB 7))))
  (aF (aO (i:=9) dI.nd (aL pJ (aL bL (aB 6) (aB 4)) (aL bL (aB 3) (aB 7))))
  (aE (aM (aR (aA (aL cU (aL bL (aB 8) (aB 8)) (aL bL (aB 9) (aB 9))) (aA (aB 7) aD))))))))),?_⟩
 decreasing_tactic
 obtain ⟨a1,a2,a3⟩:=aEU h1 h2
 obtain ⟨b1,b2,b3⟩:=aEU h3 h4
 have dX:Bd (n + n + (n + n) + 1) (oX px py * oD cx cy - oX cx cy * oD px py):=(b1.mul a3).sub (a1.mul b3)
 have dY:Bd (n + n + (n + n) + 1) (oY px py * oD cx cy - oY cx cy * oD px py):=(b2.mul a3).sub (a2.mul b3)
 refine ⟨cx,cy,n,rfl,h1,h2,by omega,?_⟩
 decreasing_tactic
 refine ⟨rfl,px,py,n,rfl,h3,h4,by omega,?_⟩
 decreasing_tactic
 exact ⟨rfl,dA b1 a3 (by omega),dA a1 b3 (by omega),dA b2 a3 (by omega),dA a2 b3 (by omega),dA dX dX (by omega),dA dY dY (by omega),by decide,M,.refl _,q⟩
noncomputable def gD (cx cy px py:Rat):Rat:=(px - cx) * (px - cx) + (py - cy) * (py - cy)
theorem aI1 {cx cy px py:Rat} {n:Nat} (h1:BQ n cx) (h2:BQ n cy) (h3:BQ n px) (h4:BQ n py):Bd (8 * n + 3) (fS cx cy px py):=by
 obtain ⟨a1,a2,a3⟩:=aEU h1 h2
 obtain ⟨b1,b2,b3⟩:=aEU h3 h4
 have dX:Bd (n + n + (n + n) + 1) (oX px py * oD cx cy - oX cx cy * oD px py):=(b1.mul a3).sub (a1.mul b3)
 have dY:Bd (n + n + (n + n) + 1) (oY px py * oD cx cy - oY cx cy * oD px py):=(b2.mul a3).sub (a2.mul b3)
 exact ((dX.mul dX).add (dY.mul dY)).mono (by omega)
theorem aIx (cx cy px py qx qy:Rat):(0 < fS cx cy px py * oD qx qy * oD qx qy - fS cx cy qx qy * oD px py * oD px py ↔ gD cx cy qx qy < gD cx cy px py) /\
  (fS cx cy px py * oD qx qy * oD qx qy - fS cx cy qx qy * oD px py * oD px py = 0 ↔ gD cx cy px py = gD cx cy qx qy):=by
 have e:((fS cx cy px py * oD qx qy * oD qx qy - fS cx cy qx qy * oD px py * oD px py:Int):Rat) = (gD cx cy px py - gD cx cy qx qy) * ((((oD cx cy:Int):Rat) * ((oD px py:Int):Rat) * ((oD qx qy:Int):Rat)) * (((oD cx cy:Int):Rat) * ((oD px py:Int):Rat) * ((oD qx qy:Int):Rat))):=by
  simp only [Rat.intCast_mul,Rat.intCast_sub]
  rw [aI6,aI6]
  unfold gD
  grind
 have c1:(0:Rat) < ((oD cx cy:Int):Rat):=Rat.intCast_pos.mpr (aDv _ _)
 have c2:(0:Rat) < ((oD px py:Int):Rat):=Rat.intCast_pos.mpr (aDv _ _)
 have c3:(0:Rat) < ((oD qx qy:Int):Rat):=Rat.intCast_pos.mpr (aDv _ _)
 have k0:(0:Rat) < (((oD cx cy:Int):Rat) * ((oD px py:Int):Rat) * ((oD qx qy:Int):Rat)) * (((oD cx cy:Int):Rat) * ((oD px py:Int):Rat) * ((oD qx qy:Int):Rat)):=Rat.mul_pos (Rat.mul_pos (Rat.mul_pos c1 c2) c3) (Rat.mul_pos (Rat.mul_pos c1 c2) c3)
 generalize (((oD cx cy:Int):Rat) * ((oD px py:Int):Rat) * ((oD qx qy:Int):Rat)) * (((oD cx cy:Int):Rat) * ((oD px py:Int):Rat) * ((oD qx qy:Int):Rat)) = κ at e k0
 generalize fS cx cy px py * oD qx qy * oD qx qy - fS cx cy qx qy * oD px py * oD px py = z at e ⊢
 generalize gD cx cy px py = u at e ⊢
 generalize gD cx cy qx qy = v at e ⊢
 constructor
 ·rw [<- Rat.intCast_pos,e]
  constructor
  ·intro h
   by_cases c:v < u
   ·exact c
   ·have:u - v<=0:=by grind
    have:=Rat.mul_nonneg (a:=v - u) (b:=κ) (by grind) (by grind)
    grind
  ·intro h
   exact Rat.mul_pos (by grind) k0
 ·constructor
  ·intro h
   rw [h] at e
   have:=(Rat.mul_eq_zero.mp e.symm).resolve_right (by grind)
   grind
  ·intro h
   have:(z:Rat) = 0:=by rw [e,h];grind
   exact Rat.intCast_eq_zero_iff.mp this
noncomputable def aGz (cx cy px py qx qy:Rat):Int:=if gD cx cy qx qy < gD cx cy px py then 1 else if gD cx cy px py = gD cx cy qx qy then 0 else -1
noncomputable def xB:DSp:=fun ds M Q=>∃ cx cy px py qx qy n,ds = [PQ cx cy,PQ px py,PQ qx qy]/\BQ n cx/\BQ n cy/\BQ n px/\BQ n py/\BQ n qx/\BQ n qy/\n<=4000/\Q (.int (aGz cx cy px py qx qy)) M
noncomputable abbrev tX:Stmt:=top 15
theorem kO:aQ ["c","p","q","p_square","pd","q_square","qd"] ["c","p","q"] (aJ tX):=⟨rfl,rfl,rfl,by decide +kernel,rfl,by decide +kernel,by decide +kernel⟩
theorem aCw (hF:bX K mg "farther" tX ["c","p","q"]) (kA:Has P w K mg base 102 "scaled_far" ["c","p"] qS) (aCZ:Has P w K mg base 101 "sign" ["number"] aA6):Has P w K mg base 103 "farther" ["c","p","q"] xB:=by
 refine Has.mkZ hF kO (fun ds M Q ⟨cx,cy,px,py,qx,qy,n,e,_⟩=>by rw [e];rfl) fun f cdv A outer s H ds M Q E hr h=>?_
 obtain ⟨cx,cy,px,py,qx,qy,n,rfl,h1,h2,h3,h4,h5,h6,hn,q⟩:=h
 refine ⟨_,(aF (jX (aG kA hr (by decide) (aA (aB 0) (aA (aB 1) aD))) (kC (n:=2) rfl (bW (aV (i:=3) kO.nd) (bW (aV (i:=4) kO.nd) gQ))))
  (aF (jX (aG kA hr (by decide) (aA (aB 0) (aA (aB 2) aD))) (kC (n:=2) rfl (bW (aV (i:=5) kO.nd) (bW (aV (i:=6) kO.nd) gQ))))
  (aE (aM (aG aCZ hr (by decide) (aA (aL pJ (aL bL (aL bL (aB 3) (aB 6)) (aB 6)) (aL bL (aL bL (aB 5) (aB 4)) (aB 4))) aD)))))),?_⟩
 decreasing_tactic
 have bP:=aI1 h1 h2 h3 h4
 have bQ:=aI1 h1 h2 h5 h6
 have dP:=(aEU h3 h4).2.2
 have dQ:=(aEU h5 h6).2.2
 refine ⟨cx,cy,px,py,n,rfl,h1,h2,h3,h4,hn,?_⟩
 decreasing_tactic
 refine ⟨rfl,cx,cy,qx,qy,n,rfl,h1,h2,h5,h6,hn,?_⟩
 decreasing_tactic
 refine ⟨rfl,dA bP dQ (by omega),dA (bP.mul dQ) dQ (by omega),dA bQ dP (by omega),dA (bQ.mul dP) dP (by omega),_,rfl,M,.refl _,?_⟩
 obtain ⟨e1,e2⟩:=aIx cx cy px py qx qy
 have e:(if 0 < fS cx cy px py * oD qx qy * oD qx qy - fS cx cy qx qy * oD px py * oD px py then 1 else if fS cx cy px py * oD qx qy * oD qx qy - fS cx cy qx qy * oD px py * oD px py = 0 then 0 else -1:Int) = aGz cx cy px py qx qy:=by
  unfold aGz
  by_cases c:gD cx cy qx qy < gD cx cy px py
  ·rw [if_pos c,if_pos (e1.mpr c)]
  ·rw [if_neg c,if_neg (fun z=>c (e1.mp z))]
   by_cases d:gD cx cy px py = gD cx cy qx qy
   ·rw [if_pos d,if_pos (e2.mpr d)]
   ·rw [if_neg d,if_neg (fun z=>d (e2.mp z))]
 rw [e]
 exact q
noncomputable def aCG:DSp:=fun ds M Q=>ds = []/\Q (FR 0 0 0 1 1) M
noncomputable abbrev aAZ:Stmt:=top 31
theorem aGc:aQ [] [] (aJ aAZ):=⟨rfl,rfl,rfl,by decide +kernel,rfl,by decide +kernel,by decide +kernel⟩
theorem aE0 (hF:bX K mg "first" aAZ []) (bF:fC K mg "MIDDLE" tM) (kR:fC K mg "ONE" aDf):Has P w K mg base 101 "first" [] aCG:=by
 refine Has.mkZ hF aGc (fun ds M Q ⟨e,_⟩=>by rw [e];rfl) fun f cdv A outer s H ds M Q E hr h=>?_
 obtain ⟨rfl,q⟩:=h
 refine ⟨_,(aE (aM (aR (aA (bE bF) (aA aC (aA aC (aA (bE kR) aD))))))),?_⟩
 decreasing_tactic
 exact ⟨by decide,M,.refl _,q⟩
noncomputable def gB:DSp:=fun ds M Q=>∃ t b,ds = [.int t,.int b]/\0 < b/\Bd 8999 b/\Q (FQ ((t:Rat) / (b:Rat))) M
noncomputable abbrev lC:Stmt:=top 79
theorem gC:aQ ["_law_top","_law_bottom","_law_one","_law_other"] ["_law_top","_law_bottom"] (aJ lC):=⟨rfl,rfl,rfl,by decide +kernel,rfl,by decide +kernel,by decide +kernel⟩
theorem aAi (hF:bX K mg "_law_ratio" lC ["_law_top","_law_bottom"]) (mC:mg "abs" = none):Has P w K mg base 101 "_law_ratio" ["_law_top","_law_bottom"] gB:=by
 refine Has.mkZ hF gC (fun ds M Q ⟨a,b,e,_⟩=>by rw [e];rfl) fun f cdv A outer s H ds M Q E hr h=>?_
 obtain ⟨t,b,rfl,hb,hB,q⟩:=h
 refine ⟨_,(aF (qI (i:=2) (j:=3) rfl gC.nd (aA (cD yU mC (aA (aB 0) aD)) (aA (aB 1) aD)))
  (aF (kF PassesOwn.never (aP iD (aB 3) aC) (aE (qI (i:=2) (j:=3) rfl gC.nd (aA (aB 3) (aA (aL dU (aB 2) (aB 3)) aD)))))
  (aE (aM (aR (aA (aL dH (aB 0) (aB 2)) (aA (aL dH (aB 1) (aB 2)) aD))))))),?_⟩
 have hb0:b ≠ 0:=by omega
 refine kE (fun m ρ M'=>M' = M/\∃ x y:Int,ρ = [some (.int t),some (.int b),some (.int x),some (.int y)]/\m = y.natAbs/\0<=x/\0<=y/\Int.gcd x y = Int.gcd t b) _ ⟨rfl,_,_,rfl,rfl,by split<;>omega,by omega,by
  split<;>simp [Int.neg_gcd]⟩ ?_
 rintro m ρ M' ⟨rfl,x,y,rfl,rfl,hx,hy,g⟩
 decreasing_tactic
 refine dif (fun c=>?_) (fun c=>?_)
 ·have hy':y ≠ 0:=by omega
  exact ⟨hy',_,aAU hy',rfl,y,x.fmod y,rfl,rfl,hy,Int.fmod_nonneg_of_pos _ (by omega),(xU x y).trans g⟩
 ·have hy':y = 0:=by omega
  subst hy'
  have e:x = (Int.gcd t b:Int):=by rw [<- g,Int.gcd_zero_right];omega
  have fin:Q (.tup [.int (fT t b),.int (fB t b)]) M':=by rw [aDZ hb0];exact q
  unfold fT fB at fin
  have s1:=aJo (t:=t) hb0
  have s2:=(hB.sg (t:=t) hb0).log (by decide)
  unfold sg at fin s1 s2
  rw [if_neg (by omega),<- e] at fin s1 s2
  exact ⟨⟨s1,Nat.lt_succ_of_lt s2⟩,⟨s1,Nat.lt_succ_of_lt s2⟩,by decide,M',.refl _,fin⟩
noncomputable def oS:DSp:=aBF
noncomputable abbrev rK:Stmt:=top 80
theorem aCK:aQ ["_law_one","_law_other"] ["_law_one","_law_other"] (aJ rK):=⟨rfl,rfl,rfl,by decide +kernel,rfl,by decide +kernel,by decide +kernel⟩
theorem aBE (hF:bX K mg "_law_plus" rK ["_law_one","_law_other"]) (bV:Has P w K mg base 101 "_law_ratio" ["_law_top","_law_bottom"] gB):Has P w K mg base 102 "_law_plus" ["_law_one","_law_other"] oS:=by
 refine Has.mkZ hF aCK sO fun f cdv A outer s H ds M Q E hr h=>?_
 obtain ⟨p,r,m,n,rfl,_,h1,h2,l,q⟩:=h
 refine ⟨_,(aE (aM (aG bV hr (by decide) (aA (aL cU (aL bL (aH (aB 0) aC) (aH (aB 1) aC)) (aL bL (aH (aB 1) aC) (aH (aB 0) aC))) (aA (aL bL (aH (aB 0) aC) (aH (aB 1) aC)) aD))))),?_⟩
 decreasing_tactic
 exact ⟨dA h1.1 h2.2 (by omega),dA h2.1 h1.2 (by omega),dA h1.2 h2.2 (by omega),_,_,rfl,Int.mul_pos (den_pos p) (den_pos r),(h1.2.mul h2.2).mono (by omega),M,.refl _,by rw [aNW];exact q⟩
noncomputable def iH:DSp:=aCo
noncomputable abbrev kY:Stmt:=top 81
theorem sY:aQ ["_law_one","_law_other"] ["_law_one","_law_other"] (aJ kY):=⟨rfl,rfl,rfl,by decide +kernel,rfl,by decide +kernel,by decide +kernel⟩
theorem zQ (hF:bX K mg "_law_times" kY ["_law_one","_law_other"]) (bV:Has P w K mg base 101 "_law_ratio" ["_law_top","_law_bottom"] gB):Has P w K mg base 102 "_law_times" ["_law_one","_law_other"] iH:=by
 refine Has.mkZ hF sY sO fun f cdv A outer s H ds M Q E hr h=>?_
 obtain ⟨p,r,m,n,rfl,_,h1,h2,l,q⟩:=h
 refine ⟨_,(aE (aM (aG bV hr (by decide) (aA (aL bL (aH (aB 0) aC) (aH (aB 1) aC)) (aA (aL bL (aH (aB 0) aC) (aH (aB 1) aC)) aD))))),?_⟩
 decreasing_tactic
 exact ⟨dA h1.1 h2.1 (by omega),dA h1.2 h2.2 (by omega),_,_,rfl,Int.mul_pos (den_pos p) (den_pos r),(h1.2.mul h2.2).mono (by omega),M,.refl _,by rw [aKj];exact q⟩
theorem aFM {a b:Rat} (ha:0 < a) (hb:0 < b):0 < a / b:=by
 have e:a / b * b = a:=by grind
 rcases (show a / b < 0 ∨ a / b = 0 ∨ 0 < a / b by grind) with c | c | c
 ·have:=Rat.mul_pos (show 0 < -(a / b) by grind) hb
  grind
 ·rw [c] at e;grind
 ·exact c
theorem aCv {x:Int} (h1:-10000000<=x) (h2:x<=10000000):Bd 24 x:=by unfold Bd;omega
theorem aFs {t b:Int} (h0:0 < b) (h1:-10000000<=t) (h2:t<=10000000) (h3:b<=10000000):BQ 24 ((t:Rat) / (b:Rat)):=.make (by omega) (aCv h1 h2) (aCv (by omega) h3)
noncomputable def Wh (q:Rat):Prop:=∃ z:Int,q = (z:Rat)/\-20<=z/\z<=20
noncomputable def mR:DSp:=fun ds M Q=>∃ a b,ds = [.int a,.int b]/\∀ q,BQ 24 q->(b.fmod 5 ≠ 4->b.fmod 3 ≠ 2->Wh q)->Q (FQ q) M
noncomputable abbrev pY:Stmt:=top 82
theorem aAJ:aQ ["_law_one","_law_other"] ["_law_one","_law_other"] (aJ pY):=⟨rfl,rfl,rfl,by decide +kernel,rfl,by decide +kernel,by decide +kernel⟩
theorem aAj (hF:bX K mg "_law_drawn" pY ["_law_one","_law_other"]) (bV:Has P w K mg base 101 "_law_ratio" ["_law_top","_law_bottom"] gB):Has P w K mg base 102 "_law_drawn" ["_law_one","_law_other"] mR:=by
 refine Has.mkZ hF aAJ (fun ds M Q ⟨a,b,e,_⟩=>by rw [e];rfl) fun f cdv A outer s H ds M Q E hr h=>?_
 obtain ⟨a,b,rfl,q⟩:=h
 refine ⟨_,(aF (aX (aP (bZ hr) (aL dU (aB 1) aC) aC) (aE (aM (aG bV hr (by decide) (aA (aL pJ (aL dU (aL bL (aB 0) aC) aC) aC) (aA (aL cU aC (aL dU (aL bL (aB 1) aC) aC)) aD))))) aT)
  (aE (aM (aG bV hr (by decide) (aA (aL pJ (aL dU (aB 0) aC) aC) (aA (aL cU aC (aL dU (aL dH (aB 0) aC) (aH (bR (aA aC (aA aC (aA aC aD)))) (aL dU (aB 1) aC)))) aD)))))),?_⟩
 decreasing_tactic
 simp_arith
 refine ⟨by decide,?_⟩
 by_cases c:b.fmod 5 = 4
 ·rw [if_pos c]
  have h1:=Int.fmod_nonneg_of_pos (a * 7) (show (0:Int) < 1999999 by decide)
  have h2:=Int.fmod_lt_of_pos (a * 7) (show (0:Int) < 1999999 by decide)
  have h3:=Int.fmod_nonneg_of_pos (b * 13) (show (0:Int) < 999999 by decide)
  have h4:=Int.fmod_lt_of_pos (b * 13) (show (0:Int) < 999999 by decide)
  exact ⟨rE (by unfold Bd;decide),by decide,rE (by unfold Bd;decide),by decide,_,_,rfl,by omega,(aCv (by omega) (by omega)).mono (by decide),M,.refl _,q _ (aFs (by omega) (by omega) (by omega) (by omega)) fun n=>absurd c n⟩
 ·rw [if_neg c]
  refine ⟨by decide,⟨by decide,by decide +kernel⟩,by decide,fun p hp=>⟨by decide,?_⟩⟩
  have s1:=aW.new hp [.int 1,.int 1,.int 9]
  have h1:=Int.fmod_nonneg_of_pos a (show (0:Int) < 41 by decide)
  have h2:=Int.fmod_lt_of_pos a (show (0:Int) < 41 by decide)
  obtain ⟨k,hk,k0,k1,kw⟩:∃ k:Int,atI [D.int 1,.int 1,.int 9] (b.fmod 3) = some (.int k)/\0 < k/\k<=9/\(b.fmod 3 ≠ 2->k = 1):=by
   have h1:=Int.fmod_nonneg_of_pos b (show (0:Int) < 3 by decide)
   have h2:=Int.fmod_lt_of_pos b (show (0:Int) < 3 by decide)
   have:b.fmod 3 = 0 ∨ b.fmod 3 = 1 ∨ b.fmod 3 = 2:=by omega
   rcases this with e | e | e<;>rw [e]
   ·exact ⟨1,rfl,by decide,by decide,fun _=>rfl⟩
   ·exact ⟨1,rfl,by decide,by decide,fun _=>rfl⟩
   ·exact ⟨9,rfl,by decide,by decide,fun n=>absurd rfl n⟩
  refine ⟨_,_,aI,hk,?_⟩
  decreasing_tactic
  have h3:=Int.fmod_nonneg_of_pos (a.fdiv 41) k0
  have h4:=Int.fmod_lt_of_pos (a.fdiv 41) k0
  refine ⟨by omega,_,_,rfl,by omega,(aCv (by omega) (by omega)).mono (by decide),M,s1,q _ (aFs (by omega) (by omega) (by omega) (by omega)) fun _ n=>⟨a.fmod 41 - 20,?_,by omega,by omega⟩⟩
  rw [show 1 + (a.fdiv 41).fmod k = 1 by have:=kw n;omega]
  show _ / (1:Rat) = _
  grind
theorem bqz:BQ 1 0:=⟨by unfold Bd;decide,by unfold Bd;decide⟩
theorem aEr {cx cy px py qx qy:Rat}:aGz cx cy px py qx qy = 0 ↔ gD cx cy px py = gD cx cy qx qy:=by
 unfold aGz
 by_cases c:gD cx cy qx qy < gD cx cy px py
 ·rw [if_pos c]
  exact ⟨fun z=>absurd z (by decide),fun z=>by rw [z] at c;exact absurd c Rat.lt_irrefl⟩
 ·rw [if_neg c]
  by_cases d:gD cx cy px py = gD cx cy qx qy
  ·rw [if_pos d];exact ⟨fun _=>d,fun _=>rfl⟩
  ·rw [if_neg d];exact ⟨fun z=>absurd z (by decide),fun z=>absurd z d⟩
inductive Pl where
 | go (a:Rat) | side (a b:Rat) | skip (a:Rat) | dot | left | right | rnd | mirror | grow (a:Rat) | quarter (a:Rat) | half (a:Rat) | arc (a b c d:Rat)
noncomputable def plD:Pl->D
 | .go a=>.tup [.str "go",FQ a]
 | .side a b=>.tup [.str "side",FQ a,FQ b]
 | .skip a=>.tup [.str "skip",FQ a]
 | .dot=>.tup [.str "dot"]
 | .left=>.tup [.str "left"]
 | .right=>.tup [.str "right"]
 | .rnd=>.tup [.str "round"]
 | .mirror=>.tup [.str "mirror"]
 | .grow a=>.tup [.str "grow",FQ a]
 | .quarter a=>.tup [.str "quarter",FQ a]
 | .half a=>.tup [.str "half",FQ a]
 | .arc a b c d=>.tup [.str "arc",FQ a,FQ b,FQ c,FQ d]
noncomputable def plB (B:Nat):Pl->Prop
 | .go a=>BQ B a
 | .side a b=>BQ B a/\BQ B b
 | .skip a=>BQ B a
 | .grow a=>BQ B a/\0 < a
 | .quarter a=>BQ B a/\a ≠ 0
 | .half a=>BQ B a/\a ≠ 0
 | .arc a b c d=>BQ B a/\BQ B b/\BQ B c/\BQ B d/\¬ (a = 0/\b = 0)/\¬ (a = c/\b = d)/\gD a b 0 0 = gD a b c d
 | _=>True
inductive Lg where
 | st (x y u v:Rat) | bd (a b c d e f:Rat) (w:Int)
noncomputable def lgD:Lg->D
 | .st x y u v=>.tup [.str "straight",PQ x y,PQ u v]
 | .bd a b c d e f w=>.tup [.str "bend",PQ a b,PQ c d,PQ e f,.int w]
noncomputable def aBw:Pl->Option Lg
 | .go a=>some (.st 0 0 a 0)
 | .side a b=>some (.st 0 0 a b)
 | .dot=>some (.st 0 0 0 0)
 | .quarter a=>if 0 < a then some (.bd 0 a 0 0 a a 1) else some (.bd 0 a 0 0 (-a) a (-1))
 | .half a=>some (.bd 0 a 0 0 0 (a + a) (if 0 < a then 1 else -1))
 | .arc a b c d=>some (.bd a b 0 0 c d 1)
 | _=>none
noncomputable def aFW:Pl->Fm
 | .go a=>⟨a,0,0,1,1⟩
 | .side a b=>⟨a,b,0,1,1⟩
 | .skip a=>⟨a,0,0,1,1⟩
 | .dot=>⟨0,0,0,1,1⟩
 | .left=>⟨0,0,1,1,1⟩
 | .right=>⟨0,0,3,1,1⟩
 | .rnd=>⟨0,0,2,1,1⟩
 | .mirror=>⟨0,0,0,-1,1⟩
 | .grow a=>⟨0,0,0,1,a⟩
 | .quarter a=>if 0 < a then ⟨a,a,1,1,1⟩ else ⟨-a,a,3,1,1⟩
 | .half a=>⟨0,a + a,2,1,1⟩
 | .arc _ _ c d=>⟨c,d,0,1,1⟩
noncomputable def lgO:Option Lg->D
 | none=>.non
 | some l=>lgD l
inductive Rw where
 | pl (p:Pl) | ag (n:Nat) (rs:List Rw) | kp (rs:List Rw) | ev (rs:List Rw)
mutual
noncomputable def rwD:Rw->D
 | .pl p=>plD p
 | .ag n rs=>.tup [.str "again",.int (n:Int),.tup (bG rs)]
 | .kp rs=>.tup [.str "keep",.tup (bG rs)]
 | .ev rs=>.tup [.str "ever",.tup (bG rs)]
noncomputable def bG:List Rw->List D
 | []=>[]
 | r :: rs=>rwD r :: bG rs
end
theorem eG:∀ rs:List Rw,bG rs = rs.map rwD
 | []=>rfl
 | r :: rs=>by rw [bG,eG rs,List.map_cons]
noncomputable def Dp:Nat->Rw->Prop
 | _,.pl _=>True
 | 0,_=>False
 | d + 1,.ag n rs=>(n:Int) < 2 ^ 60/\rs.length<=1000/\∀ r ∈ rs,Dp d r
 | d + 1,.kp rs=>rs.length<=1000/\∀ r ∈ rs,Dp d r
 | d + 1,.ev rs=>rs.length<=1000/\∀ r ∈ rs,Dp d r
noncomputable def DpS:Nat->List Rw->Prop
 | 0,_=>False
 | d + 1,rs=>rs.length<=1000/\∀ r ∈ rs,Dp d r
theorem kN {d n:Nat} {rs:List Rw} (h:Dp d (.ag n rs)):(n:Int) < 2 ^ 60/\DpS d rs:=by
 cases d with
 | zero=>exact h.elim
 | succ d=>exact ⟨h.1,h.2.1,h.2.2⟩
theorem oE {d:Nat} {rs:List Rw} (h:Dp d (.kp rs)):DpS d rs:=by
 cases d with
 | zero=>exact h.elim
 | succ d=>exact h
theorem mJ {d:Nat} {rs:List Rw} (h:Dp d (.ev rs)):DpS d rs:=by
 cases d with
 | zero=>exact h.elim
 | succ d=>exact h
theorem kB:∀ {d d':Nat} {r:Rw},Dp d r->d<=d'->Dp d' r
 | _,0,.pl _,_,_=>trivial
 | _,_ + 1,.pl _,_,_=>trivial
 | 0,_,.ag _ _,h,_=>h.elim
 | 0,_,.kp _,h,_=>h.elim
 | 0,_,.ev _,h,_=>h.elim
 | d + 1,0,_,_,l=>absurd l (by omega)
 | d + 1,d' + 1,.ag n rs,h,l=>⟨h.1,h.2.1,fun r hr=>kB (h.2.2 r hr) (by omega)⟩
 | d + 1,d' + 1,.kp rs,h,l=>⟨h.1,fun r hr=>kB (h.2 r hr) (by omega)⟩
 | d + 1,d' + 1,.ev rs,h,l=>⟨h.1,fun r hr=>kB (h.2 r hr) (by omega)⟩
noncomputable def inR:Rw->D
 | .pl _=>.non
 | .ag _ rs=>.tup (bG rs)
 | .kp rs=>.tup (bG rs)
 | .ev rs=>.tup (bG rs)
mutual
noncomputable def dnR:Rw->Nat
 | .pl _=>1
 | .ag n rs=>dnS rs * n
 | .kp rs=>dnS rs
 | .ev rs=>dnS rs
noncomputable def dnS:List Rw->Nat
 | []=>0
 | r :: rs=>dnR r + dnS rs
end
noncomputable abbrev LR:=Lg × Int × List Int
structure Ed where
 f:Fm
 a:Int
 rd:List Int
 ls:List LR
theorem aZ {Q:DQ} {d:D} {M:DM} (q:Q d M):Dn Q d M:=⟨M,.refl _,q⟩
theorem fP {rs:List Rw} {i:Nat} {d:D} (h:(bG rs)[i]? = some d):∃ r,rs[i]? = some r/\d = rwD r:=by
 rw [eG,List.getElem?_map] at h
 obtain ⟨r,e,z⟩:=Option.map_eq_some_iff.mp h
 exact ⟨r,e,z.symm⟩
theorem cL (rs:List Rw):(bG rs).length = rs.length:=by rw [eG,List.length_map]
theorem eM {α:Type} {rs:List α} {i:Nat} {r:α} (h:rs[i]? = some r):rs.take (i + 1) = rs.take i ++ [r]:=by
 have hl:=(List.getElem?_eq_some_iff.mp h).1
 have e:rs[i] = r:=(List.getElem?_eq_some_iff.mp h).2
 rw [List.take_succ_eq_append_getElem hl,e]
theorem gA:∀ xs ys:List Rw,dnS (xs ++ ys) = dnS xs + dnS ys
 | [],ys=>by rw [List.nil_append,dnS,Nat.zero_add]
 | x :: xs,ys=>by rw [List.cons_append,dnS,dnS,gA xs ys,Nat.add_assoc]
noncomputable def lrD (x:LR):D:=.tup [lgD x.1,.int x.2.1,.tup (x.2.2.map D.int)]
noncomputable def EdR (M M':DM) (d:D) (e:Ed):Prop:=∃ q:Addr,d = .tup [FmD e.f,.int e.a,.tup (e.rd.map D.int),.ref q]/\M q = none/\M' q = some (e.ls.map lrD)
structure aDY (M M':DM) (ps pe:Addr) (L Es:List D) (ls:List LR) (es:List Ed):Prop where
 s:M' ps = some (L ++ ls.map lrD)
 e:∃ Es',M' pe = some (Es ++ Es')/\Paired (EdR M M') Es' es
 o:∀ k:AK,k ≠ .l ps->k ≠ .l pe->∀ o,M k = some o->M' k = some o
theorem aDJ {α β:Type} {F:α->β->Prop}:∀ {l₁:List α} {l₂:List β} {m₁:List α} {m₂:List β},Paired F l₁ l₂->Paired F m₁ m₂->Paired F (l₁ ++ m₁) (l₂ ++ m₂)
 | _,_,_,_,.nil,h=>h
 | _,_,_,_,.cons h₁ t,h=>.cons h₁ (aDJ t h)
theorem aDY.trans {M M1 M2:DM} {ps pe:Addr} {L Es Es1:List D} {ls ls2:List LR} {es es2:List Ed} (a1:M ps = some L) (a2:M pe = some Es) (h:aDY M M1 ps pe L Es ls es) (e1:M1 pe = some Es1) (h2:aDY M1 M2 ps pe (L ++ ls.map lrD) Es1 ls2 es2):aDY M M2 ps pe L Es (ls ++ ls2) (es ++ es2):=by
 obtain ⟨Es',e,pr⟩:=h.e
 obtain ⟨Es2,e2,pr2⟩:=h2.e
 have eq:Es1 = Es ++ Es':=by rw [e] at e1;exact (Option.some.inj e1).symm
 subst eq
 refine ⟨by rw [List.map_append,<- List.append_assoc];exact h2.s,⟨Es' ++ Es2,by rw [<- List.append_assoc];exact e2,?_⟩,fun k n1 n2 o q=>h2.o k n1 n2 o (h.o k n1 n2 o q)⟩
 refine aDJ (Paired.mapP pr fun d x ⟨q,z,f,l⟩=>⟨q,z,f,?_⟩) (Paired.mapP pr2 fun d x ⟨q,z,f,l⟩=>⟨q,z,?_,l⟩)
 ·have n1:(AK.l q) ≠ .l ps:=fun z=>by rw [z,a1] at f;cases f
  have n2:(AK.l q) ≠ .l pe:=fun z=>by rw [z,a2] at f;cases f
  exact h2.o _ n1 n2 _ l
 ·cases c:M q with
  | none=>rfl
  | some o =>
   have n1:(AK.l q) ≠ .l ps:=fun z=>by rw [z,h.s] at f;cases f
   have n2:(AK.l q) ≠ .l pe:=fun z=>by rw [z,e] at f;cases f
   have:=h.o _ n1 n2 _ c
   rw [f] at this;cases this
noncomputable def lY:DSp:=fun ds M Q=>∃ (p r:Rat) (m n:Nat),ds = [FQ p,FQ r]/\(p ≠ 0/\r ≠ 0)/\BQ m p/\BQ n r/\(m<=4400 ∨ n<=4400)/\m + n<=1000000/\Q (FQ (p * r)) M
theorem aDi {p:Rat} (h:p ≠ 0):p.num ≠ 0:=fun z=>h (Rat.num_eq_zero.mp z)
theorem aEZ (hF:bX K mg "times" wM ["one","other"]) (bB:Has P w K mg base 101 "greatest_divisor" ["one","other"] dS):Has P w K mg base 102 "times" ["one","other"] lY:=by
 refine Has.mkZ hF mO (fun ds M Q ⟨_,_,_,_,z,_⟩=>by rw [z];rfl) fun f cdv A outer s H ds M Q E hr h=>?_
 obtain ⟨p,r,m,n,rfl,⟨p0,r0'⟩,h1,h2,sm,l,q⟩:=h
 refine ⟨_,(aF (aO (i:=2) mO.nd (aG bB hr (by decide) (aA (aH (aB 0) aC) (aA (aH (aB 1) aC) aD))))
  (aF (aO (i:=3) mO.nd (aG bB hr (by decide) (aA (aH (aB 1) aC) (aA (aH (aB 0) aC) aD))))
  (aE (aM (aR (aA (aL bL (aL dH (aH (aB 0) aC) (aB 2)) (aL dH (aH (aB 1) aC) (aB 3))) (aA (aL bL (aL dH (aH (aB 0) aC) (aB 3)) (aL dH (aH (aB 1) aC) (aB 2))) aD))))))),?_⟩
 obtain ⟨f0,r0,fd,rd,e1,e2⟩:=aMi p r _ _ rfl rfl
 have fl:(Int.gcd p.num r.den:Int) ∣ p.num:=Int.gcd_dvd_left _ _
 have rl:(Int.gcd r.num p.den:Int) ∣ r.num:=Int.gcd_dvd_left _ _
 have cf:∀ x,CFd x (Int.gcd p.num r.den:Int):=fun x=>by
  rcases sm with z | z
  ·exact wC h1.1 (by omega) fl (aDi p0) f0
  ·exact wC h2.2 (by omega) fd (eI r) f0
 have cr:∀ x,CFd x (Int.gcd r.num p.den:Int):=fun x=>by
  rcases sm with z | z
  ·exact wC h1.2 (by omega) rd (eI p) r0
  ·exact wC h2.1 (by omega) rl (aDi r0') r0
 refine ⟨_,_,rfl,_,_,rfl,cf _,cr _,dA (h1.1.fdiv fl) (h2.1.fdiv rl) (by omega),cr _,cf _,dA (h1.2.fdiv rd) (h2.2.fdiv fd) (by omega),by show (2:Nat)<=1000;decide,M,.refl _,?_⟩
 have q':Q (.tup [.int (p * r).num,.int ((p * r).den:Int)]) M:=q
 rw [<- e1,<- e2] at q'
 exact q'
noncomputable def qR:DSp:=fun ds M Q=>∃ t b:Int,ds = [.int t,.int b]/\0 < b/\Bd 8999 (Int.gcd t b:Int)/\Q (FQ ((t:Rat) / (b:Rat))) M
theorem aAa (hF:bX K mg "_law_ratio" lC ["_law_top","_law_bottom"]) (mC:mg "abs" = none):Has P w K mg base 101 "_law_ratio" ["_law_top","_law_bottom"] qR:=by
 refine Has.mkZ hF gC (fun ds M Q ⟨a,b,e,_⟩=>by rw [e];rfl) fun f cdv A outer s H ds M Q E hr h=>?_
 obtain ⟨t,b,rfl,hb,hB,q⟩:=h
 refine ⟨_,(aF (qI (i:=2) (j:=3) rfl gC.nd (aA (cD yU mC (aA (aB 0) aD)) (aA (aB 1) aD)))
  (aF (kF PassesOwn.never (aP iD (aB 3) aC) (aE (qI (i:=2) (j:=3) rfl gC.nd (aA (aB 3) (aA (aL dU (aB 2) (aB 3)) aD)))))
  (aE (aM (aR (aA (aL dH (aB 0) (aB 2)) (aA (aL dH (aB 1) (aB 2)) aD))))))),?_⟩
 have hb0:b ≠ 0:=by omega
 refine kE (fun m ρ M'=>M' = M/\∃ x y:Int,ρ = [some (.int t),some (.int b),some (.int x),some (.int y)]/\m = y.natAbs/\0<=x/\0<=y/\Int.gcd x y = Int.gcd t b) _ ⟨rfl,_,_,rfl,rfl,by split<;>omega,by omega,by
  split<;>simp [Int.neg_gcd]⟩ ?_
 rintro m ρ M' ⟨rfl,x,y,rfl,rfl,hx,hy,g⟩
 decreasing_tactic
 refine dif (fun c=>?_) (fun c=>?_)
 ·have hy':y ≠ 0:=by omega
  exact ⟨hy',_,aAU hy',rfl,y,x.fmod y,rfl,rfl,hy,Int.fmod_nonneg_of_pos _ (by omega),(xU x y).trans g⟩
 ·have hy':y = 0:=by omega
  subst hy'
  have e:x = (Int.gcd t b:Int):=by rw [<- g,Int.gcd_zero_right];omega
  have fin:Q (.tup [.int (fT t b),.int (fB t b)]) M':=by rw [aDZ hb0];exact q
  unfold fT fB at fin
  have s1:=aJo (t:=t) hb0
  have s2:x.natAbs.log2 < 8999:=by rw [e];exact hB.log (by decide)
  unfold sg at fin s1
  rw [if_neg (by omega),<- e] at fin s1
  exact ⟨⟨s1,Nat.lt_succ_of_lt s2⟩,⟨s1,Nat.lt_succ_of_lt s2⟩,by decide,M',.refl _,fin⟩
theorem aES (p r:Rat):Int.gcd (p.num * r.num) ((p.den:Int) * (r.den:Int)) ∣ r.den * r.num.natAbs:=by
 have h1:Nat.gcd p.num.natAbs p.den = 1:=p.reduced
 have h2:Nat.gcd r.num.natAbs r.den = 1:=r.reduced
 have e:Int.gcd (p.num * r.num) ((p.den:Int) * (r.den:Int)) = Nat.gcd (p.num.natAbs * r.num.natAbs) (p.den * r.den):=by
  rw [Int.gcd_eq_natAbs_gcd_natAbs,Int.natAbs_mul,Int.natAbs_mul,Int.natAbs_natCast,Int.natAbs_natCast]
 rw [e]
 have k1:Nat.gcd (p.num.natAbs * r.num.natAbs) (p.den * r.den) ∣ Nat.gcd (p.num.natAbs * r.num.natAbs) p.den * Nat.gcd (p.num.natAbs * r.num.natAbs) r.den:=Nat.gcd_mul_right_dvd_mul_gcd _ _ _
 refine Nat.dvd_trans k1 ?_
 rw [Nat.mul_comm r.den]
 refine Nat.mul_dvd_mul ?_ (Nat.gcd_dvd_right _ _)
 have g1:=Nat.gcd_dvd_left (p.num.natAbs * r.num.natAbs) p.den
 have g2:=Nat.gcd_dvd_right (p.num.natAbs * r.num.natAbs) p.den
 have co:Nat.Coprime (Nat.gcd (p.num.natAbs * r.num.natAbs) p.den) p.num.natAbs:=Nat.Coprime.coprime_dvd_left g2 (Nat.Coprime.symm h1)
 exact co.dvd_of_dvd_mul_left g1
theorem aFf {p r:Rat} {n:Nat} (h:BQ n r) (r0:r ≠ 0) (l:n + n<=8999):Bd 8999 (Int.gcd (p.num * r.num) ((p.den:Int) * (r.den:Int)):Int):=by
 have rp:0 < r.num.natAbs:=Int.natAbs_pos.mpr (aDi r0)
 have le:=Nat.le_of_dvd (Nat.mul_pos r.den_pos rp) (aES p r)
 have b:Bd (n + n) ((r.den:Int) * r.num):=h.2.mul h.1
 refine Bd.mono ?_ l
 show (Int.gcd (p.num * r.num) ((p.den:Int) * (r.den:Int)):Int).natAbs < 2 ^ (n + n)
 have b:((r.den:Int) * r.num).natAbs < 2 ^ (n + n):=b
 rw [Int.natAbs_mul,Int.natAbs_natCast] at b
 rw [Int.natAbs_natCast]
 omega
theorem zU (hF:bX K mg "_law_times" kY ["_law_one","_law_other"]) (w_law_ratio:Has P w K mg base 101 "_law_ratio" ["_law_top","_law_bottom"] qR):Has P w K mg base 102 "_law_times" ["_law_one","_law_other"] lY:=by
 refine Has.mkZ hF sY (fun ds M Q ⟨_,_,_,_,z,_⟩=>by rw [z];rfl) fun f cdv A outer s H ds M Q E hr h=>?_
 obtain ⟨p,r,m,n,rfl,⟨p0,r0⟩,h1,h2,sm,l,q⟩:=h
 have bV:=w_law_ratio
 refine ⟨_,(aE (aM (aG bV hr (by decide) (aA (aL bL (aH (aB 0) aC) (aH (aB 1) aC)) (aA (aL bL (aH (aB 0) aC) (aH (aB 1) aC)) aD))))),?_⟩
 decreasing_tactic
 refine ⟨dA h1.1 h2.1 (by omega),dA h1.2 h2.2 (by omega),_,_,rfl,Int.mul_pos (den_pos p) (den_pos r),?_,M,.refl _,by rw [aKj];exact q⟩
 rcases sm with z | z
 ·have:=aFf (p:=r) h1 p0 (by omega)
  rw [Int.mul_comm r.num,Int.mul_comm (r.den:Int)] at this
  exact this
 ·exact aFf h2 r0 (by omega)
noncomputable def rY (M:DM) (x:D) (rs:List Rw):Prop:=x = .tup (bG rs) ∨ ∃ a:Addr,x = .ref a/\M a = some (bG rs)
theorem qJ {i:Nat} {x:D} {rs:List Rw} {g:DG} {tb:DS} {E:iV} {ρ:cV} {M:DM} (h:ρ[i]? = some (some x)) (ra:rY M x rs) (q:∀ at':Option Addr,(∀ a,at' = some a->M a = some (bG rs))->dIt at' (bG rs) g tb E ρ M):aBQ (aAP i) g tb E ρ M:=by
 rcases ra with rfl | ⟨a,rfl,ha⟩
 ·exact aFr h (q none fun a e=>by cases e)
 ·exact aFB h ha (q (some a) fun b e=>by cases e;exact ha)
theorem aHs (p:Pl):∃ w dF,plD p = .tup (.str w :: dF)/\w ≠ "again"/\w ≠ "keep"/\w ≠ "ever":=by
 cases p<;>exact ⟨_,_,rfl,by decide,by decide,by decide⟩
theorem qQ {d:D} {r:List D}:atI (d :: r) 0 = some d:=by
 unfold atI ixN
 rw [if_pos (by decide),if_pos (by rw [List.length_cons];omega)]
 rfl
noncomputable def iC (d:Nat):DSp:=fun ds M Q=>∃ x rs,ds = [x]/\rY M x rs/\DpS d rs/\Q (.int (dnS rs:Int)) M
noncomputable abbrev rQ:Stmt:=top 88
theorem fY:aQ ["_law_rows","_law_many","_law_row_here"] ["_law_rows"] (aJ rQ):=⟨rfl,rfl,rfl,by decide +kernel,rfl,by decide +kernel,by decide +kernel⟩
theorem aBr (hF:bX K mg "_law_done" rQ ["_law_rows"]):Has P w K mg base 118 "_law_done" ["_law_rows"] (iC 8):=by
 have all:∀ d,Has P w K mg base (110 + d) "_law_done" ["_law_rows"] (iC d):=fun d=>by
  induction d with
  | zero=>exact (Has.never hF fY 109).imp fun ds M Q ⟨_,rs,_,_,z,_⟩=>z
  | succ d cW =>
   refine Has.mkZ (k:=110 + d) hF fY (fun ds M Q ⟨a,_,z,_⟩=>by rw [z];rfl) fun f cdv A outer s H ds M Q E hr h=>?_
   obtain ⟨x,rs,rfl,ra,dp,q⟩:=h
   refine ⟨_,(aF (aO (i:=1) fY.nd aC)
  (aF (tQ PassesOwn.never rfl (aB 0) (aV (i:=2) fY.nd) (aE (aX (aP (bZ hr) (aH (aB 2) aC) aN) (aE (aO (i:=1) fY.nd (aL cU (aB 1) (aL bL (aH (aB 2) aC) (aG cW hr (by omega) (aA (aH (aB 2) aC) aD)))))) (aE (aX (aP vT (aH (aB 2) aC) (bR (aA aN (aA aN aD))) rfl) (aE (aO (i:=1) fY.nd (aL cU (aB 1) (aG cW hr (by omega) (aA (aH (aB 2) aC) aD))))) (aE (aO (i:=1) fY.nd (aL cU (aB 1) aC))))))))
  (aE (aM (aB 1))))),?_⟩
   decreasing_tactic
   refine qJ rfl ra fun at' hat=>?_
   refine ⟨fun i ρ M'=>aW M M'/\∃ o1,ρ = [some x,some (.int (dnS (rs.take i):Int)),o1],⟨.refl _,_,rfl⟩,fun i ρ M' _ h a e=>h.1 _ _ (hat a e),?_,?_⟩
   ·rintro i d1 ρ M1 hd ⟨sub,o1,rfl⟩
    obtain ⟨r,hr',rfl⟩:=fP hd
    have dr:=dp.2 r (List.mem_of_getElem? hr')
    decreasing_tactic
    have fin:dnS (rs.take (i + 1)) = dnS (rs.take i) + dnR r:=by rw [eM hr',gA,dnS,dnS,Nat.add_zero]
    rw [fin]
    cases r with
    | pl p =>
     obtain ⟨w0,dF,e,w1,w2,w3⟩:=aHs p
     dsimp only [dnR,rwD]
     rw [e]
     decreasing_tactic
     rw [qQ]
     decreasing_tactic
     rw [aK]
     refine ifF (decide_eq_false w1) ⟨by decide,fun a ha=>⟨["keep","ever"],aI,ifF (by simp [Ne.symm w2,Ne.symm w3]) ?_⟩⟩
     exact ⟨sub.trans (aW.new ha _),_,rfl⟩
    | ag n ws =>
     obtain ⟨hn,dw⟩:=kN dr
     dsimp only [dnR,rwD]
     decreasing_tactic
     rw [aK]
     refine ifT (by decide) ⟨_,ws,rfl,.inl rfl,dw,oZ (by unfold Bd;omega),?_⟩
     rw [Int.natCast_add,Int.natCast_mul,Int.mul_comm (dnS ws:Int)]
     exact ⟨sub,_,rfl⟩
    | kp ws =>
     have dw:=oE dr
     dsimp only [dnR,rwD]
     decreasing_tactic
     rw [aK]
     refine ifF (by decide) ⟨by decide,fun a ha=>⟨["keep","ever"],aI,ifT (by decide) ⟨_,ws,rfl,.inl rfl,dw,?_⟩⟩⟩
     exact ⟨sub.trans (aW.new ha _),_,rfl⟩
    | ev ws =>
     have dw:=mJ dr
     dsimp only [dnR,rwD]
     decreasing_tactic
     rw [aK]
     refine ifF (by decide) ⟨by decide,fun a ha=>⟨["keep","ever"],aI,ifT (by decide) ⟨_,ws,rfl,.inl rfl,dw,?_⟩⟩⟩
     exact ⟨sub.trans (aW.new ha _),_,rfl⟩
   ·rintro ρ M' ⟨sub,o1,rfl⟩
    rw [cL,List.take_length]
    exact ⟨M,sub,q⟩
 exact all 8
mutual
noncomputable def drR:Rw->Bool
 | .pl p=>(aBw p).isSome
 | .ag n rs=>n != 0 && drS rs
 | .kp rs=>drS rs
 | .ev rs=>drS rs
noncomputable def drS:List Rw->Bool
 | []=>false
 | r :: rs=>drR r || drS rs
end
theorem aDM:∀ xs ys:List Rw,drS (xs ++ ys) = (drS xs || drS ys)
 | [],ys=>by rw [List.nil_append,drS,Bool.false_or]
 | x :: xs,ys=>by rw [List.cons_append,drS,drS,aDM xs ys,Bool.or_assoc]
theorem aH0 (p:Pl) (n:Nat):bM (n + 3) (plD p) = true:=by cases p<;>rfl
theorem wG:∀ (d:Nat) (r:Rw) (k:Nat),Dp d r->bM (k + 2 * d + 3) (rwD r) = true
 | _,.pl p,k,_=>by rw [rwD];exact aH0 p _
 | d + 1,.ag n ws,k,h=>by
  have hw:∀ x ∈ bG ws,bM (k + 2 * d + 3) x = true:=fun x hx=>by
   rw [eG] at hx
   obtain ⟨r,hr,rfl⟩:=List.mem_map.mp hx
   exact wG d r k (h.2.2 r hr)
  rw [rwD,show k + 2 * (d + 1) + 3 = (k + 2 * d + 3) + 1 + 1 by omega]
  show ([D.str "again",.int (n:Int),.tup (bG ws)].all (bM (k + 2 * d + 3 + 1))) = true
  rw [List.all_cons,List.all_cons,List.all_cons]
  show (true && (true && (((bG ws).all (bM (k + 2 * d + 3))) && true))) = true
  rw [List.all_eq_true.mpr hw];rfl
 | d + 1,.kp ws,k,h=>by
  have hw:∀ x ∈ bG ws,bM (k + 2 * d + 3) x = true:=fun x hx=>by
   rw [eG] at hx
   obtain ⟨r,hr,rfl⟩:=List.mem_map.mp hx
   exact wG d r k (h.2 r hr)
  rw [rwD,show k + 2 * (d + 1) + 3 = (k + 2 * d + 3) + 1 + 1 by omega]
  show ([D.str "keep",.tup (bG ws)].all (bM (k + 2 * d + 3 + 1))) = true
  rw [List.all_cons,List.all_cons]
  show (true && (((bG ws).all (bM (k + 2 * d + 3))) && true)) = true
  rw [List.all_eq_true.mpr hw];rfl
 | d + 1,.ev ws,k,h=>by
  have hw:∀ x ∈ bG ws,bM (k + 2 * d + 3) x = true:=fun x hx=>by
   rw [eG] at hx
   obtain ⟨r,hr,rfl⟩:=List.mem_map.mp hx
   exact wG d r k (h.2 r hr)
  rw [rwD,show k + 2 * (d + 1) + 3 = (k + 2 * d + 3) + 1 + 1 by omega]
  show ([D.str "ever",.tup (bG ws)].all (bM (k + 2 * d + 3 + 1))) = true
  rw [List.all_cons,List.all_cons]
  show (true && (((bG ws).all (bM (k + 2 * d + 3))) && true)) = true
  rw [List.all_eq_true.mpr hw];rfl
theorem xI {d:Nat} {ws:List Rw} (h:DpS d ws) (l:d<=9):bM 60 (.tup (bG ws)) = true:=by
 cases d with
 | zero=>exact h.elim
 | succ d =>
  show (bG ws).all (bM 59) = true
  rw [List.all_eq_true]
  intro x hx
  rw [eG] at hx
  obtain ⟨r,hr,rfl⟩:=List.mem_map.mp hx
  have:=wG d r (56 - 2 * d) (h.2 r hr)
  rw [show 56 - 2 * d + 2 * d + 3 = 59 by omega] at this
  exact this
theorem aF5 (p:Pl):∃ w dF,plD p = .tup (.str w :: dF)/\(w ≠ "again"/\w ≠ "keep"/\w ≠ "ever")/\id ((["go","side","dot","quarter","half","arc"]:List Str).any fun x=>x == w) = (aBw p).isSome:=by
 cases p with
 | quarter a=>exact ⟨_,_,rfl,by decide,by dsimp only [aBw];split<;>rfl⟩
 | _=>exact ⟨_,_,rfl,by decide,by first | rfl | (dsimp only [aBw];decide)⟩
theorem aG5 {w:Str} (h:w ≠ "again"/\w ≠ "keep"/\w ≠ "ever"):id ((["again","keep","ever"]:List Str).any fun x=>x == w) = false:=by
 simp [Ne.symm h.1,Ne.symm h.2.1,Ne.symm h.2.2]
noncomputable def iK (d:Nat):DSp:=fun ds M Q=>∃ x rs,ds = [x]/\rY M x rs/\DpS d rs/\Q (.bl (drS rs)) M
noncomputable abbrev oK:Stmt:=top 86
theorem gE:aQ ["_law_rows","_law_many","_law_row_here"] ["_law_rows"] (aJ oK):=⟨rfl,rfl,rfl,by decide +kernel,rfl,by decide +kernel,by decide +kernel⟩
theorem zZ (hF:bX K mg "_law_draws" oK ["_law_rows"]):Has P w K mg base 118 "_law_draws" ["_law_rows"] (iK 8):=by
 have all:∀ d,d<=8->Has P w K mg base (110 + d) "_law_draws" ["_law_rows"] (iK d):=fun d=>by
  induction d with
  | zero=>exact fun _=>(Has.never hF gE 109).imp fun ds M Q ⟨_,rs,_,_,z,_⟩=>z
  | succ d ih =>
   intro ld
   have dM:=ih (by omega)
   refine Has.mkZ (k:=110 + d) hF gE (fun ds M Q ⟨a,_,z,_⟩=>by rw [z];rfl) fun f cdv A outer s H ds M Q E hr h=>?_
   obtain ⟨x,rs,rfl,ra,dp,q⟩:=h
   refine ⟨_,(aF (aO (i:=1) gE.nd aC)
  (aF (tQ PassesOwn.never rfl (aB 0) (aV (i:=2) gE.nd) (aF (aX (aP vT (aH (aB 2) aC) (bR (aA aN (aA aN (aA aN (aA aN (aA aN (aA aN aD))))))) rfl) (aE (aO (i:=1) gE.nd (aL cU (aB 1) aC))) aT)
  (aE (aX (fA (fF (aP vT (aH (aB 2) aC) (bR (aA aN (aA aN (aA aN aD)))) rfl) (fF (aP (mE hr) (aH (aB 2) aC) aC) (eN (cX (aG dM hr (by omega) (aA (aH (aB 2) (eL aC)) aD))))))) (aE (aO (i:=1) gE.nd (aL cU (aB 1) aC))) aT))))
  (aE (aM (cS iD (aB 1) aC))))),?_⟩
   decreasing_tactic
   refine qJ rfl ra fun at' hat=>?_
   refine ⟨fun i ρ M'=>aW M M'/\∃ (c:Nat) (o1:Option D),(0 < c ↔ drS (rs.take i) = true)/\ρ = [some x,some (.int (c:Int)),o1],⟨.refl _,0,_,by rw [List.take_zero,drS];simp,rfl⟩,fun i ρ M' _ h a e=>h.1 _ _ (hat a e),?_,?_⟩
   ·rintro i d1 ρ M1 hd ⟨sub,c,o1,hc,rfl⟩
    obtain ⟨r,hr',rfl⟩:=fP hd
    have dr:=dp.2 r (List.mem_of_getElem? hr')
    decreasing_tactic
    have fin:drS (rs.take (i + 1)) = (drS (rs.take i) || drR r):=by rw [eM hr',aDM,drS,drS,Bool.or_false]
    rw [fin]
    cases r with
    | pl p =>
     obtain ⟨w0,dF,e,wb,wl⟩:=aF5 p
     dsimp only [drR,rwD]
     rw [e]
     decreasing_tactic
     rw [qQ]
     decreasing_tactic
     refine ⟨by decide,fun a ha=>⟨["go","side","dot","quarter","half","arc"],aI,?_⟩⟩
     rw [wl]
     have s1:=sub.trans (aW.new ha [D.str "go",.str "side",.str "dot",.str "quarter",.str "half",.str "arc"])
     generalize bC M1 a _ = M2 at s1 ⊢
     cases hg:(aBw p).isSome with
     | true =>
      refine ifT rfl ⟨by decide,fun a2 ha2=>⟨["again","keep","ever"],aI,ifF (aG5 wb) ?_⟩⟩
      exact ⟨s1.trans (aW.new ha2 _),c + 1,_,by simp,rfl⟩
     | false =>
      refine ifF rfl ⟨by decide,fun a2 ha2=>⟨["again","keep","ever"],aI,ifF (aG5 wb) ?_⟩⟩
      exact ⟨s1.trans (aW.new ha2 _),c,_,by simpa using hc,rfl⟩
    | ag n ws =>
     have dw:=(kN dr).2
     dsimp only [drR,rwD]
     decreasing_tactic
     refine ⟨by decide,fun a ha=>⟨["go","side","dot","quarter","half","arc"],aI,ifF (by decide) ?_⟩⟩
     have s1:=sub.trans (aW.new ha [D.str "go",.str "side",.str "dot",.str "quarter",.str "half",.str "arc"])
     generalize bC M1 a _ = M2 at s1 ⊢
     refine ⟨by decide,fun a2 ha2=>⟨["again","keep","ever"],aI,ifT (by decide) ?_⟩⟩
     have s2:=s1.trans (aW.new ha2 [D.str "again",.str "keep",.str "ever"])
     generalize bC M2 a2 _ = M3 at s2 ⊢
     rw [cK]
     by_cases n0:n = 0
     ·subst n0
      refine ifF rfl (ifF rfl ⟨s2,c,_,by simpa using hc,rfl⟩)
     ·refine ifT (by rw [decide_eq_false (by omega)];rfl) ⟨_,ws,rfl,.inl rfl,dw,?_⟩
      cases hg:drS ws with
      | true=>exact ifT rfl ⟨s2,c + 1,_,by simp [n0],rfl⟩
      | false=>exact ifF rfl ⟨s2,c,_,by simpa using hc,rfl⟩
    | kp ws =>
     have dw:=oE dr
     dsimp only [drR,rwD]
     decreasing_tactic
     refine ⟨by decide,fun a ha=>⟨["go","side","dot","quarter","half","arc"],aI,ifF (by decide) ?_⟩⟩
     have s1:=sub.trans (aW.new ha [D.str "go",.str "side",.str "dot",.str "quarter",.str "half",.str "arc"])
     generalize bC M1 a _ = M2 at s1 ⊢
     refine ⟨by decide,fun a2 ha2=>⟨["again","keep","ever"],aI,ifT (by decide) ?_⟩⟩
     have s2:=s1.trans (aW.new ha2 [D.str "again",.str "keep",.str "ever"])
     generalize bC M2 a2 _ = M3 at s2 ⊢
     refine ⟨xI dw (by omega),rfl,?_⟩
     refine ifT rfl ⟨_,ws,rfl,.inl rfl,dw,?_⟩
     cases hg:drS ws with
     | true=>exact ifT rfl ⟨s2,c + 1,_,by simp,rfl⟩
     | false=>exact ifF rfl ⟨s2,c,_,by simpa using hc,rfl⟩
    | ev ws =>
     have dw:=mJ dr
     dsimp only [drR,rwD]
     decreasing_tactic
     refine ⟨by decide,fun a ha=>⟨["go","side","dot","quarter","half","arc"],aI,ifF (by decide) ?_⟩⟩
     have s1:=sub.trans (aW.new ha [D.str "go",.str "side",.str "dot",.str "quarter",.str "half",.str "arc"])
     generalize bC M1 a _ = M2 at s1 ⊢
     refine ⟨by decide,fun a2 ha2=>⟨["again","keep","ever"],aI,ifT (by decide) ?_⟩⟩
     have s2:=s1.trans (aW.new ha2 [D.str "again",.str "keep",.str "ever"])
     generalize bC M2 a2 _ = M3 at s2 ⊢
     refine ⟨xI dw (by omega),rfl,?_⟩
     refine ifT rfl ⟨_,ws,rfl,.inl rfl,dw,?_⟩
     cases hg:drS ws with
     | true=>exact ifT rfl ⟨s2,c + 1,_,by simp,rfl⟩
     | false=>exact ifF rfl ⟨s2,c,_,by simpa using hc,rfl⟩
   ·rintro ρ M' ⟨sub,c,o1,hc,rfl⟩
    rw [cL,List.take_length] at hc
    decreasing_tactic
    have e:decide ((0:Int) < (c:Int)) = drS rs:=by
     cases hg:drS rs with
     | true=>exact decide_eq_true (by have:=hc.mpr hg;omega)
     | false=>exact decide_eq_false fun z=>by rw [hc.mp (by omega)] at hg;cases hg
    rw [e]
    exact ⟨M,sub,q⟩
 exact all 8 (by decide)
noncomputable def Sz (k:Nat) (x:Rat):Prop:=∃ t b:Nat,(0 < t/\t<=12 ^ k)/\(0 < b/\b<=12 ^ k)/\x * (b:Rat) = (t:Rat)
theorem Sz.one:Sz 0 1:=⟨1,1,by decide,by decide,Rat.one_mul _⟩
theorem Sz.mul {j k:Nat} {x y:Rat} (h:Sz j x) (h2:Sz k y):Sz (j + k) (x * y):=by
 obtain ⟨t,b,⟨t0,t1⟩,⟨b0,b1⟩,e⟩:=h
 obtain ⟨u,c,⟨u0,u1⟩,⟨c0,c1⟩,e2⟩:=h2
 refine ⟨t * u,b * c,⟨Nat.mul_pos t0 u0,?_⟩,⟨Nat.mul_pos b0 c0,?_⟩,?_⟩
 ·rw [Nat.pow_add];exact Nat.mul_le_mul t1 u1
 ·rw [Nat.pow_add];exact Nat.mul_le_mul b1 c1
 ·rw [Rat.natCast_mul,Rat.natCast_mul,<- e,<- e2];grind
theorem Sz.mono {j k:Nat} {x:Rat} (h:Sz j x) (l:j<=k):Sz k x:=by
 obtain ⟨t,b,⟨t0,t1⟩,⟨b0,b1⟩,e⟩:=h
 have:=Nat.pow_le_pow_right (n:=12) (by decide) l
 exact ⟨t,b,⟨t0,by omega⟩,⟨b0,by omega⟩,e⟩
theorem Sz.pow {j:Nat} {x:Rat} (h:Sz j x):∀ n,Sz (j * n) (x ^ n)
 | 0=>by rw [Rat.pow_zero];exact Sz.one
 | n + 1=>by rw [Rat.pow_succ,Nat.mul_succ];exact (h.pow n).mul h
theorem Sz.bq {k:Nat} {x:Rat} (h:Sz k x):BQ (4 * k + 1) x:=by
 obtain ⟨t,b,⟨t0,t1⟩,⟨b0,b1⟩,e⟩:=h
 have p1:12 ^ k<=16 ^ k:=Nat.pow_le_pow_left (by decide) k
 have p2:16 ^ k = 2 ^ (4 * k):=by rw [Nat.pow_mul]
 have p3:2 ^ (4 * k) < 2 ^ (4 * k + 1):=Nat.pow_lt_pow_right (by decide) (by omega)
 have n0:((b:Int):Rat) ≠ 0:=by
  have:=aCe (show (0:Int) < (b:Int) by omega)
  grind
 have es:x = ((t:Int):Rat) / ((b:Int):Rat):=by
  simp only [Rat.intCast_natCast] at n0 ⊢
  grind
 rw [es]
 exact .make (by omega) (by unfold Bd;show t < _;omega) (by unfold Bd;show b < _;omega)
mutual
noncomputable def szR:Rw->Rat
 | .pl (.grow a)=>a
 | .pl _=>1
 | .ag n rs=>szS rs ^ n
 | .kp _=>1
 | .ev _=>1
noncomputable def szS:List Rw->Rat
 | []=>1
 | r :: rs=>szR r * szS rs
end
theorem wJ:∀ xs ys:List Rw,szS (xs ++ ys) = szS xs * szS ys
 | [],ys=>by rw [List.nil_append,szS,Rat.one_mul]
 | x :: xs,ys=>by rw [List.cons_append,szS,szS,wJ xs ys,Rat.mul_assoc]
mutual
noncomputable def gwR (N:Nat):Rw->Prop
 | .pl (.grow a)=>Sz 1 a
 | .pl _=>True
 | .ag _ rs=>dnS rs<=N/\gwS N rs
 | .kp rs=>dnS rs<=N/\gwS N rs
 | .ev rs=>(1<=dnS rs/\dnS rs<=N)/\gwS N rs
noncomputable def gwS (N:Nat):List Rw->Prop
 | []=>True
 | r :: rs=>gwR N r/\gwS N rs
end
theorem aDK {N:Nat}:∀ {rs:List Rw} {r:Rw},gwS N rs->r ∈ rs->gwR N r
 | x :: xs,r,h,m=>by
  rw [gwS] at h
  rcases List.mem_cons.mp m with rfl | z
  ·exact h.1
  ·exact aDK h.2 z
theorem jE {N:Nat}:∀ {xs ys:List Rw},gwS N (xs ++ ys) ↔ gwS N xs/\gwS N ys
 | [],ys=>by rw [List.nil_append,gwS];simp
 | x :: xs,ys=>by rw [List.cons_append,gwS,gwS,jE,and_assoc]
mutual
theorem aGa {N:Nat}:∀ r:Rw,gwR N r->Sz (dnR r) (szR r)
 | .pl p,h=>by
  cases p with
  | grow a=>rw [gwR] at h;rw [dnR,szR];exact h
  | _ =>
      rw [dnR,szR];· exact Sz.one.mono (by decide)
      all_goals (intro _ z;cases z)
 | .ag n rs,h=>by rw [gwR] at h;rw [dnR,szR];exact (aBt rs h.2).pow n
 | .kp rs,h=>by rw [szR];exact Sz.one.mono (Nat.zero_le _)
 | .ev rs,h=>by rw [szR];exact Sz.one.mono (Nat.zero_le _)
theorem aBt {N:Nat}:∀ rs:List Rw,gwS N rs->Sz (dnS rs) (szS rs)
 | [],_=>by rw [dnS,szS];exact Sz.one
 | r :: rs,h=>by rw [gwS] at h;rw [dnS,szS];exact (aGa r h.1).mul (aBt rs h.2)
end
theorem aBi (p:Pl):(∃ a,p = .grow a) ∨ ∃ w dF,plD p = .tup (.str w :: dF)/\w ≠ "grow"/\w ≠ "again"/\szR (.pl p) = 1:=by
 cases p with
 | grow a=>exact .inl ⟨a,rfl⟩
 | _=>refine .inr ⟨_,_,rfl,by decide,by decide,?_⟩;rw [szR];intro _ z;cases z
noncomputable def pP (d:Nat):DSp:=fun ds M Q=>∃ x rs,ds = [x]/\rY M x rs/\DpS d rs/\dnS rs<=704/\gwS 704 rs/\Q (FQ (szS rs)) M
theorem aJn {p r:Rat} {j k:Nat} {M:DM} {Q:DQ} (h1:Sz j p) (h2:Sz k r) (l:j + k<=2200) (q:Q (FQ (p * r)) M):iH [FQ p,FQ r] M Q:=⟨_,_,_,_,rfl,trivial,h1.bq,h2.bq,by omega,q⟩
noncomputable abbrev nM:Stmt:=top 85
theorem cF:aQ ["_law_rows","_law_size_here","_law_row_here","_law_once","_law_turn"] ["_law_rows"] (aJ nM):=⟨rfl,rfl,rfl,by decide +kernel,rfl,by decide +kernel,by decide +kernel⟩
theorem aA7 (hF:bX K mg "_law_size" nM ["_law_rows"]) (jV:mg "range" = none) (cE:Has P w K mg base 102 "_law_times" ["_law_one","_law_other"] iH):Has P w K mg base 118 "_law_size" ["_law_rows"] (pP 8):=by
 have all:∀ d,Has P w K mg base (110 + d) "_law_size" ["_law_rows"] (pP d):=fun d=>by
  induction d with
  | zero=>exact (Has.never hF cF 109).imp fun ds M Q ⟨_,rs,_,_,z,_⟩=>z
  | succ d fG =>
   refine Has.mkZ (k:=110 + d) hF cF (fun ds M Q ⟨a,_,z,_⟩=>by rw [z];rfl) fun f cdv A outer s H ds M Q E hr h=>?_
   obtain ⟨x,rs,rfl,ra,dp,dn,gw,q⟩:=h
   refine ⟨_,(aF (aO (i:=1) cF.nd (aR (aA aC (aA aC aD))))
  (aF (tQ PassesOwn.never rfl (aB 0) (aV (i:=2) cF.nd) (aF (aX (aP (bZ hr) (aH (aB 2) aC) aN) (aE (aO (i:=1) cF.nd (aG cE hr (by omega) (aA (aB 1) (aA (aH (aB 2) aC) aD))))) aT)
  (aE (aX (aP (bZ hr) (aH (aB 2) aC) aN) (aF (aO (i:=3) cF.nd (aG fG hr (by omega) (aA (aH (aB 2) aC) aD)))
  (aE (yM PassesOwn.never rfl jV (aA (aH (aB 2) aC) aD) (aV (i:=4) cF.nd) (aE (aO (i:=1) cF.nd (aG cE hr (by omega) (aA (aB 1) (aA (aB 3) aD)))))))) aT))))
  (aE (aM (aB 1))))),?_⟩
   decreasing_tactic
   refine ⟨by decide,?_⟩
   refine qJ rfl ra fun at' hat=>?_
   refine ⟨fun i ρ M'=>M' = M/\∃ o1 o2 o3,ρ = [some x,some (FQ (szS (rs.take i))),o1,o2,o3],⟨rfl,_,_,_,rfl⟩,fun i ρ M' _ h a e=>by rw [h.1];exact hat a e,?_,?_⟩
   ·rintro i d1 ρ M1 hd ⟨rfl,o1,o2,o3,rfl⟩
    obtain ⟨r,hr',rfl⟩:=fP hd
    have dr:=dp.2 r (List.mem_of_getElem? hr')
    have gr:=aDK gw (List.mem_of_getElem? hr')
    have gt:gwS 704 (rs.take i):=(jE.mp (by rw [List.take_append_drop];exact gw)).1
    have zt:=aBt _ gt
    have zr:=aGa r gr
    have fin:szS (rs.take (i + 1)) = szS (rs.take i) * szR r:=by rw [eM hr',wJ,szS,szS,Rat.mul_one]
    have fdn:dnS (rs.take (i + 1)) = dnS (rs.take i) + dnR r:=by rw [eM hr',gA,dnS,dnS,Nat.add_zero]
    have ldn:dnS (rs.take (i + 1))<=dnS rs:=by
     have:=gA (rs.take (i + 1)) (rs.drop (i + 1))
     rw [List.take_append_drop] at this
     omega
    decreasing_tactic
    rw [fin]
    cases r with
    | pl p =>
     rcases aBi p with ⟨a,rfl⟩ | ⟨w0,dF,e,w1,w2,e1⟩
     ·dsimp only [rwD,plD]
      rw [dnR,szR] at zr
      rw [szR]
      rw [dnR] at fdn
      decreasing_tactic
      rw [aK]
      refine ifT (by decide) (aJn zt zr (by omega) ?_)
      decreasing_tactic
      rw [aK]
      exact ifF (by decide) ⟨rfl,_,_,_,rfl⟩
     ·dsimp only [rwD]
      rw [e,e1,Rat.mul_one]
      decreasing_tactic
      rw [qQ]
      decreasing_tactic
      rw [aK]
      refine ifF (decide_eq_false w1) ?_
      rw [aK]
      exact ifF (decide_eq_false w2) ⟨rfl,_,_,_,rfl⟩
    | ag n ws =>
     obtain ⟨hn,dw⟩:=kN dr
     rw [gwR] at gr
     have zw:=aBt _ gr.2
     rw [dnR] at fdn
     rw [szR]
     dsimp only [rwD]
     decreasing_tactic
     rw [aK]
     refine ifF (by decide) ?_
     rw [aK]
     refine ifT (by decide) ⟨_,ws,rfl,.inl rfl,dw,gr.1,gr.2,?_⟩
     decreasing_tactic
     refine ⟨⟨by omega,by omega⟩,?_⟩
     rw [Int.toNat_natCast]
     refine ⟨fun j ρ M'=>M' = M1/\∃ o3,ρ = [some x,some (FQ (szS (rs.take i) * szS ws ^ j)),some (.tup [.str "again",.int (n:Int),.tup (bG ws)]),some (FQ (szS ws)),o3],⟨rfl,_,by rw [Rat.pow_zero,Rat.mul_one]⟩,?_,?_⟩
     ·rintro j ρ M' hj ⟨rfl,o3,rfl⟩
      decreasing_tactic
      have m1:dnS ws * (j + 1)<=dnS ws * n:=Nat.mul_le_mul_left _ hj
      rw [Nat.mul_succ] at m1
      have e:szS (rs.take i) * szS ws ^ (j + 1) = szS (rs.take i) * szS ws ^ j * szS ws:=by rw [Rat.pow_succ,Rat.mul_assoc]
      refine aJn (zt.mul (zw.pow j)) zw (by omega) ?_
      rw [<- e]
      exact ⟨rfl,_,rfl⟩
     ·rintro ρ M' ⟨rfl,o3,rfl⟩
      exact ⟨rfl,_,_,_,rfl⟩
    | kp ws =>
     rw [szR,Rat.mul_one]
     dsimp only [rwD]
     decreasing_tactic
     rw [aK]
     refine ifF (by decide) ?_
     rw [aK]
     exact ifF (by decide) ⟨rfl,_,_,_,rfl⟩
    | ev ws =>
     rw [szR,Rat.mul_one]
     dsimp only [rwD]
     decreasing_tactic
     rw [aK]
     refine ifF (by decide) ?_
     rw [aK]
     exact ifF (by decide) ⟨rfl,_,_,_,rfl⟩
   ·rintro ρ M' ⟨rfl,o1,o2,o3,rfl⟩
    rw [cL,List.take_length]
    exact aZ q
 exact all 8
noncomputable def enB (rs:List Rw):Bool:=decide (dnS rs<=300) && ((decide (szS rs = 1) || decide (4 * (szS rs).num<=3 * ((szS rs).den:Int))) && drS rs)
noncomputable def kW:DSp:=fun ds M Q=>∃ x rs,ds = [x]/\rY M x rs/\DpS 8 rs/\gwS 704 rs/\Q (.bl (enB rs)) M
noncomputable abbrev gG:Stmt:=top 87
theorem fN:aQ ["_law_rows","_law_size_here"] ["_law_rows"] (aJ gG):=⟨rfl,rfl,rfl,by decide +kernel,rfl,by decide +kernel,by decide +kernel⟩
theorem rS (hF:bX K mg "_law_is_endless" gG ["_law_rows"]) (cW:Has P w K mg base 118 "_law_done" ["_law_rows"] (iC 8)) (fG:Has P w K mg base 118 "_law_size" ["_law_rows"] (pP 8)) (dM:Has P w K mg base 118 "_law_draws" ["_law_rows"] (iK 8)):Has P w K mg base 119 "_law_is_endless" ["_law_rows"] kW:=by
 refine Has.mkZ hF fN (fun ds M Q ⟨_,_,z,_⟩=>by rw [z];rfl) fun f cdv A outer s H ds M Q E hr h=>?_
 obtain ⟨x,rs,rfl,ra,dp,gw,q⟩:=h
 refine ⟨_,(aF (aX (aP iD (aG cW hr (by decide) (aA (aB 0) aD)) aC) (aE (aM kI)) aT)
  (aF (aO (i:=1) fN.nd (aG fG hr (by decide) (aA (aB 0) aD)))
  (aE (aM (eH (xL (cS (bZ hr) (aB 1) (aR (aA aC (aA aC aD)))) (eC (cS xC (aL bL aC (aH (aB 1) aC)) (aL bL aC (aH (aB 1) aC))))) (eC (aG dM hr (by decide) (aA (aB 0) aD)))))))),?_⟩
 decreasing_tactic
 refine ⟨x,rs,rfl,ra,dp,?_⟩
 decreasing_tactic
 unfold enB at q
 by_cases c:dnS rs<=300
 ·refine ifF (decide_eq_false (by omega)) ⟨x,rs,rfl,ra,dp,by omega,gw,?_⟩
  rw [decide_eq_true c,Bool.true_and] at q
  decreasing_tactic
  refine ⟨by decide,?_⟩
  rw [show (D.tup [.int 1,.int 1]) = FQ 1 from rfl,aAT]
  by_cases c1:szS rs = 1
  ·rw [decide_eq_true c1,Bool.true_or,Bool.true_and] at q
   refine ifT (decide_eq_true c1) (ifT rfl ⟨x,rs,rfl,ra,dp,aZ q⟩)
  ·rw [decide_eq_false c1,Bool.false_or] at q
   refine ifF (decide_eq_false c1) ⟨oZ (by unfold Bd;decide),oZ (by unfold Bd;decide),?_⟩
   by_cases c2:4 * (szS rs).num<=3 * ((szS rs).den:Int)
   ·rw [decide_eq_true c2,Bool.true_and] at q
    exact ifT (decide_eq_true c2) ⟨x,rs,rfl,ra,dp,aZ q⟩
   ·rw [decide_eq_false c2,Bool.false_and] at q
    exact ifF (decide_eq_false c2) (aZ q)
 ·refine ifT (decide_eq_true (by omega)) ?_
  rw [decide_eq_false c,Bool.false_and] at q
  exact aZ q
mutual
noncomputable def wR:Rw->Prop
 | .pl (.grow a)=>Sz 1 a
 | .pl _=>True
 | .ag n ws=>wS ws/\dnS ws<=12000/\(∀ r ∈ ws,dnR r<=704 ∨ dnS ws<=dnR r + 704)/\(n<=1 ∨ dnS ws<=704)
 | .kp _=>True
 | .ev _=>True
noncomputable def wS:List Rw->Prop
 | []=>True
 | r :: rs=>wR r/\wS rs
end
noncomputable def loS (rs:List Rw):Prop:=wS rs/\dnS rs<=12000/\∀ r ∈ rs,dnR r<=704 ∨ dnS rs<=dnR r + 704
theorem aCP:∀ {rs:List Rw} {r:Rw},wS rs->r ∈ rs->wR r
 | x :: xs,r,h,m=>by
  rw [wS] at h
  rcases List.mem_cons.mp m with rfl | z
  ·exact h.1
  ·exact aCP h.2 z
theorem aC3:∀ {xs ys:List Rw},wS (xs ++ ys) ↔ wS xs/\wS ys
 | [],ys=>by rw [List.nil_append,wS,true_and]
 | x :: xs,ys=>by rw [List.cons_append,wS,wS,aC3,and_assoc]
mutual
theorem aFH:∀ r:Rw,wR r->Sz (dnR r) (szR r)
 | .pl p,h=>by
  cases p with
  | grow a=>rw [wR] at h;rw [dnR,szR];exact h
  | _ =>
      rw [dnR,szR];· exact Sz.one.mono (by decide)
      all_goals (intro _ z;cases z)
 | .ag n rs,h=>by rw [wR] at h;rw [dnR,szR];exact (yT rs h.1).pow n
 | .kp rs,h=>by rw [szR];exact Sz.one.mono (Nat.zero_le _)
 | .ev rs,h=>by rw [szR];exact Sz.one.mono (Nat.zero_le _)
theorem yT:∀ rs:List Rw,wS rs->Sz (dnS rs) (szS rs)
 | [],_=>by rw [dnS,szS];exact Sz.one
 | r :: rs,h=>by rw [wS] at h;rw [dnS,szS];exact (aFH r h.1).mul (yT rs h.2)
end
theorem aFT {n:Nat} {ws:List Rw} (h:wR (.ag n ws)):loS ws:=by rw [wR] at h;exact ⟨h.1,h.2.1,h.2.2.1⟩
theorem Sz.pos' {k:Nat} {x:Rat} (h:Sz k x):0 < x:=by
 obtain ⟨t,b,⟨t0,_⟩,⟨b0,_⟩,e⟩:=h
 have h1:=aCe (show (0:Int) < (t:Int) by omega)
 have h2:=aCe (show (0:Int) < (b:Int) by omega)
 simp only [Rat.intCast_natCast] at h1 h2
 rw [<- e] at h1
 exact Rat.lt_of_mul_lt_mul_right (by rw [Rat.zero_mul];exact h1) (Rat.le_of_lt h2)
theorem aIM {p r:Rat} {j k:Nat} {M:DM} {Q:DQ} (h1:Sz j p) (h2:Sz k r) (sm:j<=1000 ∨ k<=1000) (l:j + k<=200000) (q:Q (FQ (p * r)) M):lY [FQ p,FQ r] M Q :=
 ⟨_,_,_,_,rfl,⟨fun z=>by have:=h1.pos';rw [z] at this;exact absurd this (by decide),fun z=>by have:=h2.pos';rw [z] at this;exact absurd this (by decide)⟩,h1.bq,h2.bq,by omega,by omega,q⟩
noncomputable def nV (d:Nat):DSp:=fun ds M Q=>∃ x rs,ds = [x]/\rY M x rs/\DpS d rs/\loS rs/\Q (FQ (szS rs)) M
theorem aAQ (hF:bX K mg "_law_size" nM ["_law_rows"]) (jV:mg "range" = none) (w_law_times:Has P w K mg base 102 "_law_times" ["_law_one","_law_other"] lY):Has P w K mg base 118 "_law_size" ["_law_rows"] (nV 8):=by
 have cE:=w_law_times
 have all:∀ d,Has P w K mg base (110 + d) "_law_size" ["_law_rows"] (nV d):=fun d=>by
  induction d with
  | zero=>exact (Has.never hF cF 109).imp fun ds M Q ⟨_,rs,_,_,z,_⟩=>z
  | succ d fG =>
   refine Has.mkZ (k:=110 + d) hF cF (fun ds M Q ⟨a,_,z,_⟩=>by rw [z];rfl) fun f cdv A outer s H ds M Q E hr h=>?_
   obtain ⟨x,rs,rfl,ra,dp,⟨gw,dn,one⟩,q⟩:=h
   refine ⟨_,(aF (aO (i:=1) cF.nd (aR (aA aC (aA aC aD))))
  (aF (tQ PassesOwn.never rfl (aB 0) (aV (i:=2) cF.nd) (aF (aX (aP (bZ hr) (aH (aB 2) aC) aN) (aE (aO (i:=1) cF.nd (aG cE hr (by omega) (aA (aB 1) (aA (aH (aB 2) aC) aD))))) aT)
  (aE (aX (aP (bZ hr) (aH (aB 2) aC) aN) (aF (aO (i:=3) cF.nd (aG fG hr (by omega) (aA (aH (aB 2) aC) aD)))
  (aE (yM PassesOwn.never rfl jV (aA (aH (aB 2) aC) aD) (aV (i:=4) cF.nd) (aE (aO (i:=1) cF.nd (aG cE hr (by omega) (aA (aB 1) (aA (aB 3) aD)))))))) aT))))
  (aE (aM (aB 1))))),?_⟩
   decreasing_tactic
   refine ⟨by decide,?_⟩
   refine qJ rfl ra fun at' hat=>?_
   refine ⟨fun i ρ M'=>M' = M/\∃ o1 o2 o3,ρ = [some x,some (FQ (szS (rs.take i))),o1,o2,o3],⟨rfl,_,_,_,rfl⟩,fun i ρ M' _ h a e=>by rw [h.1];exact hat a e,?_,?_⟩
   ·rintro i d1 ρ M1 hd ⟨rfl,o1,o2,o3,rfl⟩
    obtain ⟨r,hr',rfl⟩:=fP hd
    have dr:=dp.2 r (List.mem_of_getElem? hr')
    have gr:=aCP gw (List.mem_of_getElem? hr')
    have on:=one r (List.mem_of_getElem? hr')
    have gt:wS (rs.take i):=(aC3.mp (by rw [List.take_append_drop];exact gw)).1
    have zt:=yT _ gt
    have zr:=aFH r gr
    have fin:szS (rs.take (i + 1)) = szS (rs.take i) * szR r:=by rw [eM hr',wJ,szS,szS,Rat.mul_one]
    have fdn:dnS (rs.take (i + 1)) = dnS (rs.take i) + dnR r:=by rw [eM hr',gA,dnS,dnS,Nat.add_zero]
    have ldn:dnS (rs.take (i + 1))<=dnS rs:=by
     have:=gA (rs.take (i + 1)) (rs.drop (i + 1))
     rw [List.take_append_drop] at this
     omega
    decreasing_tactic
    rw [fin]
    cases r with
    | pl p =>
     rcases aBi p with ⟨a,rfl⟩ | ⟨w0,dF,e,w1,w2,e1⟩
     ·dsimp only [rwD,plD]
      rw [dnR,szR] at zr
      rw [szR]
      rw [dnR] at fdn
      decreasing_tactic
      rw [aK]
      refine ifT (by decide) (aIM zt zr (.inr (by decide)) (by omega) ?_)
      decreasing_tactic
      rw [aK]
      exact ifF (by decide) ⟨rfl,_,_,_,rfl⟩
     ·dsimp only [rwD]
      rw [e,e1,Rat.mul_one]
      decreasing_tactic
      rw [qQ]
      decreasing_tactic
      rw [aK]
      refine ifF (decide_eq_false w1) ?_
      rw [aK]
      exact ifF (decide_eq_false w2) ⟨rfl,_,_,_,rfl⟩
    | ag n ws =>
     obtain ⟨hn,dw⟩:=kN dr
     have lg:=aFT gr
     rw [wR] at gr
     have zw:=yT _ gr.1
     rw [dnR] at fdn on
     rw [szR]
     dsimp only [rwD]
     decreasing_tactic
     rw [aK]
     refine ifF (by decide) ?_
     rw [aK]
     refine ifT (by decide) ⟨_,ws,rfl,.inl rfl,dw,lg,?_⟩
     decreasing_tactic
     refine ⟨⟨by omega,by omega⟩,?_⟩
     rw [Int.toNat_natCast]
     refine ⟨fun j ρ M'=>M' = M1/\∃ o3,ρ = [some x,some (FQ (szS (rs.take i) * szS ws ^ j)),some (.tup [.str "again",.int (n:Int),.tup (bG ws)]),some (FQ (szS ws)),o3],⟨rfl,_,by rw [Rat.pow_zero,Rat.mul_one]⟩,?_,?_⟩
     ·rintro j ρ M' hj ⟨rfl,o3,rfl⟩
      decreasing_tactic
      have m1:dnS ws * (j + 1)<=dnS ws * n:=Nat.mul_le_mul_left _ hj
      rw [Nat.mul_succ] at m1
      have e:szS (rs.take i) * szS ws ^ (j + 1) = szS (rs.take i) * szS ws ^ j * szS ws:=by rw [Rat.pow_succ,Rat.mul_assoc]
      have sm:dnS (rs.take i) + dnS ws * j<=1000 ∨ dnS ws<=1000:=by
       rcases gr.2.2.2 with z | z
       ·obtain ⟨rfl,rfl⟩:j = 0/\n = 1:=by omega
        rw [Nat.mul_one] at fdn on
        rw [Nat.mul_zero]
        omega
       ·exact .inr (by omega)
      refine aIM (zt.mul (zw.pow j)) zw sm (by omega) ?_
      rw [<- e]
      exact ⟨rfl,_,rfl⟩
     ·rintro ρ M' ⟨rfl,o3,rfl⟩
      exact ⟨rfl,_,_,_,rfl⟩
    | kp ws =>
     rw [szR,Rat.mul_one]
     dsimp only [rwD]
     decreasing_tactic
     rw [aK]
     refine ifF (by decide) ?_
     rw [aK]
     exact ifF (by decide) ⟨rfl,_,_,_,rfl⟩
    | ev ws =>
     rw [szR,Rat.mul_one]
     dsimp only [rwD]
     decreasing_tactic
     rw [aK]
     refine ifF (by decide) ?_
     rw [aK]
     exact ifF (by decide) ⟨rfl,_,_,_,rfl⟩
   ·rintro ρ M' ⟨rfl,o1,o2,o3,rfl⟩
    rw [cL,List.take_length]
    exact aZ q
 exact all 8
noncomputable def qY:DSp:=fun ds M Q=>∃ x rs,ds = [x]/\rY M x rs/\DpS 8 rs/\(dnS rs<=300->loS rs)/\Q (.bl (enB rs)) M
theorem sA (hF:bX K mg "_law_is_endless" gG ["_law_rows"]) (cW:Has P w K mg base 118 "_law_done" ["_law_rows"] (iC 8)) (w_law_size:Has P w K mg base 118 "_law_size" ["_law_rows"] (nV 8)) (dM:Has P w K mg base 118 "_law_draws" ["_law_rows"] (iK 8)):Has P w K mg base 119 "_law_is_endless" ["_law_rows"] qY:=by
 refine Has.mkZ hF fN (fun ds M Q ⟨_,_,z,_⟩=>by rw [z];rfl) fun f cdv A outer s H ds M Q E hr h=>?_
 obtain ⟨x,rs,rfl,ra,dp,gw,q⟩:=h
 have fG:=w_law_size
 refine ⟨_,(aF (aX (aP iD (aG cW hr (by decide) (aA (aB 0) aD)) aC) (aE (aM kI)) aT)
  (aF (aO (i:=1) fN.nd (aG fG hr (by decide) (aA (aB 0) aD)))
  (aE (aM (eH (xL (cS (bZ hr) (aB 1) (aR (aA aC (aA aC aD)))) (eC (cS xC (aL bL aC (aH (aB 1) aC)) (aL bL aC (aH (aB 1) aC))))) (eC (aG dM hr (by decide) (aA (aB 0) aD)))))))),?_⟩
 decreasing_tactic
 refine ⟨x,rs,rfl,ra,dp,?_⟩
 decreasing_tactic
 unfold enB at q
 by_cases c:dnS rs<=300
 ·refine ifF (decide_eq_false (by omega)) ⟨x,rs,rfl,ra,dp,gw c,?_⟩
  rw [decide_eq_true c,Bool.true_and] at q
  decreasing_tactic
  refine ⟨by decide,?_⟩
  rw [show (D.tup [.int 1,.int 1]) = FQ 1 from rfl,aAT]
  by_cases c1:szS rs = 1
  ·rw [decide_eq_true c1,Bool.true_or,Bool.true_and] at q
   refine ifT (decide_eq_true c1) (ifT rfl ⟨x,rs,rfl,ra,dp,aZ q⟩)
  ·rw [decide_eq_false c1,Bool.false_or] at q
   refine ifF (decide_eq_false c1) ⟨oZ (by unfold Bd;decide),oZ (by unfold Bd;decide),?_⟩
   by_cases c2:4 * (szS rs).num<=3 * ((szS rs).den:Int)
   ·rw [decide_eq_true c2,Bool.true_and] at q
    exact ifT (decide_eq_true c2) ⟨x,rs,rfl,ra,dp,aZ q⟩
   ·rw [decide_eq_false c2,Bool.false_and] at q
    exact ifF (decide_eq_false c2) (aZ q)
 ·refine ifT (decide_eq_true (by omega)) ?_
  rw [decide_eq_false c,Bool.false_and] at q
  exact aZ q
structure En where
 wd:Str
 n:Nat
 a:Addr
 rs:List Rw
noncomputable def enD (e:En):D:=.tup [.str e.wd,.int (e.n:Int),.ref e.a]
noncomputable def fR (M M':DM) (as:List Addr):Prop:=∀ k:AK,(∀ a ∈ as,k ≠ .l a)->∀ x,M k = some x->M' k = some x
theorem fR.refl {M:DM} {as:List Addr}:fR M M as:=fun _ _ _ e=>e
theorem fR.sub {M M' M'':DM} {as:List Addr} (h:fR M M' as) (s:aW M' M''):fR M M'' as:=fun k n x e=>s _ _ (h k n x e)
theorem fR.put {M M':DM} {as:List Addr} {a:Addr} {L:List D} (h:fR M M' as) (m:a ∈ as):fR M (bC M' a L) as:=fun k n x e=>by rw [yY (n a m)];exact h k n x e
theorem fR.mono {M M':DM} {as bs:List Addr} (h:fR M M' as) (s:∀ a ∈ as,a ∈ bs):fR M M' bs:=fun k n x e=>h k (fun a m=>n a (s a m)) x e
noncomputable def dW (rs:List Rw):List Rw:=rs ++ List.replicate (if drS rs then 0 else 1) (.pl .dot)
noncomputable def cM (rs:List Rw):List Rw:=dW rs ++ List.replicate (if enB (dW rs) then 0 else 1) (.pl (.grow (1 / 12)))
noncomputable def clE (wd:Str) (n:Nat) (rs:List Rw):Rw:=if wd = "again" then .ag (if 90 < n * dnS rs then 1 else n) rs else if wd = "ever" then (if enB (cM rs) then .ev (cM rs) else .kp (cM rs)) else .kp rs
theorem Dp.up:∀ {d:Nat} {r:Rw},Dp d r->Dp (d + 1) r
 | _,.pl _,_=>trivial
 | d + 1,.ag n rs,h=>⟨h.1,h.2.1,fun r hr=>Dp.up (h.2.2 r hr)⟩
 | d + 1,.kp rs,h=>⟨h.1,fun r hr=>Dp.up (h.2 r hr)⟩
 | d + 1,.ev rs,h=>⟨h.1,fun r hr=>Dp.up (h.2 r hr)⟩
theorem DpS.up {d:Nat} {rs:List Rw} (h:DpS d rs):DpS (d + 1) rs:=by
 cases d with
 | zero=>exact h.elim
 | succ d=>exact ⟨h.1,fun r hr=>Dp.up (h.2 r hr)⟩
theorem mL (xs ys:List Rw):bG (xs ++ ys) = bG xs ++ bG ys:=by rw [eG,eG,eG,List.map_append]
theorem aEq (r:Rw) (n:Nat):bG (List.replicate n r) = List.replicate n (rwD r):=by rw [eG,List.map_replicate]
theorem aOt:rwD (.pl (.grow (1 / 12))) = D.tup [.str "grow",.tup [.int 1,.int 12]]:=by
 show D.tup [.str "grow",FQ (1 / 12)] = _
 unfold FQ
 rw [show (1 / 12:Rat).num = 1 by decide +kernel,show (1 / 12:Rat).den = 12 by decide +kernel];rfl
theorem aNX {p:Addr} {d:D} {r:Rw} {b:Bool} {M:DM} {Q:DQ} (hp:M p = some [d]) (hr:rwD r = d) (q:∀ p2:Addr,M p2 = none->Q (.ref p2) (bC M p2 (bG (List.replicate (if b then 0 else 1) r)))):aJp (.ref p) (.int (if (!b) = true then 1 else 0)) M Q:=by
 refine ⟨_,hp,by simp,by split<;>decide,by split<;>decide,by split<;>simp,fun p2 hp2=>?_⟩
 have:=q p2 hp2
 rw [aEq,hr] at this
 cases b with
 | true=>exact this
 | false=>exact this
theorem aBN {N n:Nat} {r:Rw} (h:gwR N r):gwS N (List.replicate n r):=by
 induction n with
 | zero=>rw [List.replicate_zero,gwS];trivial
 | succ n ih=>rw [List.replicate_succ,gwS];exact ⟨h,ih⟩
theorem aEd {d N:Nat} {xs ys:List Rw} (h:DpS (d + 1) xs) (l:(xs ++ ys).length<=N) (hy:∀ r ∈ ys,Dp d r) (lN:N<=1000:=by decide):DpS (d + 1) (xs ++ ys) :=
 ⟨by omega,fun r hr=>(List.mem_append.mp hr).elim (h.2 r) (hy r)⟩
theorem aA0 {xs:List D} {d:D}:atI (xs ++ [d]) (-1) = some d:=by
 unfold atI ixN
 rw [if_neg (by decide),if_pos (by rw [List.length_append,List.length_cons,List.length_nil];omega)]
 rw [List.length_append,List.length_cons,List.length_nil]
 show (xs ++ [d])[((-1:Int) + ((xs.length + (0 + 1):Nat):Int)).toNat]? = some d
 rw [show ((-1:Int) + ((xs.length + (0 + 1):Nat):Int)).toNat = xs.length by omega]
 simp
noncomputable def nK:DSp:=fun ds M Q=>∃ (st:Addr) (es:List En) (u e:En),ds = [.ref st]/\M st = some ((es ++ [u,e]).map enD)/\es.length<=20/\(st ≠ u.a/\st ≠ e.a/\u.a ≠ e.a)/\M u.a = some (bG u.rs)/\M e.a = some (bG e.rs)/\(e.wd = "again" ∨ e.wd = "keep" ∨ e.wd = "ever")/\e.n<=12/\DpS 7 e.rs/\gwS 704 e.rs/\u.rs.length<=900/\e.rs.length<=900/\dnS e.rs<=2000 /\
 ∀ M',M' st = some ((es ++ [u]).map enD)->M' u.a = some (bG (u.rs ++ [clE e.wd e.n e.rs]))->fR M M' [st,u.a]->Q .non M'
noncomputable abbrev pK:Stmt:=top 89
theorem eB:aQ ["_law_stack","_law_word","_law_many","_law_rows","_law_block"] ["_law_stack"] (aJ pK):=⟨rfl,rfl,rfl,by decide +kernel,rfl,by decide +kernel,by decide +kernel⟩
theorem zI (hF:bX K mg "_law_close" pK ["_law_stack"]) (gK:mg "int" = none) (cI:mg "tuple" = none) (cW:Has P w K mg base 118 "_law_done" ["_law_rows"] (iC 8)) (gI:Has P w K mg base 119 "_law_is_endless" ["_law_rows"] kW) (dM:Has P w K mg base 118 "_law_draws" ["_law_rows"] (iK 8)):Has P w K mg base 120 "_law_close" ["_law_stack"] nK:=by
 refine Has.mkZ hF eB (fun ds M Q ⟨_,_,_,_,z,_⟩=>by rw [z];rfl) fun f cdv A outer s H ds M Q E hr h=>?_
 obtain ⟨st,es,u,e,rfl,hst,les,⟨n1,n2,n3⟩,hu,he,hw,hn,dp,gw,lu,le,dn,q⟩:=h
 refine ⟨_,(aF (jX (wP (aB 0)) (kC (n:=3) rfl (bW (aV (i:=1) eB.nd) (bW (aV (i:=2) eB.nd) (bW (aV (i:=3) eB.nd) gQ)))))
  (gR (aX (aP (bZ hr) (aB 1) aN) (aF (aO (i:=3) eB.nd (aL cU (aB 3) (aL aDF (bR (aA (aR (aA aN aD)) aD)) (cQ uQ gK (aA (qL (aG dM hr (by decide) (aA (aB 3) aD))) aD)))))
  (aF (aO (i:=3) eB.nd (aL cU (aB 3) (aL aDF (bR (aA (aR (aA aN (aA (aR (aA aC (aA aC aD))) aD))) aD)) (cQ uQ gK (aA (qL (aG gI hr (by decide) (aA (aB 3) aD))) aD)))))
  (aE (aO (i:=1) eB.nd (aH (bR (aA aN (aA aN aD))) (cQ uQ gK (aA (aG gI hr (by decide) (aA (aB 3) aD)) aD))))))) aT)
  (aF (aO (i:=4) eB.nd (aR (aA (aB 1) (aA (cQ mF cI (aA (aB 3) aD)) aD))))
  (gR (aX (aP (bZ hr) (aB 1) aN) (aE (aO (i:=4) eB.nd (aR (aA (aB 1) (aA (aH (bR (aA (aB 2) (aA aC aD))) (cQ uQ gK (aA (cS iD (aL bL (aB 2) (aG cW hr (by decide) (aA (aB 3) aD))) aC) aD))) (aA (cQ mF cI (aA (aB 3) aD)) aD)))))) aT)
  (aE (dD (dO (aH (aH (aB 0) (eL aC)) aC) (aB 4)))))))),?_⟩
 decreasing_tactic
 have el:((es ++ [u,e]).map enD) = (es ++ [u]).map enD ++ [enD e]:=by simp
 have ll:((es ++ [u,e]).map enD)[((es ++ [u,e]).map enD).length - 1]? = some (enD e):=by rw [el];simp
 have ld:((es ++ [u,e]).map enD).dropLast = (es ++ [u]).map enD:=by rw [el];simp
 refine ⟨_,_,hst,ll,?_⟩
 rw [ld]
 rw [show enD e = .tup [.str e.wd,.int (e.n:Int),.ref e.a] from rfl]
 decreasing_tactic
 have k0:fR M (bC M st ((es ++ [u]).map enD)) [st]:=fR.refl.put (List.mem_singleton.mpr rfl)
 have st0:bC M st ((es ++ [u]).map enD) st = some ((es ++ [u]).map enD):=aI
 have he0:bC M st ((es ++ [u]).map enD) e.a = some (bG e.rs):=by rw [bI (Ne.symm n2)];exact he
 have hu0:bC M st ((es ++ [u]).map enD) u.a = some (bG u.rs):=by rw [bI (Ne.symm n1)];exact hu
 generalize bC M st ((es ++ [u]).map enD) = M0 at k0 st0 he0 hu0
 refine ⟨rfl,fun ρ' M'=>∃ (wd2:Str) (la:Addr) (rs2:List Rw),ρ' = [some (.ref st),some (.str wd2),some (.int (e.n:Int)),some (.ref la),none]/\M' la = some (bG rs2)/\M' st = some ((es ++ [u]).map enD)/\M' u.a = some (bG u.rs)/\fR M M' [st]/\(e.wd = "ever"->rs2 = cM e.rs/\wd2 = if enB (cM e.rs) then ("ever":Str) else "keep")/\(e.wd ≠ "ever"->rs2 = e.rs/\wd2 = e.wd),?_,?_⟩
 ·rw [aK]
  by_cases ce:e.wd = "ever"
  ·refine ifT (decide_eq_true ce) ⟨by decide,by decide,fun p hp=>?_⟩
   have s1:=aW.new hp [D.tup [D.str "dot"]]
   refine ⟨_,e.rs,rfl,.inr ⟨_,rfl,s1 _ _ he0⟩,DpS.up dp,?_⟩
   decreasing_tactic
   refine aNX aI (r:=.pl .dot) rfl fun p2 hp2=>?_
   have s2:=s1.trans (aW.new hp2 (bG (List.replicate (if drS e.rs then 0 else 1) (.pl .dot))))
   have hp2':bC (bC M0 p [D.tup [D.str "dot"]]) p2 (bG (List.replicate (if drS e.rs then 0 else 1) (.pl .dot))) p2 = some (bG (List.replicate (if drS e.rs then 0 else 1) (.pl .dot))):=aI
   generalize bC (bC M0 p [D.tup [D.str "dot"]]) p2 _ = M2 at s2 hp2' ⊢
   decreasing_tactic
   have l1:(dW e.rs).length<=901:=by
    unfold dW
    rw [List.length_append,List.length_replicate]
    split<;>omega
   refine ⟨_,_,s2 _ _ he0,hp2',by rw [cL,cL,List.length_replicate];split<;>omega,fun p3 hp3=>?_⟩
   rw [<- mL,show e.rs ++ List.replicate (if drS e.rs then 0 else 1) (.pl .dot) = dW e.rs from rfl]
   have s3:=s2.trans (aW.new hp3 (bG (dW e.rs)))
   have h3:bC M2 p3 (bG (dW e.rs)) p3 = some (bG (dW e.rs)):=aI
   generalize bC M2 p3 _ = M3 at s3 h3 ⊢
   refine ⟨by decide,by decide,by decide,fun p4 hp4=>?_⟩
   have s4:=aW.new hp4 [D.tup [D.str "grow",D.tup [D.int 1,D.int 12]]]
   have d1:DpS 8 (dW e.rs):=aEd (DpS.up dp) l1 fun r hr=>by
    rw [(List.mem_replicate.mp hr).2];trivial
   have g1:gwS 704 (dW e.rs):=jE.mpr ⟨gw,aBN (by rw [gwR];trivial;intro _ z;cases z)⟩
   refine ⟨_,dW e.rs,rfl,.inr ⟨_,rfl,s4 _ _ h3⟩,d1,g1,?_⟩
   decreasing_tactic
   refine aNX aI (r:=.pl (.grow (1 / 12))) aOt fun p5 hp5=>?_
   have s5:=s4.trans (aW.new hp5 (bG (List.replicate (if enB (dW e.rs) then 0 else 1) (.pl (.grow (1 / 12))))))
   have h5:bC (bC M3 p4 [D.tup [D.str "grow",D.tup [D.int 1,D.int 12]]]) p5 (bG (List.replicate (if enB (dW e.rs) then 0 else 1) (.pl (.grow (1 / 12))))) p5 = some (bG (List.replicate (if enB (dW e.rs) then 0 else 1) (.pl (.grow (1 / 12))))):=aI
   generalize bC (bC M3 p4 [D.tup [D.str "grow",D.tup [D.int 1,D.int 12]]]) p5 _ = M5 at s5 h5 ⊢
   decreasing_tactic
   have l2:(cM e.rs).length<=902:=by
    unfold cM
    rw [List.length_append,List.length_replicate]
    split<;>omega
   refine ⟨_,_,s5 _ _ h3,h5,by rw [cL,cL,List.length_replicate];split<;>omega,fun p6 hp6=>?_⟩
   rw [<- mL,show dW e.rs ++ List.replicate (if enB (dW e.rs) then 0 else 1) (.pl (.grow (1 / 12))) = cM e.rs from rfl]
   have s6:=s5.trans (aW.new hp6 (bG (cM e.rs)))
   have h6:bC M5 p6 (bG (cM e.rs)) p6 = some (bG (cM e.rs)):=aI
   generalize bC M5 p6 _ = M6 at s6 h6 ⊢
   refine ⟨by decide,fun p7 hp7=>?_⟩
   have s7:=aW.new hp7 [D.str "keep",D.str "ever"]
   have h7:bC M6 p7 [D.str "keep",D.str "ever"] p7 = some [D.str "keep",D.str "ever"]:=aI
   generalize bC M6 p7 _ = M7 at s7 h7 ⊢
   have d2:DpS 8 (cM e.rs):=aEd d1 l2 fun r hr=>by
    rw [(List.mem_replicate.mp hr).2];trivial
   have g2:gwS 704 (cM e.rs):=jE.mpr ⟨g1,aBN (by rw [gwR];exact ⟨1,12,by decide,by decide,by decide +kernel⟩)⟩
   refine ⟨_,cM e.rs,rfl,.inr ⟨_,rfl,s7 _ _ h6⟩,d2,g2,?_⟩
   decreasing_tactic
   have fs:aW M0 M7:=(s3.trans s6).trans s7
   cases hb:enB (cM e.rs) with
   | true=>exact ⟨_,_,h7,rfl,_,_,_,rfl,s7 _ _ h6,fs _ _ st0,fs _ _ hu0,k0.sub fs,fun _=>⟨rfl,by rw [if_pos rfl]⟩,fun z=>absurd ce z⟩
   | false=>exact ⟨_,_,h7,rfl,_,_,_,rfl,s7 _ _ h6,fs _ _ st0,fs _ _ hu0,k0.sub fs,fun _=>⟨rfl,by rw [if_neg (by decide)]⟩,fun z=>absurd ce z⟩
  ·exact ifF (decide_eq_false ce) ⟨_,_,_,rfl,he0,st0,hu0,k0,fun z=>absurd z ce,fun _=>⟨rfl,rfl⟩⟩
 rintro ρ' M1 ⟨wd2,la,rs2,rfl,hla,hst1,hu1,k1,ev1,ne1⟩
 decreasing_tactic
 refine ⟨_,hla,by decide,fun ρ' M'=>∃ o1 o2 o3 b,ρ' = [some (.ref st),o1,o2,o3,some b]/\b = rwD (clE e.wd e.n e.rs)/\M' st = some ((es ++ [u]).map enD)/\M' u.a = some (bG u.rs)/\fR M M' [st],?_,?_⟩
 ·rw [aK]
  by_cases ca:wd2 = "again"
  ·have ea:e.wd = "again":=by
    by_cases ce:e.wd = "ever"
    ·have:=(ev1 ce).2
     rw [ca] at this
     cases hb:enB (cM e.rs)<;>rw [hb] at this<;>exact absurd this (by decide)
    ·rw [<- (ne1 ce).2];exact ca
   obtain ⟨rfl,_⟩:=ne1 (by rw [ea];decide)
   refine ifT (decide_eq_true ca) ⟨by decide,fun p hp=>?_⟩
   have s1:=aW.new hp [D.int (e.n:Int),.int 1]
   refine ⟨_,e.rs,rfl,.inr ⟨_,rfl,s1 _ _ hla⟩,DpS.up dp,oZ (by unfold Bd;omega),?_⟩
   have ec:clE e.wd e.n e.rs = .ag (if 90 < e.n * dnS e.rs then 1 else e.n) e.rs:=by unfold clE;rw [if_pos ea]
   have em:(90:Int) < (e.n:Int) * (dnS e.rs:Int) ↔ 90 < e.n * dnS e.rs:=by
    have:((e.n * dnS e.rs:Nat):Int) = (e.n:Int) * (dnS e.rs:Int):=Int.natCast_mul _ _
    omega
   by_cases c:90 < e.n * dnS e.rs
   ·rw [if_pos (decide_eq_true (em.mpr c))]
    refine ⟨_,_,aI,rfl,_,s1 _ _ hla,by decide,_,_,_,_,rfl,?_,s1 _ _ hst1,s1 _ _ hu1,k1.sub s1⟩
    rw [ec,if_pos c,ca];rfl
   ·rw [if_neg (by rw [decide_eq_false fun z=>c (em.mp z)];decide)]
    refine ⟨_,_,aI,rfl,_,s1 _ _ hla,by decide,_,_,_,_,rfl,?_,s1 _ _ hst1,s1 _ _ hu1,k1.sub s1⟩
    rw [ec,if_neg c,ca];rfl
  ·refine ifF (decide_eq_false ca) ⟨_,_,_,_,rfl,?_,hst1,hu1,k1⟩
   by_cases ce:e.wd = "ever"
   ·obtain ⟨rfl,rfl⟩:=ev1 ce
    have ec:clE e.wd e.n e.rs = if enB (cM e.rs) then .ev (cM e.rs) else .kp (cM e.rs):=by
     unfold clE
     rw [if_neg (show ¬ e.wd = "again" by rw [ce];decide),if_pos ce]
    rw [ec]
    cases hb:enB (cM e.rs)<;>rfl
   ·obtain ⟨rfl,rfl⟩:=ne1 ce
    have ek:e.wd = "keep":=by
     rcases hw with z | z | z
     ·exact absurd z ca
     ·exact z
     ·exact absurd z ce
    unfold clE
    rw [if_neg ca,if_neg ce,ek];rfl
 ·rintro ρ' M2 ⟨o1,o2,o3,_,rfl,rfl,h1,h2,k2⟩
  decreasing_tactic
  have al:atI ((es ++ [u]).map enD) (-1) = some (enD u):=by rw [List.map_append];exact aA0
  refine ⟨_,_,h1,al,?_⟩
  rw [show enD u = .tup [.str u.wd,.int (u.n:Int),.ref u.a] from rfl]
  decreasing_tactic
  refine ⟨⟨_,h2⟩,_,_,rfl,h2,by rw [cL];omega,aZ (q _ ?_ ?_ ?_)⟩
  ·rw [bI n1];exact h1
  ·rw [mL];exact aI
  ·exact (k2.mono fun a m=>by rw [List.mem_singleton.mp m];exact List.mem_cons_self ..).put (List.mem_cons_of_mem _ (List.mem_singleton.mpr rfl))
noncomputable def Fc (m:Nat):Nat:=if m<=2 then m else if m = 3 then 12 else if m = 4 then 24 else 18 * m
theorem aIk {m n:Nat} (h:m<=n):Fc m<=Fc n:=by
 unfold Fc
 repeat' split
 all_goals omega
theorem aGC (m n:Nat):Fc m + Fc n<=Fc (m + n):=by
 unfold Fc
 repeat' split
 all_goals omega
theorem aL3 (m:Nat):Fc m + 2<=Fc (m + 2):=by
 unfold Fc
 repeat' split
 all_goals omega
theorem aI7 {m:Nat}:Fc m<=18 * m:=by
 unfold Fc
 repeat' split
 all_goals omega
theorem aFw {m n d:Nat} (hd:d<=Fc m) (hn:n<=12) (h:n * d<=90):n * d<=Fc (m + 2):=by
 have h1:n * d<=12 * d:=Nat.mul_le_mul_right _ hn
 unfold Fc at *
 repeat' split
 all_goals (try omega)
 all_goals (repeat' split at hd)
 all_goals omega
mutual
noncomputable def alR (F:Pl->Prop):Rw->Prop
 | .pl p=>F p
 | .ag _ rs=>alS F rs
 | .kp rs=>alS F rs
 | .ev rs=>alS F rs
noncomputable def alS (F:Pl->Prop):List Rw->Prop
 | []=>True
 | r :: rs=>alR F r/\alS F rs
end
theorem nS {F:Pl->Prop}:∀ {xs ys:List Rw},alS F (xs ++ ys) ↔ alS F xs/\alS F ys
 | [],ys=>by rw [List.nil_append,alS];simp
 | x :: xs,ys=>by rw [List.cons_append,alS,alS,nS,and_assoc]
mutual
theorem aIU {F G:Pl->Prop} (k:∀ p,F p->G p):∀ r:Rw,alR F r->alR G r
 | .pl p,h=>by rw [alR] at *;exact k p h
 | .ag _ rs,h=>by rw [alR] at *;exact sP k rs h
 | .kp rs,h=>by rw [alR] at *;exact sP k rs h
 | .ev rs,h=>by rw [alR] at *;exact sP k rs h
theorem sP {F G:Pl->Prop} (k:∀ p,F p->G p):∀ rs:List Rw,alS F rs->alS G rs
 | [],_=>by rw [alS];trivial
 | r :: rs,h=>by rw [alS] at *;exact ⟨aIU k r h.1,sP k rs h.2⟩
end
mutual
noncomputable def hmR:Rw->Nat
 | .pl _=>1
 | .ag _ rs=>1 + hmS rs
 | .kp rs=>1 + hmS rs
 | .ev rs=>1 + hmS rs
noncomputable def hmS:List Rw->Nat
 | []=>0
 | r :: rs=>hmR r + hmS rs
end
theorem gH:∀ xs ys:List Rw,hmS (xs ++ ys) = hmS xs + hmS ys
 | [],ys=>by rw [List.nil_append,hmS,Nat.zero_add]
 | x :: xs,ys=>by rw [List.cons_append,hmS,hmS,gH xs ys,Nat.add_assoc]
mutual
noncomputable def ltR:Rw->Prop
 | .pl _=>True
 | .ag n rs=>n<=12/\ltS rs
 | .kp rs=>ltS rs
 | .ev rs=>ltS rs
noncomputable def ltS:List Rw->Prop
 | []=>True
 | r :: rs=>ltR r/\ltS rs
end
theorem nL:∀ {xs ys:List Rw},ltS (xs ++ ys) ↔ ltS xs/\ltS ys
 | [],ys=>by rw [List.nil_append,ltS];simp
 | x :: xs,ys=>by rw [List.cons_append,ltS,ltS,nL,and_assoc]
theorem uH {n:Nat} {p:Pl}:ltS (List.replicate n (.pl p))/\hmS (List.replicate n (.pl p)) = n:=by
 induction n with
 | zero=>rw [List.replicate_zero,ltS,hmS];exact ⟨trivial,rfl⟩
 | succ n ih=>rw [List.replicate_succ,ltS,ltR,hmS,hmR,ih.2];exact ⟨⟨trivial,ih.1⟩,by omega⟩
mutual
theorem aJy {N N':Nat} (l:N<=N'):∀ r:Rw,gwR N r->gwR N' r
 | .pl p,h=>by
  cases p with
  | grow a=>rw [gwR] at h ⊢;exact h
  | _ =>
      rw [gwR];· trivial
      all_goals (intro _ z;cases z)
 | .ag n rs,h=>by rw [gwR] at h ⊢;exact ⟨Nat.le_trans h.1 l,xD l rs h.2⟩
 | .kp rs,h=>by rw [gwR] at h ⊢;exact ⟨Nat.le_trans h.1 l,xD l rs h.2⟩
 | .ev rs,h=>by rw [gwR] at h ⊢;exact ⟨⟨h.1.1,Nat.le_trans h.1.2 l⟩,xD l rs h.2⟩
theorem xD {N N':Nat} (l:N<=N'):∀ rs:List Rw,gwS N rs->gwS N' rs
 | [],_=>by rw [gwS];trivial
 | r :: rs,h=>by rw [gwS] at h ⊢;exact ⟨aJy l r h.1,xD l rs h.2⟩
end
structure zO (F:Pl->Prop) (i m:Nat) (rs:List Rw):Prop where
 dp:∀ r ∈ rs,Dp (4 - i) r
 len:rs.length<=m
 dn:dnS rs<=Fc m
 gw:gwS 690 rs
 al:alS F rs
 lt:ltS rs/\hmS rs<=3 * m
theorem zO.row {F:Pl->Prop} {i m:Nat} {rs:List Rw} (h:zO F i m rs) {p:Pl} (hp:F p) (hg:gwR 690 (.pl p)):zO F i (m + 1) (rs ++ [.pl p]):=by
 refine ⟨fun r hr=>?_,by rw [List.length_append];have:=h.len;show rs.length + 1<=m + 1;omega,?_,jE.mpr ⟨h.gw,by rw [gwS,gwS];exact ⟨hg,trivial⟩⟩,nS.mpr ⟨h.al,by rw [alS,alS,alR];exact ⟨hp,trivial⟩⟩,nL.mpr ⟨h.lt.1,by rw [ltS,ltS,ltR];exact ⟨trivial,trivial⟩⟩,by rw [gH,hmS,hmS,hmR];have:=h.lt.2;omega⟩
 ·rcases List.mem_append.mp hr with z | z
  ·exact h.dp r z
  ·rw [List.mem_singleton.mp z];unfold Dp;trivial
 ·rw [gA,dnS,dnS,dnR]
  have:=h.dn
  have:=aGC m 1
  have:Fc 1 = 1:=rfl
  omega
theorem aFu {F:Pl->Prop} {n:Nat} {r:Rw} (h:alR F r):alS F (List.replicate n r):=by
 induction n with
 | zero=>rw [List.replicate_zero,alS];trivial
 | succ n ih=>rw [List.replicate_succ,alS];exact ⟨h,ih⟩
theorem aGY {n:Nat} {p:Pl}:dnS (List.replicate n (.pl p)) = n:=by
 induction n with
 | zero=>rw [List.replicate_zero,dnS]
 | succ n ih=>rw [List.replicate_succ,dnS,ih,dnR];omega
mutual
theorem aMf:∀ r:Rw,drR r = true->1<=dnR r
 | .pl p,_=>by rw [dnR];exact Nat.le_refl _
 | .ag n rs,h=>by
  rw [drR,Bool.and_eq_true] at h
  have:=xX rs h.2
  have n0:0 < n:=by have:=h.1;simp at this;omega
  rw [dnR];exact Nat.mul_pos this n0
 | .kp rs,h=>by rw [drR] at h;rw [dnR];exact xX rs h
 | .ev rs,h=>by rw [drR] at h;rw [dnR];exact xX rs h
theorem xX:∀ rs:List Rw,drS rs = true->1<=dnS rs
 | [],h=>by rw [drS] at h;cases h
 | r :: rs,h=>by
  rw [drS,Bool.or_eq_true] at h
  rw [dnS]
  rcases h with z | z
  ·have:=aMf r z;omega
  ·have:=xX rs z;omega
end
theorem aMg {rs:List Rw} (h:enB rs = true):drS rs = true:=by
 unfold enB at h
 rw [Bool.and_eq_true,Bool.and_eq_true] at h
 exact h.2.2
theorem aIy {F:Pl->Prop} {i m:Nat} {rs:List Rw} (h:zO F i m rs) (fd:F .dot) (fg:F (.grow (1 / 12))):(∀ r ∈ cM rs,Dp (4 - i) r)/\(cM rs).length<=m + 2/\dnS (cM rs)<=Fc m + 2/\gwS 690 (cM rs)/\alS F (cM rs)/\ltS (cM rs)/\hmS (cM rs)<=3 * m + 2:=by
 have one:∀ b:Bool,(if b = true then 0 else 1)<=1:=fun b=>by cases b<;>decide
 have pl:∀ {d:Nat} {p:Pl},Dp d (.pl p):=fun {d p}=>by unfold Dp;trivial
 unfold cM dW
 have o1:=one (drS rs)
 generalize (if drS rs = true then 0 else 1) = k1 at o1 ⊢
 have o2:=one (enB (rs ++ List.replicate k1 (.pl .dot)))
 generalize (if enB (rs ++ List.replicate k1 (.pl .dot)) = true then 0 else 1) = k2 at o2 ⊢
 refine ⟨fun r hr=>?_,?_,?_,jE.mpr ⟨jE.mpr ⟨h.gw,aBN (by rw [gwR];trivial;intro _ z;cases z)⟩,aBN (by rw [gwR];exact ⟨1,12,by decide,by decide,by decide +kernel⟩)⟩,nS.mpr ⟨nS.mpr ⟨h.al,aFu (by rw [alR];exact fd)⟩,aFu (by rw [alR];exact fg)⟩,nL.mpr ⟨nL.mpr ⟨h.lt.1,uH.1⟩,uH.1⟩,by rw [gH,gH,uH.2,uH.2];have:=h.lt.2;omega⟩
 ·rcases List.mem_append.mp hr with z | z
  ·rcases List.mem_append.mp z with y | y
   ·exact h.dp r y
   ·rw [(List.mem_replicate.mp y).2];exact pl
  ·rw [(List.mem_replicate.mp z).2];exact pl
 ·rw [List.length_append,List.length_append,List.length_replicate,List.length_replicate]
  have:=h.len
  omega
 ·rw [gA,gA,aGY,aGY]
  have:=h.dn
  omega
theorem aNF {F:Pl->Prop} {i m n:Nat} {rs:List Rw} {wd:Str} (h:zO F (i + 1) m rs) (hi:i + 1<=4) (hm:m<=38) (hn:n<=12) (fd:F .dot) (fg:F (.grow (1 / 12))):Dp (4 - i) (clE wd n rs)/\dnR (clE wd n rs)<=Fc (m + 2)/\gwR 690 (clE wd n rs)/\alR F (clE wd n rs)/\ltR (clE wd n rs)/\hmR (clE wd n rs)<=3 * (m + 2):=by
 obtain ⟨e1,e2,e3,e4,e5,e6,e7⟩:=aIy h fd fg
 obtain ⟨t1,t2⟩:=h.lt
 have d4:4 - i = (4 - (i + 1)) + 1:=by omega
 have f2:=aL3 m
 have fl:=aI7 (m:=m)
 have hl:=h.len
 have hd:=h.dn
 have fm:=aIk (show m<=m + 2 by omega)
 unfold clE
 rw [d4]
 by_cases c1:wd = "again"
 ·rw [if_pos c1]
  refine ⟨⟨?_,by omega,h.dp⟩,?_,by rw [gwR];exact ⟨by omega,h.gw⟩,by rw [alR];exact h.al,by rw [ltR];exact ⟨by split<;>omega,t1⟩,by rw [hmR];omega⟩
  ·split<;>omega
  ·rw [dnR]
   by_cases c:90 < n * dnS rs
   ·rw [if_pos c];omega
   ·rw [if_neg c,Nat.mul_comm];exact aFw hd hn (by omega)
 ·rw [if_neg c1]
  by_cases c2:wd = "ever"
  ·rw [if_pos c2]
   cases hb:enB (cM rs) with
   | true=>exact ⟨⟨by omega,e1⟩,by show dnR (.ev _)<=_;rw [dnR];omega,by show gwR _ (.ev _);rw [gwR];exact ⟨⟨xX _ (aMg hb),by omega⟩,e4⟩,by show alR _ (.ev _);rw [alR];exact e5,by show ltR (.ev _);rw [ltR];exact e6,by show hmR (.ev _)<=_;rw [hmR];omega⟩
   | false=>exact ⟨⟨by omega,e1⟩,by show dnR (.kp _)<=_;rw [dnR];omega,by show gwR _ (.kp _);rw [gwR];exact ⟨by omega,e4⟩,by show alR _ (.kp _);rw [alR];exact e5,by show ltR (.kp _);rw [ltR];exact e6,by show hmR (.kp _)<=_;rw [hmR];omega⟩
  ·rw [if_neg c2]
   exact ⟨⟨by omega,h.dp⟩,by rw [dnR];omega,by rw [gwR];exact ⟨by omega,h.gw⟩,by rw [alR];exact h.al,by rw [ltR];exact t1,by rw [hmR];omega⟩
theorem zO.blk {F:Pl->Prop} {i m k:Nat} {us:List Rw} {r:Rw} (h:zO F i m us) (k0:0 < k) (b1:Dp (4 - i) r) (b2:dnR r<=Fc k) (b3:gwR 690 r) (b4:alR F r) (b5:ltR r) (b6:hmR r<=3 * k):zO F i (m + k) (us ++ [r]):=by
 refine ⟨fun x hx=>?_,by rw [List.length_append];have:=h.len;show us.length + 1<=m + k;omega,?_,jE.mpr ⟨h.gw,by rw [gwS,gwS];exact ⟨b3,trivial⟩⟩,nS.mpr ⟨h.al,by rw [alS,alS];exact ⟨b4,trivial⟩⟩,nL.mpr ⟨h.lt.1,by rw [ltS,ltS];exact ⟨b5,trivial⟩⟩,by rw [gH,hmS,hmS];have:=h.lt.2;omega⟩
 ·rcases List.mem_append.mp hx with z | z
  ·exact h.dp x z
  ·rw [List.mem_singleton.mp z];exact b1
 ·rw [gA,dnS,dnS]
  have:=h.dn
  have:=aGC m k
  omega
noncomputable abbrev Es:=List (En × Nat)
noncomputable def esD (es:Es):List D:=es.map fun x=>enD x.1
noncomputable def wd3 (w:Str):Prop:=w = "again" ∨ w = "keep" ∨ w = "ever"
structure SI (F:Pl->Prop) (B M:DM) (st:Addr) (es:Es) (c:Nat):Prop where
 sub:aW B M
 new:B st = none
 hst:M st = some (esD es)
 len:es.length<=5
 sum:(es.map (·.2)).sum + es.length<=c + 1
 ent:∀ (i:Nat) x,es[i]? = some x->(zO F i x.2 x.1.rs/\M x.1.a = some (bG x.1.rs)/\B x.1.a = none)/\st ≠ x.1.a/\x.1.n<=12/\(0 < i->wd3 x.1.wd)
 nod:(es.map (·.1.a)).Nodup
theorem sK {B M M':DM} {as:List Addr} (s:aW B M) (k:fR M M' as) (n:∀ a ∈ as,B a = none):aW B M':=fun a x e=>k a (fun b hb z=>by rw [z,n b hb] at e;cases e) x (s _ _ e)
theorem tL {α:Type} {xs:List α} {y:α} {i:Nat} {x:α} (h:(xs ++ [y])[i]? = some x):xs[i]? = some x ∨ (i = xs.length/\x = y):=by
 rw [List.getElem?_append] at h
 split at h
 ·exact .inl h
 ·rename_i l
  have:i - xs.length = 0:=by
   cases hk:i - xs.length with
   | zero=>rfl
   | succ k=>rw [hk] at h;simp at h
  rw [this] at h
  simp at h
  exact .inr ⟨by omega,h.symm⟩
theorem SI.top {F:Pl->Prop} {B M M':DM} {st:Addr} {es:Es} {u:En} {m m' c c':Nat} {rs':List Rw} (h:SI F B M st (es ++ [(u,m)]) c) (hs:M' st = some (esD (es ++ [(u,m)]))) (hu:M' u.a = some (bG rs')) (k:fR M M' [st,u.a]) (ok:zO F es.length m' rs') (hc:(es.map (·.2)).sum + m' + es.length<=c'):SI F B M' st (es ++ [({ u with rs:=rs' },m')]) c':=by
 have hend:(es ++ [(u,m)])[es.length]? = some (u,m):=by rw [List.getElem?_append_right (Nat.le_refl _)];simp
 have hu0:=h.ent _ _ hend
 refine ⟨sK h.sub k fun a ha=>?_,h.new,?_,?_,?_,fun i x hx=>?_,?_⟩
 ·rcases List.mem_cons.mp ha with rfl | z
  ·exact h.new
  ·rw [List.mem_singleton.mp z];exact hu0.1.2.2
 ·rw [hs];unfold esD;rw [List.map_append,List.map_append];rfl
 ·have:=h.len
  rw [List.length_append] at *;exact this
 ·rw [List.map_append,List.sum_append,List.length_append]
  simp
  omega
 ·rcases tL hx with z | ⟨rfl,rfl⟩
  ·have hi:=(List.getElem?_eq_some_iff.mp z).1
   have hx0:(es ++ [(u,m)])[i]? = some x:=by rw [List.getElem?_append_left hi];exact z
   obtain ⟨⟨a1,a2,a3⟩,a4,a5⟩:=h.ent i x hx0
   refine ⟨⟨a1,k _ (fun b hb y=>?_) _ a2,a3⟩,a4,a5⟩
   rcases List.mem_cons.mp hb with rfl | z2
   ·cases y;exact a4 rfl
   ·rw [List.mem_singleton.mp z2] at y
    have nd:=h.nod
    rw [List.map_append,List.nodup_append] at nd
    have:=nd.2.2 x.1.a (List.mem_map.mpr ⟨x,List.mem_of_getElem? z,rfl⟩) u.a (by simp)
    exact this (by injection y)
  ·exact ⟨⟨ok,hu,hu0.1.2.2⟩,hu0.2.1,hu0.2.2.1,hu0.2.2.2⟩
 ·have nd:=h.nod
  rw [List.map_append] at *;exact nd
theorem SI.push {F:Pl->Prop} {B M M':DM} {st a:Addr} {es:Es} {wd:Str} {n c c':Nat} (h:SI F B M st es c) (hl:es.length < 5) (ha:M a = none) (hs:M' st = some (esD (es ++ [(⟨wd,n,a,[]⟩,0)]))) (hu:M' a = some []) (k:fR M M' [st,a]) (hw:wd3 wd) (hn:n<=12) (hc:c + 1<=c'):SI F B M' st (es ++ [(⟨wd,n,a,[]⟩,0)]) c':=by
 have fresh:∀ b:Addr,(∃ x,M b = some x)->b ≠ a:=fun b ⟨x,e⟩ z=>by rw [z,ha] at e;cases e
 have ba:B a = none:=by
  cases e:B a with
  | none=>rfl
  | some x=>rw [h.sub _ _ e] at ha;cases ha
 refine ⟨sK h.sub k fun b hb=>?_,h.new,hs,by rw [List.length_append];exact hl,?_,fun i x hx=>?_,?_⟩
 ·rcases List.mem_cons.mp hb with rfl | z
  ·exact h.new
  ·rw [List.mem_singleton.mp z];exact ba
 ·have:=h.sum
  rw [List.map_append,List.sum_append,List.length_append]
  simp
  omega
 ·rcases tL hx with z | ⟨rfl,rfl⟩
  ·obtain ⟨⟨a1,a2,a3⟩,a4,a5⟩:=h.ent i x z
   refine ⟨⟨a1,k _ (fun b hb y=>?_) _ a2,a3⟩,a4,a5⟩
   rcases List.mem_cons.mp hb with rfl | z2
   ·exact a4 (by injection y with y;exact y.symm)
   ·rw [List.mem_singleton.mp z2] at y
    exact fresh _ ⟨_,a2⟩ (by injection y)
  ·refine ⟨⟨⟨(fun r hr=>nomatch hr),Nat.le_refl _,(by show dnS []<=_;rw [dnS];exact Nat.zero_le _),(by show gwS _ [];rw [gwS];trivial),(by show alS _ [];rw [alS];trivial),(by show ltS [];rw [ltS];trivial),(by show hmS []<=_;rw [hmS];exact Nat.zero_le _)⟩,hu,ba⟩,fresh _ ⟨_,h.hst⟩,hn,fun _=>hw⟩
 ·rw [List.map_append,List.nodup_append]
  refine ⟨h.nod,by simp,fun b hb d hd=>?_⟩
  rw [List.mem_singleton.mp hd]
  obtain ⟨x,hx,rfl⟩:=List.mem_map.mp hb
  obtain ⟨i,hi⟩:=List.mem_iff_getElem?.mp hx
  exact fresh _ ⟨_,(h.ent i x hi).1.2.1⟩
theorem SI.close {F:Pl->Prop} {B M M':DM} {st:Addr} {es:Es} {u e:En} {m m' c:Nat} (h:SI F B M st (es ++ [(u,m),(e,m')]) c) (hs:M' st = some (esD (es ++ [(u,m)]))) (hu:M' u.a = some (bG (u.rs ++ [clE e.wd e.n e.rs]))) (kp:fR M M' [st,u.a]) (fd:F .dot) (fg:F (.grow (1 / 12))) (hc:c<=39):SI F B M' st (es ++ [({ u with rs:=u.rs ++ [clE e.wd e.n e.rs] },m + (m' + 2))]) (c + 1):=by
 have spl:es ++ [(u,m),(e,m')] = (es ++ [(u,m)]) ++ [(e,m')]:=by simp
 rw [spl] at h
 have he:((es ++ [(u,m)]) ++ [(e,m')])[(es ++ [(u,m)]).length]? = some (e,m'):=by rw [List.getElem?_append_right (Nat.le_refl _)];simp
 have he0:=h.ent _ _ he
 have hun:((es ++ [(u,m)]) ++ [(e,m')])[es.length]? = some (u,m):=by
  rw [List.getElem?_append_left (by rw [List.length_append];show _ < _ + 1;omega),List.getElem?_append_right (Nat.le_refl _)];simp
 have hu0:=h.ent _ _ hun
 have sm:=h.sum
 have ln:=h.len
 rw [List.map_append,List.map_append,List.sum_append,List.sum_append,List.length_append,List.length_append] at sm
 simp at sm
 rw [List.length_append,List.length_append] at ln
 simp at ln
 have l1:(es ++ [(u,m)]).length = es.length + 1:=by rw [List.length_append];rfl
 rw [l1] at he0
 obtain ⟨b1,b2,b3,b4,b5,b6⟩:=aNF (wd:=e.wd) (n:=e.n) he0.1.1 (by omega) (by show m'<=38;omega) he0.2.2.1 fd fg
 have ok:=hu0.1.1.blk (k:=m' + 2) (by omega) b1 b2 b3 b4 b5 b6
 refine ⟨sK h.sub kp fun a ha=>?_,h.new,?_,by rw [List.length_append];show es.length + 1<=5;omega,?_,fun i x hx=>?_,?_⟩
 ·rcases List.mem_cons.mp ha with rfl | z
  ·exact h.new
  ·rw [List.mem_singleton.mp z];exact hu0.1.2.2
 ·rw [hs];unfold esD;rw [List.map_append,List.map_append];rfl
 ·rw [List.map_append,List.sum_append,List.length_append]
  simp
  omega
 ·rcases tL hx with z | ⟨rfl,rfl⟩
  ·have hi:=(List.getElem?_eq_some_iff.mp z).1
   have hx0:((es ++ [(u,m)]) ++ [(e,m')])[i]? = some x:=by
    rw [List.getElem?_append_left (by rw [l1];omega),List.getElem?_append_left hi];exact z
   obtain ⟨⟨a1,a2,a3⟩,a4,a5⟩:=h.ent i x hx0
   refine ⟨⟨a1,kp _ (fun b hb y=>?_) _ a2,a3⟩,a4,a5⟩
   rcases List.mem_cons.mp hb with rfl | z2
   ·exact a4 (by injection y with y;exact y.symm)
   ·rw [List.mem_singleton.mp z2] at y
    have nd:=h.nod
    rw [List.map_append,List.nodup_append,List.map_append,List.nodup_append] at nd
    exact nd.1.2.2 x.1.a (List.mem_map.mpr ⟨x,List.mem_of_getElem? z,rfl⟩) u.a (by simp) (by injection y)
  ·exact ⟨⟨ok,hu,hu0.1.2.2⟩,hu0.2.1,hu0.2.2.1,hu0.2.2.2⟩
 ·have nd:=h.nod
  rw [List.map_append,List.nodup_append] at nd
  have:=nd.1
  rw [List.map_append] at *;exact this
noncomputable def aCM:D:=.tup [.int 0,.int 1]
noncomputable def eK:DSp:=fun ds M Q=>∃ x y t,ds = [PQ x y,.int t]/\Q (FR x y t 1 1) M
noncomputable abbrev rO:Stmt:=top 34
theorem aCt:aQ ["place","turns"] ["place","turns"] (aJ rO):=⟨rfl,rfl,rfl,by decide +kernel,rfl,by decide +kernel,by decide +kernel⟩
theorem aBz (hF:bX K mg "at_place" rO ["place","turns"]) (kR:fC K mg "ONE" aDf):Has P w K mg base 101 "at_place" ["place","turns"] eK:=by
 refine Has.mkZ hF aCt (fun ds M Q ⟨a,b,c,z,_⟩=>by rw [z];rfl) fun f cdv A outer s H ds M Q E hr h=>?_
 obtain ⟨x,y,t,rfl,q⟩:=h
 refine ⟨_,(aE (aM (aR (aA (aB 0) (aA (aB 1) (aA aC (aA (bE kR) aD))))))),?_⟩
 decreasing_tactic
 exact ⟨by decide,M,.refl _,q⟩
noncomputable def gF (B:Nat) (ok:Pl->Prop):DSp:=fun ds M Q=>∃ p,ds = [plD p]/\ok p/\plB B p/\Q (.tup [lgO (aBw p),FmD (aFW p)]) M
theorem fL {B:Nat} {ok:Pl->Prop} (ds:List D) (M:DM) (Q:DQ) (h:gF B ok ds M Q):ds.length = 1:=by obtain ⟨p,rfl,_⟩:=h;rfl
noncomputable def mU:DSp:=fun ds M Q=>∃ (x:Str) (a b:Rat),ds = [.tup [.str x,FQ a,FQ b]]/\Q (.tup [lgD (.st 0 0 a b),FmD ⟨a,b,0,1,1⟩]) M
noncomputable abbrev pT:Stmt:=top 36
theorem sR:aQ ["row","place"] ["row"] (aJ pT):=⟨rfl,rfl,rfl,by decide +kernel,rfl,by decide +kernel,by decide +kernel⟩
theorem aAd (hF:bX K mg "side_deed" pT ["row"]) (bF:fC K mg "MIDDLE" tM) (bK:Has P w K mg base 101 "at_place" ["place","turns"] eK):Has P w K mg base 102 "side_deed" ["row"] mU:=by
 refine Has.mkZ hF sR (fun ds M Q ⟨a,b,c,z,_⟩=>by rw [z];rfl) fun f cdv A outer s H ds M Q E hr h=>?_
 obtain ⟨x,a,b,rfl,q⟩:=h
 refine ⟨_,(aF (aO (i:=1) sR.nd (aR (aA (aH (aB 0) aC) (aA (aH (aB 0) aC) aD))))
  (aE (aM (aR (aA (aR (aA aN (aA (bE bF) (aA (aB 1) aD)))) (aA (aG bK hr (by decide) (aA (aB 1) (aA aC aD))) aD)))))),?_⟩
 decreasing_tactic
 refine ⟨by decide,by decide,a,b,0,rfl,?_⟩
 decreasing_tactic
 exact ⟨by decide,M,.refl _,q⟩
noncomputable def yR:DSp:=gF 900 fun p=>∃ a,p = .go a
noncomputable abbrev uI:Stmt:=top 35
theorem aDc:aQ ["row"] ["row"] (aJ uI):=⟨rfl,rfl,rfl,by decide +kernel,rfl,by decide +kernel,by decide +kernel⟩
theorem aCn (hF:bX K mg "go_deed" uI ["row"]) (dN:fC K mg "NOTHING" aCM) (iF:Has P w K mg base 102 "side_deed" ["row"] mU):Has P w K mg base 103 "go_deed" ["row"] yR:=by
 refine Has.mkZ hF aDc fL fun f cdv A outer s H ds M Q E hr h=>?_
 obtain ⟨p,rfl,⟨a,rfl⟩,b,q⟩:=h
 refine ⟨_,(aE (aM (aG iF hr (by decide) (aA (aR (aA aN (aA (aH (aB 0) aC) (aA (bE dN) aD)))) aD)))),?_⟩
 dsimp only [plD]
 decreasing_tactic
 refine ⟨by decide,"side",a,0,rfl,?_⟩
 exact ⟨M,.refl _,q⟩
noncomputable def sG:DSp:=gF 900 fun p=>∃ a,p = .skip a
noncomputable abbrev oV:Stmt:=top 37
theorem aBp:aQ ["row"] ["row"] (aJ oV):=⟨rfl,rfl,rfl,by decide +kernel,rfl,by decide +kernel,by decide +kernel⟩
theorem zS (hF:bX K mg "skip_deed" oV ["row"]) (dN:fC K mg "NOTHING" aCM) (bK:Has P w K mg base 101 "at_place" ["place","turns"] eK):Has P w K mg base 103 "skip_deed" ["row"] sG:=by
 refine Has.mkZ hF aBp fL fun f cdv A outer s H ds M Q E hr h=>?_
 obtain ⟨p,rfl,⟨a,rfl⟩,b,q⟩:=h
 refine ⟨_,(aE (aM (aR (aA cZ (aA (aG bK hr (by decide) (aA (aR (aA (aH (aB 0) aC) (aA (bE dN) aD))) (aA aC aD))) aD))))),?_⟩
 dsimp only [plD]
 decreasing_tactic
 refine ⟨by decide,a,0,0,rfl,?_⟩
 decreasing_tactic
 exact ⟨by decide,M,.refl _,q⟩
noncomputable def vM:DSp:=gF 900 fun p=>p = .dot
noncomputable abbrev rP:Stmt:=top 38
theorem aCr:aQ ["row"] ["row"] (aJ rP):=⟨rfl,rfl,rfl,by decide +kernel,rfl,by decide +kernel,by decide +kernel⟩
theorem aBv (hF:bX K mg "dot_deed" rP ["row"]) (bF:fC K mg "MIDDLE" tM) (aAO:Has P w K mg base 101 "first" [] aCG):Has P w K mg base 103 "dot_deed" ["row"] vM:=by
 refine Has.mkZ hF aCr fL fun f cdv A outer s H ds M Q E hr h=>?_
 obtain ⟨p,rfl,rfl,b,q⟩:=h
 refine ⟨_,(aE (aM (aR (aA (aR (aA aN (aA (bE bF) (aA (bE bF) aD)))) (aA (aDw aAO hr (by decide)) aD))))),?_⟩
 decreasing_tactic
 refine ⟨by decide,rfl,?_⟩
 decreasing_tactic
 exact ⟨by decide,M,.refl _,q⟩
noncomputable def sE:DSp:=gF 900 fun p=>p = .left
noncomputable abbrev oJ:Stmt:=top 39
theorem aAW:aQ ["row"] ["row"] (aJ oJ):=⟨rfl,rfl,rfl,by decide +kernel,rfl,by decide +kernel,by decide +kernel⟩
theorem zT (hF:bX K mg "left_deed" oJ ["row"]) (bF:fC K mg "MIDDLE" tM) (bK:Has P w K mg base 101 "at_place" ["place","turns"] eK):Has P w K mg base 103 "left_deed" ["row"] sE:=by
 refine Has.mkZ hF aAW fL fun f cdv A outer s H ds M Q E hr h=>?_
 obtain ⟨p,rfl,rfl,b,q⟩:=h
 refine ⟨_,(aE (aM (aR (aA cZ (aA (aG bK hr (by decide) (aA (bE bF) (aA aC aD))) aD))))),?_⟩
 decreasing_tactic
 refine ⟨0,0,1,rfl,?_⟩
 decreasing_tactic
 exact ⟨by decide,M,.refl _,q⟩
noncomputable def qX:DSp:=gF 900 fun p=>p = .rnd
noncomputable abbrev nH:Stmt:=top 40
theorem aAh:aQ ["row"] ["row"] (aJ nH):=⟨rfl,rfl,rfl,by decide +kernel,rfl,by decide +kernel,by decide +kernel⟩
theorem wX (hF:bX K mg "round_deed" nH ["row"]) (bF:fC K mg "MIDDLE" tM) (bK:Has P w K mg base 101 "at_place" ["place","turns"] eK):Has P w K mg base 103 "round_deed" ["row"] qX:=by
 refine Has.mkZ hF aAh fL fun f cdv A outer s H ds M Q E hr h=>?_
 obtain ⟨p,rfl,rfl,b,q⟩:=h
 refine ⟨_,(aE (aM (aR (aA cZ (aA (aG bK hr (by decide) (aA (bE bF) (aA aC aD))) aD))))),?_⟩
 decreasing_tactic
 refine ⟨0,0,2,rfl,?_⟩
 decreasing_tactic
 exact ⟨by decide,M,.refl _,q⟩
noncomputable def qT:DSp:=gF 900 fun p=>p = .right
noncomputable abbrev nF:Stmt:=top 41
theorem aAe:aQ ["row"] ["row"] (aJ nF):=⟨rfl,rfl,rfl,by decide +kernel,rfl,by decide +kernel,by decide +kernel⟩
theorem wZ (hF:bX K mg "right_deed" nF ["row"]) (bF:fC K mg "MIDDLE" tM) (bK:Has P w K mg base 101 "at_place" ["place","turns"] eK):Has P w K mg base 103 "right_deed" ["row"] qT:=by
 refine Has.mkZ hF aAe fL fun f cdv A outer s H ds M Q E hr h=>?_
 obtain ⟨p,rfl,rfl,b,q⟩:=h
 refine ⟨_,(aE (aM (aR (aA cZ (aA (aG bK hr (by decide) (aA (bE bF) (aA aC aD))) aD))))),?_⟩
 decreasing_tactic
 refine ⟨0,0,3,rfl,?_⟩
 decreasing_tactic
 exact ⟨by decide,M,.refl _,q⟩
noncomputable def pQ:DSp:=gF 900 fun p=>p = .mirror
noncomputable abbrev lH:Stmt:=top 42
theorem wU:aQ ["row"] ["row"] (aJ lH):=⟨rfl,rfl,rfl,by decide +kernel,rfl,by decide +kernel,by decide +kernel⟩
theorem wB (hF:bX K mg "mirror_deed" lH ["row"]) (bF:fC K mg "MIDDLE" tM) (kR:fC K mg "ONE" aDf):Has P w K mg base 103 "mirror_deed" ["row"] pQ:=by
 refine Has.mkZ hF wU fL fun f cdv A outer s H ds M Q E hr h=>?_
 obtain ⟨p,rfl,rfl,b,q⟩:=h
 refine ⟨_,(aE (aM (aR (aA cZ (aA (aR (aA (bE bF) (aA aC (aA (eL aC) (aA (bE kR) aD))))) aD))))),?_⟩
 decreasing_tactic
 exact ⟨by decide,by decide,M,.refl _,q⟩
noncomputable def tI:DSp:=gF 900 fun p=>∃ a,p = .grow a
noncomputable abbrev pE:Stmt:=top 43
theorem aBc:aQ ["row"] ["row"] (aJ pE):=⟨rfl,rfl,rfl,by decide +kernel,rfl,by decide +kernel,by decide +kernel⟩
theorem zW (hF:bX K mg "grow_deed" pE ["row"]) (bF:fC K mg "MIDDLE" tM):Has P w K mg base 103 "grow_deed" ["row"] tI:=by
 refine Has.mkZ hF aBc fL fun f cdv A outer s H ds M Q E hr h=>?_
 obtain ⟨p,rfl,⟨a,rfl⟩,b,q⟩:=h
 refine ⟨_,(aE (aM (aR (aA cZ (aA (aR (aA (bE bF) (aA aC (aA aC (aA (aH (aB 0) aC) aD))))) aD))))),?_⟩
 dsimp only [plD]
 decreasing_tactic
 exact ⟨by decide,by decide,M,.refl _,q⟩
theorem lD {a:Rat}:0 < a.num ↔ 0 < a:=by rw [Rat.lt_iff];simp
noncomputable def oA:DSp:=gF 900 fun p=>∃ a,p = .quarter a
noncomputable abbrev kM:Stmt:=top 44
theorem jN:aQ ["row","a","place"] ["row"] (aJ kM):=⟨rfl,rfl,rfl,by decide +kernel,rfl,by decide +kernel,by decide +kernel⟩
theorem uG (hF:bX K mg "quarter_deed" kM ["row"]) (bF:fC K mg "MIDDLE" tM) (dN:fC K mg "NOTHING" aCM) (bK:Has P w K mg base 101 "at_place" ["place","turns"] eK):Has P w K mg base 103 "quarter_deed" ["row"] oA:=by
 refine Has.mkZ hF jN fL fun f cdv A outer s H ds M Q E hr h=>?_
 obtain ⟨p,rfl,⟨a,rfl⟩,b,q⟩:=h
 refine ⟨_,(aF (aO (i:=1) jN.nd (aH (aB 0) aC))
  (aF (aX (aP iD (aH (aB 1) aC) aC) (aE (aM (aR (aA (aR (aA aN (aA (aR (aA (bE dN) (aA (aB 1) aD))) (aA (bE bF) (aA (aR (aA (aB 1) (aA (aB 1) aD))) (aA aC aD)))))) (aA (aG bK hr (by decide) (aA (aR (aA (aB 1) (aA (aB 1) aD))) (aA aC aD))) aD))))) aT)
  (aF (aO (i:=2) jN.nd (aR (aA (aR (aA (eL (aH (aB 1) aC)) (aA (aH (aB 1) aC) aD))) (aA (aB 1) aD))))
  (aE (aM (aR (aA (aR (aA aN (aA (aR (aA (bE dN) (aA (aB 1) aD))) (aA (bE bF) (aA (aB 2) (aA (eL aC) aD)))))) (aA (aG bK hr (by decide) (aA (aB 2) (aA aC aD))) aD)))))))),?_⟩
 dsimp only [plD]
 decreasing_tactic
 dsimp only [aBw,aFW] at q
 by_cases c:0 < a
 ·rw [if_pos c,if_pos c] at q
  refine ifT (decide_eq_true (lD.mpr c)) ⟨by decide,by decide,by decide,by decide,a,a,1,rfl,?_⟩
  decreasing_tactic
  exact ⟨by decide,M,.refl _,q⟩
 ·rw [if_neg c,if_neg c] at q
  refine ifF (decide_eq_false fun z=>c (lD.mp z)) ⟨by decide,by decide,by decide,by decide,?_⟩
  rw [aHR]
  refine ⟨-a,a,3,rfl,?_⟩
  decreasing_tactic
  exact ⟨by decide,M,.refl _,q⟩
noncomputable def sZ:DSp:=gF 900 fun p=>∃ a,p = .half a
noncomputable abbrev pA:Stmt:=top 45
theorem sQ:aQ ["row","place"] ["row"] (aJ pA):=⟨rfl,rfl,rfl,by decide +kernel,rfl,by decide +kernel,by decide +kernel⟩
theorem zR (hF:bX K mg "half_deed" pA ["row"]) (bF:fC K mg "MIDDLE" tM) (dN:fC K mg "NOTHING" aCM) (aCX:Has P w K mg base 102 "plus" ["one","other"] aBF) (bK:Has P w K mg base 101 "at_place" ["place","turns"] eK):Has P w K mg base 103 "half_deed" ["row"] sZ:=by
 refine Has.mkZ hF sQ fL fun f cdv A outer s H ds M Q E hr h=>?_
 obtain ⟨p,rfl,⟨a,rfl⟩,b,q⟩:=h
 refine ⟨_,(aF (aO (i:=1) sQ.nd (aR (aA (bE dN) (aA (aG aCX hr (by decide) (aA (aH (aB 0) aC) (aA (aH (aB 0) aC) aD))) aD))))
  (aE (aM (aR (aA (aR (aA aN (aA (aR (aA (bE dN) (aA (aH (aB 0) aC) aD))) (aA (bE bF) (aA (aB 1) (aA (eJ (aP iD (aH (aH (aB 0) aC) aC) aC) aC (eL aC)) aD)))))) (aA (aG bK hr (by decide) (aA (aB 1) (aA aC aD))) aD)))))),?_⟩
 dsimp only [plD]
 decreasing_tactic
 dsimp only [aBw,aFW] at q
 refine ⟨a,a,900,900,rfl,trivial,b.1,b.1,by decide,by decide,by decide,?_⟩
 decreasing_tactic
 by_cases c:0 < a
 ·rw [if_pos c] at q
  refine ifT (decide_eq_true (lD.mpr c)) ⟨by decide,0,a + a,2,rfl,?_⟩
  decreasing_tactic
  exact ⟨by decide,M,.refl _,q⟩
 ·rw [if_neg c] at q
  refine ifF (decide_eq_false fun z=>c (lD.mp z)) ⟨by decide,0,a + a,2,rfl,?_⟩
  decreasing_tactic
  exact ⟨by decide,M,.refl _,q⟩
noncomputable def vF:DSp:=gF 900 fun p=>∃ a b c d,p = .arc a b c d
noncomputable abbrev rZ:Stmt:=top 46
theorem vL:aQ ["row","place"] ["row"] (aJ rZ):=⟨rfl,rfl,rfl,by decide +kernel,rfl,by decide +kernel,by decide +kernel⟩
theorem aBx (hF:bX K mg "arc_deed" rZ ["row"]) (bF:fC K mg "MIDDLE" tM) (bK:Has P w K mg base 101 "at_place" ["place","turns"] eK):Has P w K mg base 103 "arc_deed" ["row"] vF:=by
 refine Has.mkZ hF vL fL fun f cdv A outer s H ds M Q E hr h=>?_
 obtain ⟨p,rfl,⟨a,b,c,d,rfl⟩,bb,q⟩:=h
 refine ⟨_,(aF (aO (i:=1) vL.nd (aR (aA (aH (aB 0) aC) (aA (aH (aB 0) aC) aD))))
  (aE (aM (aR (aA (aR (aA aN (aA (aR (aA (aH (aB 0) aC) (aA (aH (aB 0) aC) aD))) (aA (bE bF) (aA (aB 1) (aA aC aD)))))) (aA (aG bK hr (by decide) (aA (aB 1) (aA aC aD))) aD)))))),?_⟩
 dsimp only [plD]
 decreasing_tactic
 refine ⟨by decide,by decide,by decide,c,d,0,rfl,?_⟩
 decreasing_tactic
 exact ⟨by decide,M,.refl _,q⟩
noncomputable def aNH:List (Str × Str):=[("go","go_deed"),("skip","skip_deed"),("side","side_deed"),("dot","dot_deed"),("left","left_deed"),("right","right_deed"),("round","round_deed"),("mirror","mirror_deed"),("grow","grow_deed"),("quarter","quarter_deed"),("half","half_deed"),("arc","arc_deed")]
noncomputable def yD:DSp:=gF 900 fun _=>True
noncomputable abbrev uE:Stmt:=top 48
theorem xY:aQ ["row","deed"] ["row"] (aJ uE):=⟨rfl,rfl,rfl,by decide +kernel,rfl,by decide +kernel,by decide +kernel⟩
theorem aB2 (hF:bX K mg "deed_of" uE ["row"]) (aBm:aHE w K mg "DEEDS" aNH) (uT:Has P w K mg base 103 "go_deed" ["row"] yR) (iF:Has P w K mg base 102 "side_deed" ["row"] mU) (qB:Has P w K mg base 103 "skip_deed" ["row"] sG) (sC:Has P w K mg base 103 "dot_deed" ["row"] vM) (oQ:Has P w K mg base 103 "left_deed" ["row"] sE) (mW:Has P w K mg base 103 "round_deed" ["row"] qX) (nP:Has P w K mg base 103 "right_deed" ["row"] qT) (lQ:Has P w K mg base 103 "mirror_deed" ["row"] pQ) (pG:Has P w K mg base 103 "grow_deed" ["row"] tI) (kP:Has P w K mg base 103 "quarter_deed" ["row"] oA) (pW:Has P w K mg base 103 "half_deed" ["row"] sZ) (rG:Has P w K mg base 103 "arc_deed" ["row"] vF):Has P w K mg base 104 "deed_of" ["row"] yD:=by
 refine Has.mkZ hF xY fL fun f cdv A outer s H ds M Q E hr h=>?_
 obtain ⟨p,rfl,_,b,q⟩:=h
 refine ⟨_,(aF (aO (i:=1) xY.nd (aIf aBm (aH (aB 0) aC)))
  (aE (aM (aEV (j:=103) (aB 1) hr (by decide) (aA (aB 0) aD))))),?_⟩
 have q':=aZ q
 cases p with
 | go a=>exact ⟨"go_deed",rfl,fun f hf=>⟨_,_,_,hf,uT,_,rfl,⟨a,rfl⟩,b,q'⟩⟩
 | side a c=>exact ⟨"side_deed",rfl,fun f hf=>⟨_,_,_,hf,iF.mono (by decide),_,a,c,rfl,q'⟩⟩
 | skip a=>exact ⟨"skip_deed",rfl,fun f hf=>⟨_,_,_,hf,qB,_,rfl,⟨a,rfl⟩,b,q'⟩⟩
 | dot=>exact ⟨"dot_deed",rfl,fun f hf=>⟨_,_,_,hf,sC,_,rfl,rfl,b,q'⟩⟩
 | left=>exact ⟨"left_deed",rfl,fun f hf=>⟨_,_,_,hf,oQ,_,rfl,rfl,b,q'⟩⟩
 | right=>exact ⟨"right_deed",rfl,fun f hf=>⟨_,_,_,hf,nP,_,rfl,rfl,b,q'⟩⟩
 | rnd=>exact ⟨"round_deed",rfl,fun f hf=>⟨_,_,_,hf,mW,_,rfl,rfl,b,q'⟩⟩
 | mirror=>exact ⟨"mirror_deed",rfl,fun f hf=>⟨_,_,_,hf,lQ,_,rfl,rfl,b,q'⟩⟩
 | grow a=>exact ⟨"grow_deed",rfl,fun f hf=>⟨_,_,_,hf,pG,_,rfl,⟨a,rfl⟩,b,q'⟩⟩
 | quarter a=>exact ⟨"quarter_deed",rfl,fun f hf=>⟨_,_,_,hf,kP,_,rfl,⟨a,rfl⟩,b,q'⟩⟩
 | half a=>exact ⟨"half_deed",rfl,fun f hf=>⟨_,_,_,hf,pW,_,rfl,⟨a,rfl⟩,b,q'⟩⟩
 | arc a c d e=>exact ⟨"arc_deed",rfl,fun f hf=>⟨_,_,_,hf,rG,_,rfl,⟨a,c,d,e,rfl⟩,b,q'⟩⟩
noncomputable def fX:DSp:=fun ds M Q=>∃ r,ds = [rwD r]/\Q (inR r) M
noncomputable abbrev jF:Stmt:=top 49
theorem pL:aQ ["row"] ["row"] (aJ jF):=⟨rfl,rfl,rfl,by decide +kernel,rfl,by decide +kernel,by decide +kernel⟩
theorem wD (hF:bX K mg "rows_within" jF ["row"]):Has P w K mg base 101 "rows_within" ["row"] fX:=by
 refine Has.mkZ hF pL (fun ds M Q ⟨a,z,_⟩=>by rw [z];rfl) fun f cdv A outer s H ds M Q E hr h=>?_
 obtain ⟨r,rfl,q⟩:=h
 refine ⟨_,(aF (aX (aP (bZ hr) (aH (aB 0) aC) aN) (aE (aM (aH (aB 0) aC))) aT)
  (aE (aM (eJ (fA (iY (aP (bZ hr) (aH (aB 0) aC) aN) (gX (aP (bZ hr) (aH (aB 0) aC) aN)))) (aH (aB 0) aC) cZ)))),?_⟩
 have q':=aZ q
 cases r with
 | pl p =>
  cases p<;>(dsimp only [rwD,plD];decreasing_tactic;rw [aK];refine ifF (by decide) ?_;rw [aK];refine ifF (by decide) ?_;rw [aK];exact ifF (by decide) q')
 | ag n rs =>
  dsimp only [rwD]
  decreasing_tactic
  rw [aK]
  exact ifT (by decide) q'
 | kp rs =>
  dsimp only [rwD]
  decreasing_tactic
  rw [aK]
  refine ifF (by decide) ?_
  rw [aK]
  exact ifT (by decide) q'
 | ev rs =>
  dsimp only [rwD]
  decreasing_tactic
  rw [aK]
  refine ifF (by decide) ?_
  rw [aK]
  refine ifF (by decide) ?_
  rw [aK]
  exact ifT (by decide) q'
noncomputable def aBh (d:Nat):DSp:=fun ds M Q=>∃ rs,ds = [.tup (bG rs)]/\DpS d rs/\Q (.int (dnS rs:Int)) M
noncomputable abbrev jR:Stmt:=top 51
theorem dG:aQ ["rows","many","row","within"] ["rows"] (aJ jR):=⟨rfl,rfl,rfl,by decide +kernel,rfl,by decide +kernel,by decide +kernel⟩
theorem sF (hF:bX K mg "how_many_done" jR ["rows"]) (bO:Has P w K mg base 101 "rows_within" ["row"] fX):Has P w K mg base 118 "how_many_done" ["rows"] (aBh 8):=by
 have all:∀ d,Has P w K mg base (110 + d) "how_many_done" ["rows"] (aBh d):=fun d=>by
  induction d with
  | zero=>exact (Has.never hF dG 109).imp fun ds M Q ⟨rs,_,z,_⟩=>z
  | succ d fK =>
   refine Has.mkZ (k:=110 + d) hF dG (fun ds M Q ⟨a,z,_⟩=>by rw [z];rfl) fun f cdv A outer s H ds M Q E hr h=>?_
   obtain ⟨rs,rfl,dp,q⟩:=h
   refine ⟨_,(aF (aO (i:=1) dG.nd aC)
  (aF (iN PassesOwn.never rfl (aB 0) (aV (i:=2) dG.nd) (aF (aO (i:=3) dG.nd (aG bO hr (by omega) (aA (aB 2) aD)))
  (aE (aX (aP wW (aB 3) cZ) (aE (qG (i:=1) yP dG.nd aC)) (aE (qG (i:=1) yP dG.nd (aL bL (aG fK hr (by omega) (aA (aB 3) aD)) (eJ (aP (bZ hr) (aH (aB 2) aC) aN) (aH (aB 2) aC) aC))))))))
  (aE (aM (aB 1))))),?_⟩
   decreasing_tactic
   refine ⟨fun i ρ M'=>M' = M/\∃ o1 o2,ρ = [some (.tup (bG rs)),some (.int (dnS (rs.take i):Int)),o1,o2],⟨rfl,_,_,rfl⟩,fun i ρ M' _ _ a e=>(by cases e),?_,?_⟩
   ·rintro i d1 ρ M' hd ⟨rfl,o1,o2,rfl⟩
    obtain ⟨r,hr',rfl⟩:=fP hd
    have dr:=dp.2 r (List.mem_of_getElem? hr')
    decreasing_tactic
    refine ⟨r,rfl,?_⟩
    have fin:dnS (rs.take (i + 1)) = dnS (rs.take i) + dnR r:=by rw [eM hr',gA,dnS,dnS,Nat.add_zero]
    rw [fin]
    cases r with
    | pl p =>
     dsimp only [inR,dnR]
     decreasing_tactic
     exact ifT rfl ⟨rfl,_,_,rfl⟩
    | ag n ws =>
     obtain ⟨hn,dw⟩:=kN dr
     dsimp only [inR,dnR,rwD]
     decreasing_tactic
     refine ifF rfl ⟨ws,rfl,dw,?_⟩
     decreasing_tactic
     rw [aK]
     refine ifT (by decide) ⟨rE (by unfold Bd;omega),?_⟩
     rw [Int.natCast_add,Int.natCast_mul]
     exact ⟨rfl,_,_,rfl⟩
    | kp ws =>
     have dw:=oE dr
     dsimp only [inR,dnR,rwD]
     decreasing_tactic
     refine ifF rfl ⟨ws,rfl,dw,?_⟩
     decreasing_tactic
     rw [aK]
     refine ifF (by decide) ⟨rE (by unfold Bd;decide),?_⟩
     rw [Int.natCast_add,Int.mul_one]
     exact ⟨rfl,_,_,rfl⟩
    | ev ws =>
     have dw:=mJ dr
     dsimp only [inR,dnR,rwD]
     decreasing_tactic
     refine ifF rfl ⟨ws,rfl,dw,?_⟩
     decreasing_tactic
     rw [aK]
     refine ifF (by decide) ⟨rE (by unfold Bd;decide),?_⟩
     rw [Int.natCast_add,Int.mul_one]
     exact ⟨rfl,_,_,rfl⟩
   ·rintro ρ M' ⟨rfl,o1,o2,rfl⟩
    rw [cL,List.take_length]
    exact aZ q
 exact all 8
theorem aAl {a b c d:Rat}:gD a b c d = 0 ↔ a = c/\b = d:=by
 unfold gD
 constructor
 ·intro h
  have s1:∀ x:Rat,0<=x * x:=fun x=>by
   rcases (show 0<=x ∨ 0<=-x by grind) with z | z
   ·exact Rat.mul_nonneg z z
   ·have:=Rat.mul_nonneg z z;grind
  have h1:=s1 (c - a)
  have h2:=s1 (d - b)
  have e1:(c - a) * (c - a) = 0:=by grind
  have e2:(d - b) * (d - b) = 0:=by grind
  rcases Rat.mul_eq_zero.mp e1 with z | z<;>rcases Rat.mul_eq_zero.mp e2 with y | y<;>constructor<;>grind
 ·rintro ⟨rfl,rfl⟩;grind
noncomputable def Dv (D:Nat) (x:Rat):Prop:=∃ z:Int,x * (D:Rat) = (z:Rat)
theorem Dv.add {D:Nat} {x y:Rat} (h:Dv D x) (h2:Dv D y):Dv D (x + y):=by
 obtain ⟨a,ha⟩:=h
 obtain ⟨b,hb⟩:=h2
 exact ⟨a + b,by rw [Rat.intCast_add,<- ha,<- hb];grind⟩
theorem Dv.up {D:Nat} {x:Rat} (h:Dv D x) (k:Nat):Dv (D * k) x:=by
 obtain ⟨a,ha⟩:=h
 refine ⟨a * (k:Int),?_⟩
 rw [Rat.intCast_mul,<- ha,Rat.natCast_mul,Rat.intCast_natCast];grind
theorem Dv.up' {D:Nat} {x:Rat} (h:Dv D x) (k:Nat):Dv (k * D) x:=by rw [Nat.mul_comm];exact h.up k
theorem Dv.zero {D:Nat}:Dv D 0:=⟨0,by grind⟩
theorem Dv.own (x:Rat):Dv x.den x:=⟨x.num,by
 have:=gP x
 rw [this];rfl⟩
noncomputable def Ab (B:Nat) (x:Rat):Prop:=-(B:Rat)<=x/\x<=(B:Rat)
theorem aJw (n:Nat):(0:Rat)<=(n:Rat):=by
 have:((0:Nat):Rat)<=(n:Rat):=by exact_mod_cast Nat.zero_le n
 exact this
theorem Ab.mono {B C:Nat} {x:Rat} (h:Ab B x) (l:B<=C):Ab C x:=by
 have:(B:Rat)<=(C:Rat):=by exact_mod_cast l
 exact ⟨by have:=h.1;grind,by have:=h.2;grind⟩
theorem Ab.add {B C:Nat} {x y:Rat} (h:Ab B x) (h2:Ab C y):Ab (B + C) (x + y):=by
 obtain ⟨a,b⟩:=h
 obtain ⟨c,d⟩:=h2
 constructor<;>rw [Rat.natCast_add]<;>grind
theorem Ab.mul {B C:Nat} {x y:Rat} (h:Ab B x) (h2:Ab C y):Ab (B * C) (x * y):=by
 obtain ⟨a,b⟩:=h
 obtain ⟨c,d⟩:=h2
 have p1:=Rat.mul_nonneg (show 0<=(B:Rat) - x by grind) (show 0<=(C:Rat) + y by grind)
 have p2:=Rat.mul_nonneg (show 0<=(B:Rat) + x by grind) (show 0<=(C:Rat) - y by grind)
 have p3:=Rat.mul_nonneg (show 0<=(B:Rat) - x by grind) (show 0<=(C:Rat) - y by grind)
 have p4:=Rat.mul_nonneg (show 0<=(B:Rat) + x by grind) (show 0<=(C:Rat) + y by grind)
 constructor<;>rw [Rat.natCast_mul]<;>grind
theorem Ab.zero {B:Nat}:Ab B 0:=⟨by have:=aJw B;grind,aJw B⟩
theorem vJ {n:Nat} {x:Rat} (h:BQ n x):Ab (2 ^ n) x:=by
 have e:=gP x
 have d1:(1:Rat)<=((x.den:Int):Rat):=by
  have:((1:Int):Rat)<=((x.den:Int):Rat):=by exact_mod_cast (show (1:Int)<=(x.den:Int) by have:=x.den_pos;omega)
  exact this
 have hb:x.num.natAbs < 2 ^ n:=h.1
 have n1:((x.num:Int):Rat)<=((2 ^ n:Nat):Rat):=by
  have:x.num<=((2 ^ n:Nat):Int):=by omega
  have:((x.num:Int):Rat)<=(((2 ^ n:Nat):Int):Rat):=by exact_mod_cast this
  rw [Rat.intCast_natCast] at this;exact this
 have n2:-((2 ^ n:Nat):Rat)<=((x.num:Int):Rat):=by
  have:-((2 ^ n:Nat):Int)<=x.num:=by omega
  have:((-((2 ^ n:Nat):Int):Int):Rat)<=((x.num:Int):Rat):=by exact_mod_cast this
  rw [Rat.intCast_neg,Rat.intCast_natCast] at this;exact this
 have z:=aJw (2 ^ n)
 clear hb
 unfold Ab
 generalize ((2 ^ n:Nat):Rat) = P at *
 generalize ((x.den:Int):Rat) = d at *
 rw [e] at n1 n2
 constructor
 ·rcases (show 0<=x ∨ 0<=-x by grind) with c | c
  ·grind
  ·have:=Rat.mul_nonneg c (show 0<=d - 1 by grind)
   grind
 ·rcases (show 0<=x ∨ 0<=-x by grind) with c | c
  ·have:=Rat.mul_nonneg c (show 0<=d - 1 by grind)
   grind
  ·grind
structure Gf (A W k:Nat) (f:Fm):Prop where
 ok:f.Ok
 pos:0 < f.s
 ex:∃ N T:Nat,(0 < N/\N<=12 ^ k)/\(0 < T/\T<=12 ^ k)/\f.s * (N:Rat) = (T:Rat)/\Dv (N * A) f.px/\Dv (N * A) f.py
 ax:Ab (k * 12 ^ k * W) f.px
 ay:Ab (k * 12 ^ k * W) f.py
theorem Gf.one {A W:Nat}:Gf A W 0 .one:=⟨Fm.ok_one,by decide,⟨1,1,by decide,by decide,(by show (1:Rat) * ((1:Nat):Rat) = ((1:Nat):Rat);rw [Rat.one_mul]),Dv.zero,Dv.zero⟩,Ab.zero,Ab.zero⟩
noncomputable def plG (A W:Nat):Pl->Prop
 | .go a=>Dv A a/\Ab W a
 | .side a b=>(Dv A a/\Ab W a)/\Dv A b/\Ab W b
 | .skip a=>Dv A a/\Ab W a
 | .grow a=>∃ t b:Nat,(0 < t/\t<=12)/\(0 < b/\b<=12)/\a * (b:Rat) = (t:Rat)
 | .quarter a=>Dv A a/\Ab W a
 | .half a=>Dv A a/\Ab W a/\Ab W (a + a)
 | .arc a b c d=>((Dv A a/\Ab W a)/\Dv A b/\Ab W b)/\(Dv A c/\Ab W c)/\Dv A d/\Ab W d
 | _=>True
theorem plG.up {A W:Nat} {p:Pl} (m:Nat) (h:plG A W p):plG (A * m) W p:=by
 cases p with
 | go a=>exact ⟨h.1.up m,h.2⟩
 | side a b=>exact ⟨⟨h.1.1.up m,h.1.2⟩,h.2.1.up m,h.2.2⟩
 | skip a=>exact ⟨h.1.up m,h.2⟩
 | grow a=>exact h
 | quarter a=>exact ⟨h.1.up m,h.2⟩
 | half a=>exact ⟨h.1.up m,h.2⟩
 | arc a b c d=>exact ⟨⟨⟨h.1.1.1.up m,h.1.1.2⟩,h.1.2.1.up m,h.1.2.2⟩,⟨h.2.1.1.up m,h.2.1.2⟩,h.2.2.1.up m,h.2.2.2⟩
 | _=>trivial
section
variable {A W K k:Nat} {f:Fm}
end
noncomputable def zB:DSp:=fun ds M Q=>∃ c many,ds = [.int c,.int many]/\0<=many/\many<=100/\∀ (p:Addr) L,M p = none->nY many.toNat L->Q (.ref p) (bC M p L)
theorem zA {n:Nat} {L:List D} (h:nY n L) {z:Int} (h0:0<=z) (h1:z < 1000000):nY (n + 1) (L ++ [.int z]):=by
 refine ⟨by rw [List.length_append,h.1];rfl,fun d hd=>?_⟩
 rcases List.mem_append.mp hd with e | e
 ·exact h.2 d e
 ·exact ⟨z,List.mem_singleton.mp e,h0,h1⟩
noncomputable abbrev uU:Stmt:=top 78
theorem gZ:aQ ["_law_cell","_law_many","_law_found","_law_number","_law_k"] ["_law_cell","_law_many"] (aJ uU):=⟨rfl,rfl,rfl,by decide +kernel,rfl,by decide +kernel,by decide +kernel⟩
theorem aCB (hF:bX K mg "_law_row" uU ["_law_cell","_law_many"]) (mC:mg "abs" = none) (jV:mg "range" = none):Has P w K mg base 101 "_law_row" ["_law_cell","_law_many"] zB:=by
 refine Has.mkZ hF gZ (fun ds M Q ⟨a,b,e,_⟩=>by rw [e];rfl) fun f cdv A outer s H ds M Q E hr h=>?_
 obtain ⟨c,many,rfl,m0,m1,q⟩:=h
 refine ⟨_,(aF (aO (i:=2) gZ.nd (bR aD))
  (aF (aO (i:=3) gZ.nd (aB 0))
  (aF (aX (aP yG (cD yU mC (aA (aB 0) aD)) (aL yE aC aC)) (aE (aO (i:=3) gZ.nd (aL cU (aL dU (aB 0) aC) aC))) aT)
  (aF (yM PassesOwn.never rfl jV (aA (aB 1) aD) (aV (i:=4) gZ.nd) (aE (aX (aP yG (cD yU mC (aA (aB 0) aD)) (aL yE aC aC)) (aF (aO (i:=3) gZ.nd (aL dU (aL bL (aB 3) aC) aC))
  (aE (dD (dO (aB 2) (aL dU (aL dH (aL dU (aL cU (aL cU (aL bL (aB 3) (aB 3)) (aL bL aC (aB 3))) (aB 4)) aC) aC) (aL yE aC aC)))))) (aF (dD (dO (aB 2) (aL dU (aB 3) (aL yE aC aC))))
  (aE (aO (i:=3) gZ.nd (aL dH (aB 3) (aL yE aC aC))))))))
  (aE (aM (aB 2))))))),?_⟩
 decreasing_tactic
 refine ⟨by decide,fun p hp=>?_⟩
 have k6:(10:Int) ^ Int.toNat 6 = 1000000:=by decide
 have small:∀ z:Int,0<=z.fmod 1000000/\z.fmod 1000000 < 1000000:=fun z=>⟨Int.fmod_nonneg_of_pos _ (by decide),Int.fmod_lt_of_pos _ (by decide)⟩
 refine ⟨⟨by decide,by decide,by decide⟩,dif (fun c1=>?A) (fun c1=>?B)⟩
 case' A =>
  have c2:(if c < 0 then -c else c) < (10:Int) ^ Int.toNat 18->0<=c.fmod 2147483647 + 1/\c.fmod 2147483647 + 1 < 2147483649:=fun _=>by
   have:=Int.fmod_nonneg_of_pos c (show (0:Int) < 2147483647 by decide)
   have:=Int.fmod_lt_of_pos c (show (0:Int) < 2147483647 by decide)
   omega
  refine ⟨by decide,?_⟩
  generalize c.fmod 2147483647 + 1 = z0 at c2
 case' B =>
  have c2:(if c < 0 then -c else c) < (10:Int) ^ Int.toNat 18->0<=c/\c < 2147483649:=fun z=>absurd z c1
  obtain ⟨z0,hz0⟩:∃ z0,z0 = c:=⟨c,rfl⟩
  have c2:(if c < 0 then -c else c) < (10:Int) ^ Int.toNat 18->0<=z0/\z0 < 2147483649:=by rw [hz0];exact c2
  rw [show (some (D.int c) :: some (.int many) :: some (.ref p) :: some (.int c) :: [none]:cV) = [some (.int c),some (.int many),some (.ref p),some (.int z0),none] by rw [hz0]]
 all_goals
  refine ⟨⟨by omega,by omega⟩,fun i ρ M'=>∃ L,M' = bC M p L/\nY i L/\∃ (z:Int) (o:Option D),((if c < 0 then -c else c) < (10:Int) ^ Int.toNat 18->0<=z/\z < 2147483649)/\ρ = [some (.int c),some (.int many),some (.ref p),some (.int z),o],⟨[],rfl,⟨rfl,fun d h=>nomatch h⟩,z0,none,c2,rfl⟩,?_,?_⟩
  ·rintro i ρ M' hi ⟨L,rfl,hL,z,o,hz,rfl⟩
   have hi2:i < 100:=by omega
   have lL:L.length < 1000:=by rw [hL.1];omega
   decreasing_tactic
   refine ⟨⟨by decide,by decide,by decide⟩,dif (fun d1=>?_) (fun d1=>?_)⟩
   ·obtain ⟨z1,z2⟩:=hz d1
    have hn0:=Int.fmod_nonneg_of_pos (z * 48271) (show (0:Int) < 2147483647 by decide)
    have hn1:=Int.fmod_lt_of_pos (z * 48271) (show (0:Int) < 2147483647 by decide)
    refine ⟨rE (by unfold Bd;decide),by decide,⟨_,aI⟩,?_⟩
    generalize (z * 48271).fmod 2147483647 = nn at hn0 hn1
    have bn:Bd 63 nn:=Bd.of (by omega) (by omega)
    refine ⟨oZ bn,rE bn,by decide,⟨by decide,by decide +kernel⟩,⟨by decide,by decide,by decide⟩,by rw [k6];decide,_,_,rfl,aI,lL,_,by rw [aAm],zA hL ?_ ?_,nn,_,fun _=>⟨by omega,by omega⟩,rfl⟩
    ·rw [k6];exact (small _).1
    ·rw [k6];exact (small _).2
   ·refine ⟨⟨_,aI⟩,⟨by decide,by decide,by decide⟩,by rw [k6];decide,_,_,rfl,aI,lL,⟨by decide,by decide,by decide⟩,⟨by rw [k6];decide,by rw [k6];decide +kernel⟩,_,by rw [aAm],zA hL ?_ ?_,_,_,fun z=>absurd z d1,rfl⟩
    ·rw [k6];exact (small _).1
    ·rw [k6];exact (small _).2
  ·rintro ρ M' ⟨L,rfl,hL,z,o,hz,rfl⟩
   decreasing_tactic
   exact ⟨_,.refl _,q p L hp hL⟩
theorem rR {p r:Rat} {m n:Nat} {M:DM} {Q:DQ} (h1:BQ m p) (h2:BQ n r) (l:m + n<=8998) (q:Q (FQ (p * r)) M):iH [FQ p,FQ r] M Q:=⟨_,_,_,_,rfl,trivial,h1,h2,l,q⟩
theorem aEb {p r:Rat} {m n:Nat} {M:DM} {Q:DQ} (h1:BQ m p) (h2:BQ n r) (l:m + n<=8998) (q:Q (FQ (p + r)) M):oS [FQ p,FQ r] M Q:=⟨_,_,_,_,rfl,trivial,h1,h2,l,q⟩
noncomputable def Un (u:Rat):Prop:=u = 0 ∨ u = 1 ∨ u = -1
theorem aLp:(D.tup [.int (-1),.int 1]) = FQ (-1):=rfl
theorem aKz {p q:Int} (h:p ≠ 0 ∨ q ≠ 0):0 < q * q + p * p:=by
 have n:∀ z:Int,0<=z * z:=fun z=>by
  rcases Int.le_total 0 z with c | c
  ·exact Int.mul_nonneg c c
  ·exact Int.mul_nonneg_of_nonpos_of_nonpos c c
 have k:∀ z:Int,z ≠ 0->z * z ≠ 0:=fun z hz=>Int.mul_ne_zero hz hz
 have h1:=n p
 have h2:=n q
 rcases h with h | h
 ·have:=k p h;omega
 ·have:=k q h;omega
theorem aMj {p q:Int} (h:0 < q * q + p * p) {uu vv:Rat} (hu:((q * q - p * p:Int):Rat) / ((q * q + p * p:Int):Rat) = uu) (hv:((2 * p * q:Int):Rat) / ((q * q + p * p:Int):Rat) = vv):uu * uu + vv * vv = 1:=by
 have n0:((q * q + p * p:Int):Rat) ≠ 0:=by
  have:=aCe h
  grind
 rw [<- hu,<- hv]
 rw [Rat.intCast_sub,Rat.intCast_add,Rat.intCast_mul,Rat.intCast_mul,Rat.intCast_mul,Rat.intCast_mul] at *
 rw [show (((2:Int)):Rat) = 2 from rfl]
 generalize (p:Rat) = a at *
 generalize (q:Rat) = b at *
 grind
theorem aJ9 {x y uu vv:Rat} (c:uu * uu + vv * vv = 1) (nz:¬ (x = 0/\y = 0)):¬ (x = x + (uu * (x * -1) + vv * y)/\y = y + (vv * (x * -1) + uu * (y * -1)))/\gD x y 0 0 = gD x y (x + (uu * (x * -1) + vv * y)) (y + (vv * (x * -1) + uu * (y * -1))):=by
 have e:gD x y 0 0 = gD x y (x + (uu * (x * -1) + vv * y)) (y + (vv * (x * -1) + uu * (y * -1))):=by
  unfold gD
  have:(x + (uu * (x * -1) + vv * y) - x) * (x + (uu * (x * -1) + vv * y) - x) + (y + (vv * (x * -1) + uu * (y * -1)) - y) * (y + (vv * (x * -1) + uu * (y * -1)) - y) = (uu * uu + vv * vv) * (x * x + y * y):=by grind
  rw [this,c]
  grind
 refine ⟨fun z=>?_,e⟩
 rw [aAl.mpr z] at e
 exact nz (aAl.mp e)
theorem Wh.dv {D:Nat} {x:Rat} (h:Wh x):Dv D x:=by
 obtain ⟨z,rfl,_,_⟩:=h
 exact ⟨z * (D:Int),by rw [Rat.intCast_mul,Rat.intCast_natCast]⟩
theorem Wh.ab {x:Rat} (h:Wh x):Ab 20 x:=by
 obtain ⟨z,rfl,h1,h2⟩:=h
 have a:(((-20:Int)):Rat)<=(z:Rat):=by exact_mod_cast h1
 have b:(z:Rat)<=((20:Int):Rat):=by exact_mod_cast h2
 exact ⟨a,b⟩
theorem Wh.neg {x:Rat} (h:Wh x):Wh (x * -1):=by
 obtain ⟨z,rfl,h1,h2⟩:=h
 exact ⟨-z,by rw [Rat.intCast_neg];grind,by omega,by omega⟩
theorem Wh.mul {D:Nat} {x y:Rat} (h:Wh x) (d:Dv D y):Dv D (y * x):=by
 obtain ⟨z,rfl,h1,h2⟩:=h
 obtain ⟨a,ha⟩:=d
 exact ⟨a * z,by rw [Rat.intCast_mul,<- ha];grind⟩
theorem aGW {x y uu vv:Rat} {pp qq:Int} (wx:Wh x) (wy:Wh y) (pos:0 < qq * qq + pp * pp) (bd:Bd 9 (qq * qq + pp * pp)) (hu:((qq * qq - pp * pp:Int):Rat) / ((qq * qq + pp * pp:Int):Rat) = uu) (hv:((2 * pp * qq:Int):Rat) / ((qq * qq + pp * pp:Int):Rat) = vv) (bu:BQ 9 uu) (bv:BQ 10 vv):∃ A:Nat,0 < A/\A<=2 ^ 48/\plG A (2 ^ 25) (.arc x y (x + (uu * (x * -1) + vv * y)) (y + (vv * (x * -1) + uu * (y * -1)))):=by
 generalize qq * qq + pp * pp = c at *
 have c0:(c:Rat) ≠ 0:=by
  have:=aCe pos
  grind
 have ec:((c.toNat:Nat):Rat) = (c:Rat):=by
  rw [<- Rat.intCast_natCast,Int.toNat_of_nonneg (by omega)]
 have du:Dv c.toNat uu:=⟨_,by rw [ec,<- hu];exact Rat.div_mul_cancel c0⟩
 have dv:Dv c.toNat vv:=⟨_,by rw [ec,<- hv];exact Rat.div_mul_cancel c0⟩
 have au:=vJ bu
 have av:=vJ bv
 have hc:c.natAbs < 2 ^ 9:=bd
 have k {z:Rat} (h:Wh z):Dv c.toNat z/\Ab (2 ^ 25) z:=⟨h.dv,h.ab.mono (by decide)⟩
 exact ⟨c.toNat,by omega,by omega,⟨k wx,k wy⟩,⟨wx.dv.add ((wx.neg.mul du).add (wy.mul dv)),(wx.ab.add ((au.mul wx.neg.ab).add (av.mul wy.ab))).mono (by decide)⟩,wy.dv.add ((wx.neg.mul dv).add (wy.neg.mul du)),(wy.ab.add ((av.mul wx.neg.ab).add (au.mul wy.neg.ab))).mono (by decide)⟩
noncomputable def xS:DSp:=fun ds M Q=>∃ (a:Addr) (n:Nat) (L:List D),ds = [.ref a]/\M a = some L/\nY n L/\5<=n/\∀ x y u v,BQ 100 x->BQ 100 y->BQ 100 u->BQ 100 v->¬ (x = 0/\y = 0)->¬ (x = u/\y = v)->gD x y 0 0 = gD x y u v->(∃ A:Nat,0 < A/\A<=2 ^ 48/\plG A (2 ^ 25) (.arc x y u v))->Q (.tup [FQ x,FQ y,FQ u,FQ v]) M
noncomputable abbrev uM:Stmt:=top 83
theorem eS:aQ ["_law_row_here","_law_x","_law_y","_law_p","_law_q","_law_u","_law_v","_law_back","_law_right_here","_law_up"] ["_law_row_here"] (aJ uM):=⟨rfl,rfl,rfl,by decide +kernel,rfl,by decide +kernel,by decide +kernel⟩
theorem aCL (hF:bX K mg "_law_bow" uM ["_law_row_here"]) (eZ:Has P w K mg base 102 "_law_drawn" ["_law_one","_law_other"] mR) (bV:Has P w K mg base 101 "_law_ratio" ["_law_top","_law_bottom"] gB) (jA:Has P w K mg base 102 "_law_plus" ["_law_one","_law_other"] oS) (cE:Has P w K mg base 102 "_law_times" ["_law_one","_law_other"] iH) (aE3:mg "min" = none):Has P w K mg base 103 "_law_bow" ["_law_row_here"] xS:=by
 refine Has.mkZ hF eS (fun ds M Q ⟨a,n,L,e,_⟩=>by rw [e];rfl) fun f cdv A outer s H ds M Q E hr h=>?_
 obtain ⟨a,n,L,rfl,ha,hL,hn,q⟩:=h
 refine ⟨_,(aF (qI (i:=1) (j:=2) rfl eS.nd (aA (aG eZ hr (by decide) (aA (aH (aB 0) aC) (aA aC aD))) (aA (aG eZ hr (by decide) (aA (aH (aB 0) aC) (aA aC aD))) aD)))
  (gR (aX (fA (fF (aP (bZ hr) (aH (aB 1) aC) aC) (eN (aP (bZ hr) (aH (aB 2) aC) aC)))) (aE (aO (i:=2) eS.nd (aR (aA aC (aA aC aD))))) aT)
  (aF (jX (aH (bR (aA (aR (aA aC (aA aC aD))) (aA (aR (aA aC (aA aC aD))) (aA (aR (aA (aL pJ (aL dU (aH (aB 0) aC) aC) aC) (aA (aL cU aC (aL dU (aH (aB 0) aC) aC)) aD))) aD)))) (cD (aJ6 rfl) aE3 (aA aC (aA (aL dU (aH (aB 0) aC) aC) aD)))) (kC (n:=2) rfl (bW (aV (i:=3) eS.nd) (bW (aV (i:=4) eS.nd) gQ))))
  (aF (aO (i:=5) eS.nd (aG bV hr (by decide) (aA (aL pJ (aL bL (aB 4) (aB 4)) (aL bL (aB 3) (aB 3))) (aA (aL cU (aL bL (aB 4) (aB 4)) (aL bL (aB 3) (aB 3))) aD))))
  (aF (aO (i:=6) eS.nd (aG bV hr (by decide) (aA (aL bL (aL bL aC (aB 3)) (aB 4)) (aA (aL cU (aL bL (aB 4) (aB 4)) (aL bL (aB 3) (aB 3))) aD))))
  (aF (aO (i:=7) eS.nd (aR (aA (eL aC) (aA aC aD))))
  (aF (aO (i:=8) eS.nd (aG jA hr (by decide) (aA (aG cE hr (by decide) (aA (aB 5) (aA (aG cE hr (by decide) (aA (aB 1) (aA (aB 7) aD))) aD))) (aA (aG cE hr (by decide) (aA (aB 6) (aA (aB 2) aD))) aD))))
  (aF (aO (i:=9) eS.nd (aG jA hr (by decide) (aA (aG cE hr (by decide) (aA (aB 6) (aA (aG cE hr (by decide) (aA (aB 1) (aA (aB 7) aD))) aD))) (aA (aG cE hr (by decide) (aA (aB 5) (aA (aG cE hr (by decide) (aA (aB 2) (aA (aB 7) aD))) aD))) aD))))
  (aE (aM (aR (aA (aB 1) (aA (aB 2) (aA (aG jA hr (by decide) (aA (aB 1) (aA (aB 8) aD))) (aA (aG jA hr (by decide) (aA (aB 2) (aA (aB 9) aD))) aD))))))))))))))),?_⟩
 decreasing_tactic
 obtain ⟨z0,e0,_⟩:=hL.at (i:=0) (by omega)
 obtain ⟨z1,e1,_⟩:=hL.at (i:=1) (by omega)
 obtain ⟨z2,e2,_⟩:=hL.at (i:=2) (by omega)
 obtain ⟨z3,e3,_⟩:=hL.at (i:=3) (by omega)
 obtain ⟨z4,e4,_⟩:=hL.at (i:=4) (by omega)
 refine ⟨_,_,ha,e0,_,_,rfl,fun x hx wx=>?_⟩
 decreasing_tactic
 refine ⟨_,_,ha,e1,_,_,rfl,fun y hy wy=>?_⟩
 decreasing_tactic
 refine ⟨fun ρ' M'=>M = M'/\∃ y:Rat,ρ' = [some (.ref a),some (FQ x),some (FQ y),none,none,none,none,none,none,none]/\BQ 24 y/\¬ (x = 0/\y = 0)/\((1:Int).fmod 5 ≠ 4->(1:Int).fmod 3 ≠ 2->Wh y),?_,?_⟩
 ·rw [cK]
  refine dif (fun c1=>?_) (fun c1=>?_)
  ·rw [cK]
   refine dif (fun c2=>?_) (fun c2=>?_)
   ·exact ⟨by decide,rfl,2,rfl,⟨by unfold Bd;decide,by unfold Bd;decide⟩,(fun z=>absurd z.2 (by decide)),fun _ _=>⟨2,rfl,by decide,by decide⟩⟩
   ·exact ⟨rfl,y,rfl,hy,(fun z=>c2 (by rw [z.2];rfl)),wy⟩
  ·exact ifF rfl ⟨rfl,y,rfl,hy,(fun z=>c1 (by rw [z.1];rfl)),wy⟩
 ·clear hy wy y
  rintro _ _ ⟨rfl,y,rfl,hy,nz,wy⟩
  decreasing_tactic
  refine ⟨by decide,by decide,_,_,ha,e2,?_⟩
  decreasing_tactic
  refine ⟨by decide,_,_,ha,e3,?_⟩
  decreasing_tactic
  refine ⟨by decide,by decide,by decide,fun p hp=>?_⟩
  refine ⟨_,_,by rw [bI (aB3 ha hp)];exact ha,e4,?_⟩
  decreasing_tactic
  have a1:=Int.fmod_nonneg_of_pos z2 (show (0:Int) < 19 by decide)
  have a2:=Int.fmod_lt_of_pos z2 (show (0:Int) < 19 by decide)
  have a3:=Int.fmod_nonneg_of_pos z3 (show (0:Int) < 9 by decide)
  have a4:=Int.fmod_lt_of_pos z3 (show (0:Int) < 9 by decide)
  obtain ⟨pp,qq,ek,p0,p1,q0,q1,np⟩:∃ pp qq:Int,atI [D.tup [.int 1,.int 0],.tup [.int 0,.int 1],.tup [.int (z2.fmod 19 - 9),.int (1 + z3.fmod 9)]] (if z4.fmod 8 < 2 then z4.fmod 8 else 2) = some (.tup [.int pp,.int qq])/\-10<=pp/\pp<=10/\-10<=qq/\qq<=10/\(pp ≠ 0 ∨ qq ≠ 0):=by
   have b1:=Int.fmod_nonneg_of_pos z4 (show (0:Int) < 8 by decide)
   by_cases c:z4.fmod 8 < 2
   ·rw [if_pos c]
    have:z4.fmod 8 = 0 ∨ z4.fmod 8 = 1:=by omega
    rcases this with e | e<;>rw [e]
    ·exact ⟨1,0,rfl,by decide,by decide,by decide,by decide,.inl (by decide)⟩
    ·exact ⟨0,1,rfl,by decide,by decide,by decide,by decide,.inr (by decide)⟩
   ·rw [if_neg c]
    exact ⟨_,_,rfl,by omega,by omega,by omega,by omega,.inr (by omega)⟩
  have s1:=aW.new hp [D.tup [.int 1,.int 0],.tup [.int 0,.int 1],.tup [.int (z2.fmod 19 - 9),.int (1 + z3.fmod 9)]]
  have bp:Bd 4 pp:=Bd.of (by omega) (by omega)
  have bq:Bd 4 qq:=Bd.of (by omega) (by omega)
  refine ⟨by decide,_,_,aI,ek,?_⟩
  decreasing_tactic
  have pos:0 < qq * qq + pp * pp:=aKz np
  have bu:BQ 9 (((qq * qq - pp * pp:Int):Rat) / ((qq * qq + pp * pp:Int):Rat)):=.make (by omega) (bq.mul bq |>.sub (bp.mul bp)) (bq.mul bq |>.add (bp.mul bp))
  have bv:BQ 10 (((2 * pp * qq:Int):Rat) / ((qq * qq + pp * pp:Int):Rat)):=.make (by omega) (((Bd.mul (m:=2) (x:=2) (by unfold Bd;decide) bp).mul bq)) ((bq.mul bq |>.add (bp.mul bp)).mono (by decide))
  have bd:Bd 9 (qq * qq + pp * pp):=bq.mul bq |>.add (bp.mul bp)
  generalize hu:((qq * qq - pp * pp:Int):Rat) / ((qq * qq + pp * pp:Int):Rat) = uu at bu
  generalize hv:((2 * pp * qq:Int):Rat) / ((qq * qq + pp * pp:Int):Rat) = vv at bv
  have m1:BQ 2 (-1):=⟨by unfold Bd;decide,by unfold Bd;decide⟩
  refine ⟨rfl,dA bq bq,dA bp bp,dA bq bq,dA bp bp,_,_,rfl,pos,bd.mono (by decide),oZ (by unfold Bd;decide),dA ((Bd.mul (m:=2) (x:=2) (by unfold Bd;decide) bp)) bq,dA bq bq,dA bp bp,_,_,rfl,pos,bd.mono (by decide),?_⟩
  rw [hu,hv,aLp]
  have w3:=hx.mul m1
  have w4:=bu.mul w3
  have w5:=bv.mul hy
  have w8:=bv.mul w3
  have w9:=hy.mul m1
  have w10:=bu.mul w9
  have bk:=aJ9 (x:=x) (y:=y) (aMj pos hu hv) nz
  exact ⟨by decide,rR hx m1 (by decide) (rR bu w3 (by decide) (rR bv hy (by decide) (aEb w4 w5 (by decide) (rR hx m1 (by decide) (rR bv w3 (by decide) (rR hy m1 (by decide) (rR bu w9 (by decide) (aEb w8 w10 (by decide) (aEb hx (w4.add w5) (by decide) (aEb hy (w8.add w10) (by decide) ⟨by decide,M,s1,q _ _ _ _ (hx.mono (by decide)) (hy.mono (by decide)) ((hx.add (w4.add w5)).mono (by decide)) ((hy.add (w8.add w10)).mono (by decide)) nz bk.1 bk.2 (aGW (wx (by decide) (by decide)) (wy (by decide) (by decide)) pos bd hu hv bu bv)⟩))))))))))⟩
theorem aIQ {n:Nat} {L:List D} (h:nY n L) (lo hi:Nat) (l:lo<=hi) (r:hi<=n):nY (hi - lo) (Dd.cutD L (some (lo:Int)) (some (hi:Int))):=by
 unfold Dd.cutD
 rw [h.1,HT.sIx_nat,HT.sIx_nat,Nat.min_eq_left (by omega),Nat.min_eq_left (by omega)]
 exact ⟨by rw [List.length_take,List.length_drop,h.1];omega,fun d hd=>h.2 d (List.mem_of_mem_drop (List.mem_of_mem_take hd))⟩
theorem e13:FQ (1 / 3:Rat) = D.tup [.int 1,.int 3]:=by
 unfold FQ
 rw [show (1 / 3:Rat).num = 1 by decide +kernel,show (1 / 3:Rat).den = 3 by decide +kernel];rfl
theorem g1 {a:Rat} (h:BQ 24 a):∃ A:Nat,0 < A/\A<=2 ^ 48/\Dv A a/\Ab (2 ^ 25) a :=
 ⟨a.den,a.den_pos,Nat.le_trans (Nat.le_of_lt (show a.den < 2 ^ 24 from h.2)) (by decide),.own a,(vJ h).mono (by decide)⟩
theorem gh {a:Rat} (h:BQ 24 a):∃ A:Nat,0 < A/\A<=2 ^ 48/\Dv A a/\Ab (2 ^ 25) a/\Ab (2 ^ 25) (a + a) :=
 ⟨a.den,a.den_pos,Nat.le_trans (Nat.le_of_lt (show a.den < 2 ^ 24 from h.2)) (by decide),.own a,(vJ h).mono (by decide),((vJ h).add (vJ h)).mono (by decide)⟩
theorem g2 {a b:Rat} (h:BQ 24 a) (h2:BQ 24 b):∃ A:Nat,0 < A/\A<=2 ^ 48/\(Dv A a/\Ab (2 ^ 25) a)/\Dv A b/\Ab (2 ^ 25) b :=
 ⟨a.den * b.den,Nat.mul_pos a.den_pos b.den_pos,Nat.le_trans (Nat.mul_le_mul (Nat.le_of_lt (show a.den < 2 ^ 24 from h.2)) (Nat.le_of_lt (show b.den < 2 ^ 24 from h2.2))) (by decide),⟨(Dv.own a).up _,(vJ h).mono (by decide)⟩,(Dv.own b).up' _,(vJ h2).mono (by decide)⟩
theorem g3 {t b:Int} (t0:0 < t) (t1:t<=12) (b0:0 < b) (b1:b<=12):plG 1 (2 ^ 25) (.grow ((t:Rat) / (b:Rat))):=by
 have c0:(b:Rat) ≠ 0:=by
  have:=aCe b0
  grind
 refine ⟨t.toNat,b.toNat,by omega,by omega,?_⟩
 rw [<- Rat.intCast_natCast,<- Rat.intCast_natCast,Int.toNat_of_nonneg (by omega),Int.toNat_of_nonneg (by omega)]
 exact Rat.div_mul_cancel c0
theorem b13:BQ 24 (1 / 3):=⟨by unfold Bd;decide +kernel,by unfold Bd;decide +kernel⟩
noncomputable def nI:DSp:=fun ds M Q=>∃ (a:Addr) (n:Nat) (L:List D),ds = [.ref a]/\M a = some L/\nY n L/\8<=n/\∀ p,plB 100 p->(∃ A:Nat,0 < A/\A<=2 ^ 48/\plG A (2 ^ 25) p)->Q (plD p) M
noncomputable abbrev qC:Stmt:=top 84
theorem jZ:aQ ["_law_row_here","_law_words","_law_word","_law_one"] ["_law_row_here"] (aJ qC):=⟨rfl,rfl,rfl,by decide +kernel,rfl,by decide +kernel,by decide +kernel⟩
theorem zY (hF:bX K mg "_law_plain" qC ["_law_row_here"]) (gK:mg "int" = none) (eZ:Has P w K mg base 102 "_law_drawn" ["_law_one","_law_other"] mR) (bV:Has P w K mg base 101 "_law_ratio" ["_law_top","_law_bottom"] gB) (uO:Has P w K mg base 103 "_law_bow" ["_law_row_here"] xS):Has P w K mg base 104 "_law_plain" ["_law_row_here"] nI:=by
 refine Has.mkZ hF jZ (fun ds M Q ⟨_,_,_,z,_⟩=>by rw [z];rfl) fun f cdv A outer s H ds M Q E hr h=>?_
 obtain ⟨a,n,L,rfl,ha,hL,hn,q⟩:=h
 refine ⟨_,(aF (aO (i:=1) jZ.nd (bR (aA aN (aA aN (aA aN (aA aN (aA aN (aA aN (aA aN (aA aN (aA aN (aA aN (aA aN (aA aN (aA aN aD)))))))))))))))
  (aF (aO (i:=2) jZ.nd (aH (aL cU (aB 1) (bR (aA aN (aA aN (aA aN aD))))) (aL dU (aH (aB 0) aC) aC)))
  (aF (aO (i:=3) jZ.nd (aG eZ hr (by decide) (aA (aH (aB 0) aC) (aA (aH (aB 0) aC) aD))))
  (aF (aX (aP vT (aB 2) (bR (aA aN (aA aN aD))) rfl) (aE (aM (aR (aA (aB 2) (aA (aB 3) aD))))) aT)
  (aF (aX (aP (bZ hr) (aB 2) aN) (aE (aM (aR (aA (aB 2) (aA (aB 3) (aA (aG eZ hr (by decide) (aA (aH (aB 0) aC) (aA (aH (aB 0) aC) aD))) aD)))))) aT)
  (aF (aX (aP (bZ hr) (aB 2) aN) (aE (aM (aR (aA (aB 2) (aA (aG bV hr (by decide) (aA (aL cU aC (aL dU (aH (aB 0) aC) aC)) (aA (aL cU aC (aL dU (aH (aB 0) aC) aC)) aD))) aD))))) aT)
  (aF (aX (aP vT (aB 2) (bR (aA aN (aA aN aD))) rfl) (aE (aM (aR (aA (aB 2) (aA (aH (bR (aA (aB 3) (aA (aR (aA aC (aA aC aD))) aD))) (cQ uQ gK (aA (cS (bZ hr) (aH (aB 3) aC) aC) aD))) aD))))) aT)
  (aF (aX (aP (bZ hr) (aB 2) aN) (aE (aM (aL qH (aR (aA (aB 2) aD)) (aG uO hr (by decide) (aA (aAs (aB 0) (fO aC) (fO aC)) aD))))) aT)
  (aE (aM (aR (aA (aB 2) aD)))))))))))),?_⟩
 decreasing_tactic
 obtain ⟨z0,e0,_⟩:=hL.at (i:=0) (by omega)
 obtain ⟨z1,e1,_⟩:=hL.at (i:=1) (by omega)
 obtain ⟨z2,e2,_⟩:=hL.at (i:=2) (by omega)
 obtain ⟨z3,e3,_⟩:=hL.at (i:=3) (by omega)
 obtain ⟨z4,e4,_⟩:=hL.at (i:=4) (by omega)
 refine ⟨by decide,fun p0 hp0=>⟨by decide,fun p1 hp1=>?_⟩⟩
 obtain ⟨n10,hp1'⟩:=iL hp1
 refine ⟨_,_,by rw [bI (Ne.symm n10)];exact aI,aI,by decide,fun p2 hp2=>?_⟩
 have s1:=((aW.new hp0 [D.str "go",.str "go",.str "side",.str "quarter",.str "half",.str "arc",.str "dot",.str "skip",.str "left",.str "right",.str "round",.str "mirror",.str "grow"]).trans (aW.new hp1 [D.str "side",.str "quarter",.str "arc"])).trans (aW.new hp2 [D.str "go",.str "go",.str "side",.str "quarter",.str "half",.str "arc",.str "dot",.str "skip",.str "left",.str "right",.str "round",.str "mirror",.str "grow",.str "side",.str "quarter",.str "arc"])
 decreasing_tactic
 refine ⟨L,_,s1 _ _ ha,e0,?_⟩
 decreasing_tactic
 obtain ⟨wd,ew,hw⟩:∃ wd:Str,atI [D.str "go",.str "go",.str "side",.str "quarter",.str "half",.str "arc",.str "dot",.str "skip",.str "left",.str "right",.str "round",.str "mirror",.str "grow",.str "side",.str "quarter",.str "arc"] (z0.fmod 16) = some (.str wd)/\(((wd = "go" ∨ wd = "skip") ∨ wd = "side" ∨ wd = "grow") ∨ ((wd = "quarter" ∨ wd = "half") ∨ wd = "arc") ∨ (wd = "dot" ∨ wd = "left") ∨ wd = "right" ∨ wd = "round" ∨ wd = "mirror"):=by
  have h1:=Int.fmod_nonneg_of_pos z0 (show (0:Int) < 16 by decide)
  have h2:=Int.fmod_lt_of_pos z0 (show (0:Int) < 16 by decide)
  have:((z0.fmod 16 = 0 ∨ z0.fmod 16 = 1 ∨ z0.fmod 16 = 2 ∨ z0.fmod 16 = 3) ∨ z0.fmod 16 = 4 ∨ z0.fmod 16 = 5 ∨ z0.fmod 16 = 6 ∨ z0.fmod 16 = 7) ∨ (z0.fmod 16 = 8 ∨ z0.fmod 16 = 9 ∨ z0.fmod 16 = 10 ∨ z0.fmod 16 = 11) ∨ z0.fmod 16 = 12 ∨ z0.fmod 16 = 13 ∨ z0.fmod 16 = 14 ∨ z0.fmod 16 = 15:=by omega
  rcases this with ((e | e | e | e) | e | e | e | e) | (e | e | e | e) | e | e | e | e<;>rw [e]<;>exact ⟨_,rfl,by decide⟩
 refine ⟨by decide,_,_,aI,ew,?_⟩
 generalize bC (bC (bC M p0 _) p1 _) p2 _ = M2 at s1 ⊢
 refine ⟨L,_,s1 _ _ ha,e1,L,_,s1 _ _ ha,e2,z1,z2,rfl,fun one bone _=>?_⟩
 decreasing_tactic
 refine ⟨by decide,fun p3 hp3=>⟨["go","skip"],aI,?_⟩⟩
 have s3:=s1.trans (aW.new hp3 [D.str "go",.str "skip"])
 have ha3:=s3 _ _ ha
 decreasing_tactic
 generalize bC M2 p3 _ = M3 at s3 ha3 ⊢
 have m24 {x:Rat} (h:BQ 24 x):BQ 100 x:=h.mono (by decide)
 rcases hw with ((rfl | rfl) | rfl | rfl) | ((rfl | rfl) | rfl) | (rfl | rfl) | rfl | rfl | rfl
 ·exact ifT (by decide) ⟨by decide,M,s3,q (.go one) (m24 bone) (g1 bone)⟩
 ·exact ifT (by decide) ⟨by decide,M,s3,q (.skip one) (m24 bone) (g1 bone)⟩
 ·refine ifF (by decide) ?_
  rw [aK]
  refine ifT (by decide) ⟨L,_,ha3,e3,L,_,ha3,e4,z3,z4,rfl,fun two btwo _=>?_⟩
  decreasing_tactic
  exact ⟨by decide,M,s3,q (.side one two) ⟨m24 bone,m24 btwo⟩ (g2 bone btwo)⟩
 ·refine ifF (by decide) ?_
  rw [aK]
  refine ifF (by decide) ?_
  rw [aK]
  refine ifT (by decide) ⟨L,_,ha3,e1,?_⟩
  decreasing_tactic
  refine ⟨by decide,L,_,ha3,e2,?_⟩
  decreasing_tactic
  have h1:=Int.fmod_nonneg_of_pos z1 (show (0:Int) < 12 by decide)
  have h2:=Int.fmod_lt_of_pos z1 (show (0:Int) < 12 by decide)
  have h3:=Int.fmod_nonneg_of_pos z2 (show (0:Int) < 12 by decide)
  have h4:=Int.fmod_lt_of_pos z2 (show (0:Int) < 12 by decide)
  refine ⟨by decide,_,_,rfl,by omega,(aCv (by omega) (by omega)).mono (by decide),?_⟩
  decreasing_tactic
  have sp:(0:Rat) < ((1 + z1.fmod 12:Int):Rat) / ((1 + z2.fmod 12:Int):Rat):=aFM (aCe (by omega)) (aCe (by omega))
  exact ⟨by decide,M,s3,q (.grow _) ⟨m24 (aFs (by omega) (by omega) (by omega) (by omega)),sp⟩ ⟨1,by decide,by decide,g3 (by omega) (by omega) (by omega) (by omega)⟩⟩
 all_goals
  refine ifF (by decide) ?_
  rw [aK]
  refine ifF (by decide) ?_
  rw [aK]
  refine ifF (by decide) ?_
  refine ⟨by decide,fun p4 hp4=>⟨["quarter","half"],aI,?_⟩⟩
  have s4:=s3.trans (aW.new hp4 [D.str "quarter",.str "half"])
  have ha4:=s4 _ _ ha
  decreasing_tactic
  generalize bC M3 p4 _ = M4 at s4 ha4 ⊢
 case inr.inl.inl.inl =>
  refine ifT (by decide) ⟨by decide,by decide,fun p5 hp5=>?_⟩
  rw [cK]
  by_cases c:one.num = 0
  ·rw [decide_eq_true c]
   have fin:=q (.quarter (1 / 3)) ⟨⟨by unfold Bd;decide +kernel,by unfold Bd;decide +kernel⟩,by decide +kernel⟩ (g1 b13)
   dsimp only [plD] at fin
   rw [e13] at fin
   exact ⟨_,_,aI,rfl,by decide,M,s4.trans (aW.new hp5 _),fin⟩
  ·rw [decide_eq_false c]
   exact ⟨_,_,aI,rfl,by decide,M,s4.trans (aW.new hp5 _),q (.quarter one) ⟨m24 bone,fun z=>c (by rw [z];rfl)⟩ (g1 bone)⟩
 case inr.inl.inl.inr =>
  refine ifT (by decide) ⟨by decide,by decide,fun p5 hp5=>?_⟩
  rw [cK]
  by_cases c:one.num = 0
  ·rw [decide_eq_true c]
   have fin:=q (.half (1 / 3)) ⟨⟨by unfold Bd;decide +kernel,by unfold Bd;decide +kernel⟩,by decide +kernel⟩ (gh b13)
   dsimp only [plD] at fin
   rw [e13] at fin
   exact ⟨_,_,aI,rfl,by decide,M,s4.trans (aW.new hp5 _),fin⟩
  ·rw [decide_eq_false c]
   exact ⟨_,_,aI,rfl,by decide,M,s4.trans (aW.new hp5 _),q (.half one) ⟨m24 bone,fun z=>c (by rw [z];rfl)⟩ (gh bone)⟩
 case inr.inl.inr =>
  refine ifF (by decide) ?_
  rw [aK]
  refine ifT (by decide) ⟨by decide,L,ha4,fun p5 hp5=>?_⟩
  refine ⟨p5,5,_,rfl,aI,aIQ hL 3 8 (by decide) (by omega),by decide,fun x y u v b1 b2 b3 b4 k1 k2 k3 kg=>?_⟩
  decreasing_tactic
  exact ⟨by decide,M,s4.trans (aW.new hp5 _),q (.arc x y u v) ⟨b1,b2,b3,b4,k1,k2,k3⟩ kg⟩
 all_goals
  refine ifF (by decide) ?_
  rw [aK]
  refine ifF (by decide) ⟨by decide,M,s4,?_⟩
 ·exact q .dot trivial ⟨1,by decide,by decide,trivial⟩
 ·exact q .left trivial ⟨1,by decide,by decide,trivial⟩
 ·exact q .right trivial ⟨1,by decide,by decide,trivial⟩
 ·exact q .rnd trivial ⟨1,by decide,by decide,trivial⟩
 ·exact q .mirror trivial ⟨1,by decide,by decide,trivial⟩
noncomputable def FA (A:Nat) (p:Pl):Prop:=plG A (2 ^ 25) p/\plB 100 p
theorem FA.up {A:Nat} {p:Pl} (h:FA A p) (m:Nat):FA (A * m) p:=⟨h.1.up m,h.2⟩
theorem aK2 (A:Nat):FA A .dot:=⟨trivial,trivial⟩
theorem aHH (A:Nat):FA A (.grow (1 / 12)):=⟨⟨1,12,by decide,by decide,by decide +kernel⟩,⟨by unfold Bd;decide +kernel,by unfold Bd;decide +kernel⟩,by decide +kernel⟩
theorem aNJ {A:Nat} {p:Pl} (h:FA A p):gwR 690 (.pl p):=by
 cases p with
 | grow a =>
  rw [gwR]
  obtain ⟨t,b,⟨t0,t1⟩,⟨b0,b1⟩,e⟩:=h.1
  exact ⟨t,b,⟨t0,by omega⟩,⟨b0,by omega⟩,e⟩
 | _ =>
     rw [gwR];· trivial
     all_goals (intro _ z;cases z)
theorem SI.up {A m:Nat} {B M:DM} {st:Addr} {es:Es} {c:Nat} (h:SI (FA A) B M st es c):SI (FA (A * m)) B M st es c :=
 ⟨h.sub,h.new,h.hst,h.len,h.sum,fun i x hx=>by
  obtain ⟨⟨a1,a2,a3⟩,a4⟩:=h.ent i x hx
  exact ⟨⟨⟨a1.dp,a1.len,a1.dn,a1.gw,sP (fun p hp=>hp.up m) _ a1.al,a1.lt⟩,a2,a3⟩,a4⟩,h.nod⟩
mutual
noncomputable def vER:Bool->Rw->Prop
 | _,.pl _=>True
 | b,.ag n rs=>(n<=1 ∨ n * dnS rs<=90)/\vES b rs
 | b,.kp rs=>vES b rs
 | b,.ev rs=>b = false/\enB rs = true/\vES true rs
noncomputable def vES:Bool->List Rw->Prop
 | _,[]=>True
 | b,r :: rs=>vER b r/\vES b rs
end
theorem nG {b:Bool}:∀ {xs ys:List Rw},vES b (xs ++ ys) ↔ vES b xs/\vES b ys
 | [],ys=>by rw [List.nil_append,vES,true_and]
 | x :: xs,ys=>by rw [List.cons_append,vES,vES,nG,and_assoc]
mutual
theorem aII:∀ r:Rw,vER true r->vER false r
 | .pl _,_=>by rw [vER];trivial
 | .ag _ rs,h=>by rw [vER] at h ⊢;exact ⟨h.1,wO rs h.2⟩
 | .kp rs,h=>by rw [vER] at h ⊢;exact wO rs h
 | .ev rs,h=>by rw [vER] at h;cases h.1
theorem wO:∀ rs:List Rw,vES true rs->vES false rs
 | [],_=>by rw [vES];trivial
 | r :: rs,h=>by rw [vES] at h ⊢;exact ⟨aII r h.1,wO rs h.2⟩
end
theorem aDQ {b:Bool} {n:Nat} {p:Pl}:vES b (List.replicate n (.pl p)):=by
 induction n with
 | zero=>rw [List.replicate_zero,vES];trivial
 | succ n ih=>rw [List.replicate_succ,vES,vER];exact ⟨trivial,ih⟩
theorem aNv {b:Bool} {rs:List Rw} (h:vES b rs):vES b (cM rs):=by
 unfold cM dW
 exact nG.mpr ⟨nG.mpr ⟨h,aDQ⟩,aDQ⟩
theorem aNf (rs:List Rw):hmS (cM rs)<=hmS rs + 2:=by
 unfold cM dW
 rw [gH,gH,uH.2,uH.2]
 have one:∀ b:Bool,(if b = true then 0 else 1)<=1:=fun b=>by cases b<;>decide
 have:=one (drS rs)
 have:=one (enB (rs ++ List.replicate (if drS rs = true then 0 else 1) (.pl .dot)))
 omega
noncomputable def fE (x:En × Nat):Bool:=x.1.wd == "ever"
noncomputable def jL:Bool->Es->Prop
 | _,[]=>True
 | b,x :: xs=>(b = true->fE x = false)/\vES (b || fE x) x.1.rs/\jL (b || fE x) xs
theorem mH:∀ {b:Bool} {xs ys:Es},jL b (xs ++ ys) ↔ jL b xs/\jL (b || xs.any fE) ys
 | b,[],ys=>by rw [List.nil_append,jL,List.any_nil,Bool.or_false,true_and]
 | b,x :: xs,ys=>by rw [List.cons_append,jL,jL,mH,List.any_cons,Bool.or_assoc,and_assoc,and_assoc]
noncomputable def mu:Es->Nat
 | []=>0
 | x :: xs=>2 * hmS x.1.rs + mu xs
theorem pH:∀ xs ys:Es,mu (xs ++ ys) = mu xs + mu ys
 | [],ys=>by rw [List.nil_append,mu,Nat.zero_add]
 | x :: xs,ys=>by rw [List.cons_append,mu,mu,pH xs ys,Nat.add_assoc]
noncomputable def hd0:Es->Bool
 | []=>false
 | x :: _=>fE x
structure SJ (es:Es) (c:Nat):Prop where
 hd:hd0 es = false
 al:jL false es
 mu:mu es + 3 * es.length<=3 * c + 3
structure SK (es:Es):Prop where
 hd:hd0 es = false
 al:jL false es
 mu:mu es + 3 * es.length + (if es.any fE then 3 else 0)<=114
theorem aC4 {es:Es} {x y:En × Nat} (e:fE x = fE y) (h:hd0 (es ++ [x]) = false):hd0 (es ++ [y]) = false:=by
 cases es with
 | nil=>exact e.symm.trans h
 | cons z zs=>exact h
theorem aF0 {es:Es} {x y:En × Nat} (h:hd0 (es ++ [x,y]) = false):hd0 (es ++ [x]) = false:=by
 cases es with
 | nil=>exact h
 | cons z zs=>exact h
theorem SJ.start {x:En × Nat} (h:x.1.rs = []) (w:fE x = false):SJ [x] 0:=by
 refine ⟨w,?_,?_⟩
 ·rw [jL,jL,h,vES];exact ⟨(fun e=>by cases e),trivial,trivial⟩
 ·rw [Lw.mu,Lw.mu,h,hmS];exact Nat.le_refl _
theorem SJ.row {es:Es} {u:En} {m m' c:Nat} {p:Pl} (h:SJ (es ++ [(u,m)]) c):SJ (es ++ [({ u with rs:=u.rs ++ [.pl p] },m')]) (c + 1):=by
 obtain ⟨hd,a,b⟩:=h
 obtain ⟨a1,a2⟩:=mH.mp a
 rw [jL,jL] at a2
 rw [pH,Lw.mu,Lw.mu,List.length_append] at b
 refine ⟨aC4 (by exact rfl) hd,mH.mpr ⟨a1,?_⟩,?_⟩
 ·rw [jL,jL]
  exact ⟨a2.1,nG.mpr ⟨a2.2.1,by rw [vES,vES,vER];exact ⟨trivial,trivial⟩⟩,trivial⟩
 ·rw [pH,Lw.mu,Lw.mu,List.length_append]
  dsimp only
  rw [gH,hmS,hmS,hmR]
  simp only [List.length_singleton] at b ⊢
  omega
theorem SJ.push {es:Es} {x:En × Nat} {c:Nat} (h:SJ es c) (hx:x.1.rs = []) (l0:0 < es.length) (hw:fE x = true->es.any fE = false):SJ (es ++ [x]) (c + 1):=by
 obtain ⟨hd,a,b⟩:=h
 refine ⟨?_,mH.mpr ⟨a,?_⟩,?_⟩
 ·cases es with
  | nil=>cases l0
  | cons z zs=>exact hd
 ·rw [jL,jL,hx,vES]
  refine ⟨fun e=>?_,trivial,trivial⟩
  cases hi:fE x with
  | false=>rfl
  | true=>rw [hw hi] at e;cases e
 ·rw [pH,Lw.mu,Lw.mu,hx,hmS,List.length_append]
  simp only [List.length_singleton]
  omega
theorem aF6 {es:Es} {u e:En} {m m' k:Nat} (h:jL false (es ++ [(u,m),(e,m')])) (w:wd3 e.wd) :
  jL false (es ++ [({ u with rs:=u.rs ++ [clE e.wd e.n e.rs] },k)])/\hmR (clE e.wd e.n e.rs)<=hmS e.rs + 1 + (if fE (e,m') then 2 else 0)/\(fE (e,m') = true->(es.any fE || fE (u,m)) = false):=by
 obtain ⟨a1,a2⟩:=mH.mp h
 rw [jL,jL,jL,Bool.false_or] at a2
 obtain ⟨b1,b2,b3,b4,_⟩:=a2
 have un:fE (e,m') = true->(es.any fE || fE (u,m)) = false:=fun z=>by
  cases hb:(es.any fE || fE (u,m)) with
  | false=>rfl
  | true=>rw [b3 hb] at z;cases z
 have key:vER (es.any fE || fE (u,m)) (clE e.wd e.n e.rs)/\hmR (clE e.wd e.n e.rs)<=hmS e.rs + 1 + (if fE (e,m') then 2 else 0):=by
  rcases w with z | z | z
  ·have f:fE (e,m') = false:=by unfold fE;rw [z];decide
   rw [f,Bool.or_false] at b4
   unfold clE
   rw [if_pos z,vER,hmR,f]
   exact ⟨⟨by split<;>omega,b4⟩,by simp only [Bool.false_eq_true,if_false];omega⟩
  ·have f:fE (e,m') = false:=by unfold fE;rw [z];decide
   rw [f,Bool.or_false] at b4
   unfold clE
   rw [if_neg (by rw [z];decide),if_neg (by rw [z];decide),vER,hmR,f]
   exact ⟨b4,by simp only [Bool.false_eq_true,if_false];omega⟩
  ·have f:fE (e,m') = true:=by unfold fE;rw [z];decide
   rw [f,Bool.or_true] at b4
   have o:=un f
   have hh:=aNf e.rs
   have vv:=aNv b4
   unfold clE
   rw [if_neg (by rw [z];decide),if_pos z,o,f]
   cases he:enB (cM e.rs) with
   | true=>rw [if_pos rfl,vER,hmR];exact ⟨⟨rfl,he,vv⟩,by simp only [if_true];omega⟩
   | false=>rw [if_neg (by decide),vER,hmR];exact ⟨wO _ vv,by simp only [if_true];omega⟩
 refine ⟨mH.mpr ⟨a1,?_⟩,key.2,un⟩
 rw [jL,jL,Bool.false_or]
 exact ⟨b1,nG.mpr ⟨b2,by rw [vES,vES];exact ⟨key.1,trivial⟩⟩,trivial⟩
theorem SJ.close {es:Es} {u e:En} {m m' k c:Nat} (h:SJ (es ++ [(u,m),(e,m')]) c) (w:wd3 e.wd):SJ (es ++ [({ u with rs:=u.rs ++ [clE e.wd e.n e.rs] },k)]) (c + 1):=by
 obtain ⟨hd,a,b⟩:=h
 obtain ⟨c1,c2,_⟩:=aF6 (k:=k) a w
 refine ⟨aC4 (by exact rfl) (aF0 hd),c1,?_⟩
 rw [pH,Lw.mu,Lw.mu,Lw.mu,List.length_append] at b
 rw [pH,Lw.mu,Lw.mu,List.length_append]
 dsimp only at b ⊢
 rw [gH,hmS,hmS]
 have:(if fE (e,m') = true then 2 else 0)<=2:=by split<;>decide
 simp only [List.length_singleton,List.length_cons,List.length_nil] at b ⊢
 omega
theorem SK.of {es:Es} {c:Nat} (h:SJ es c) (l:c<=36):SK es:=by
 refine ⟨h.hd,h.al,?_⟩
 have:=h.mu
 have:(if es.any fE = true then 3 else 0)<=3:=by split<;>decide
 omega
theorem SK.close {es:Es} {u e:En} {m m' k:Nat} (h:SK (es ++ [(u,m),(e,m')])) (w:wd3 e.wd):SK (es ++ [({ u with rs:=u.rs ++ [clE e.wd e.n e.rs] },k)]):=by
 obtain ⟨hd,a,b⟩:=h
 obtain ⟨c1,c2,c3⟩:=aF6 (k:=k) a w
 refine ⟨aC4 (by exact rfl) (aF0 hd),c1,?_⟩
 rw [pH,Lw.mu,Lw.mu,Lw.mu,List.length_append,List.any_append,List.any_cons,List.any_cons,List.any_nil,Bool.or_false] at b
 rw [pH,Lw.mu,Lw.mu,List.length_append,List.any_append,List.any_cons,List.any_nil,Bool.or_false]
 rw [show fE ({ u with rs:=u.rs ++ [clE e.wd e.n e.rs] },k) = fE (u,m) from rfl]
 dsimp only at b ⊢
 rw [gH,hmS,hmS]
 simp only [List.length_singleton,List.length_cons,List.length_nil] at b ⊢
 cases he:fE (e,m') with
 | true =>
  rw [c3 he]
  rw [he] at c2 b
  rw [Bool.or_true,Bool.or_true,if_pos rfl] at b
  simp only [if_true] at c2
  simp only [Bool.false_eq_true,if_false]
  omega
 | false =>
  rw [he] at c2 b
  rw [Bool.or_false] at b
  simp only [Bool.false_eq_true,if_false] at c2
  omega
theorem SK.end {x:En × Nat} (h:SK [x]):vES false x.1.rs/\hmS x.1.rs<=55:=by
 obtain ⟨w,a,b⟩:=h
 have w:fE x = false:=w
 rw [jL,w,Bool.false_or] at a
 rw [Lw.mu,Lw.mu,List.any_cons,w,List.any_nil] at b
 simp only [Bool.or_self,Bool.false_eq_true,if_false,List.length_singleton] at b
 exact ⟨a.2.1,by omega⟩
noncomputable def pS:DSp:=fun ds M Q=>∃ (p0:Addr) (cs:List Int),ds = [.ref p0]/\M p0 = some (cs.map D.int)/\cs.length<=36/\∀ (rs:List Rw) (A:Nat) (M':DM),0 < A->A<=2 ^ (48 * 36)->(∀ r ∈ rs,Dp 4 r)->rs.length<=40->dnS rs<=300->gwS 690 rs->alS (FA A) rs->ltS rs/\hmS rs<=55/\vES false rs->aW M M'->Q (.tup (bG rs)) M'
theorem SI.mono {F:Pl->Prop} {B M M':DM} {st:Addr} {es:Es} {c:Nat} (h:SI F B M st es c) (s:aW M M'):SI F B M' st es c :=
 ⟨h.sub.trans s,h.new,s _ _ h.hst,h.len,h.sum,fun i x hx=>by
  obtain ⟨⟨a1,a2,a3⟩,a4⟩:=h.ent i x hx
  exact ⟨⟨a1,s _ _ a2,a3⟩,a4⟩,h.nod⟩
theorem SI.start {F:Pl->Prop} {M:DM} {a0 st:Addr} (h0:M a0 = none) (hs:bC M a0 [] st = none):SI F M (bC (bC M a0 []) st [D.tup [.str "",.int 0,.ref a0]]) st [(⟨"",0,a0,[]⟩,0)] 0:=by
 obtain ⟨n,hs'⟩:=iL hs
 refine ⟨(aW.new h0 _).trans (aW.new hs _),hs',aI,(by show 1<=5;omega),(by show 0 + 0 + (0 + 1)<=0 + 1;omega),fun i x hx=>?_,by simp⟩
 rcases tL (xs:=[]) hx with z | ⟨rfl,rfl⟩
 ·simp at z
 ·exact ⟨⟨⟨(fun r hr=>nomatch hr),Nat.le_refl _,(by show dnS []<=_;rw [dnS];exact Nat.zero_le _),(by show gwS _ [];rw [gwS];trivial),(by show alS _ [];rw [alS];trivial),(by show ltS [];rw [ltS];trivial),(by show hmS []<=_;rw [hmS];exact Nat.zero_le _)⟩,(by show bC _ st _ a0 = _;rw [bI (Ne.symm n)];exact aI),h0⟩,n,(by show 0<=12;omega),fun z=>absurd z (by show ¬ 0 < 0;omega)⟩
noncomputable def aMJ (M:DM) (p0 st:Addr) (i:Nat) (ρ:cV) (M':DM):Prop:=∃ (A:Nat) (es:Es),(0 < A/\A<=2 ^ (48 * i))/\0 < es.length/\(SI (FA A) M M' st es i/\SJ es i)/\∃ o2 o3 o4 o5 o6,ρ = [some (.ref p0),some (.ref st),o2,o3,o4,o5,o6]
theorem wK {es:Es} (h:0 < es.length):∃ (es':Es) (u:En) (m:Nat),es = es' ++ [(u,m)]:=by
 have n:es ≠ []:=fun z=>by rw [z] at h;exact absurd h (by decide)
 exact ⟨es.dropLast,_,_,(List.dropLast_concat_getLast n).symm⟩
theorem aF9 {es:Es} {u:En} {m:Nat}:(es ++ [(u,m)])[es.length]? = some (u,m):=by rw [List.getElem?_append_right (Nat.le_refl _)];simp
theorem rV {A m i:Nat} {M M2:DM} {p0 st pr:Addr} {es:Es} {u:En} {L:List D} {o2 o3 o4 o5 o6:Option D} (ap:0 < A) (al:A<=2 ^ (48 * i)) (hi:i < 36) (si:SI (FA A) M M2 st (es ++ [(u,m)]) i) (sj:SJ (es ++ [(u,m)]) i) (hpr:M2 pr = some L) (hL:nY 12 L):∃ ds d,M2 st = some ds/\atI ds (-1) = some d/\mP d (.int 2) M2 fun x M1=>match x with
  | .ref p=>(∃ ds,M1 p = some ds)/\nI [.ref pr] M1 fun x M1=>∃ ds y,[x] = [y]/\M1 p = some ds/\ds.length < 1000/\aMJ M p0 st (i + 1) [some (.ref p0),some (.ref st),o2,o3,o4,o5,o6] (bC M1 p (ds ++ [y]))
  | _=>False:=by
 have hu:=si.ent _ _ aF9
 have sm:=si.sum
 rw [List.map_append,List.sum_append,List.length_append] at sm
 simp at sm
 refine ⟨_,enD u,si.hst,by unfold esD;rw [List.map_append];exact aA0,?_⟩
 show (∃ ds,M2 u.a = some ds)/\_
 refine ⟨⟨_,hu.1.2.1⟩,pr,12,L,rfl,hpr,hL,by decide,fun p pb ⟨B,b0,b1,pg⟩=>⟨_,_,rfl,hu.1.2.1,?_,?_⟩⟩
 ·have:=hu.1.1.len
  rw [cL];show u.rs.length < 1000
  have:(u,m).2 = m:=rfl
  simp only at *
  omega
 ·refine ⟨A * B,es ++ [({ u with rs:=u.rs ++ [.pl p] },m + 1)],⟨Nat.mul_pos ap b0,?_⟩,by rw [List.length_append];show 0 < _ + 1;omega,⟨?_,sj.row⟩,_,_,_,_,_,rfl⟩
  ·rw [Nat.mul_add,Nat.mul_one,Nat.pow_add];exact Nat.mul_le_mul al b1
  ·have hp:FA (A * B) p:=⟨by rw [Nat.mul_comm];exact pg.up A,pb⟩
   have s1:=si.up (m:=B)
   refine s1.top (by rw [bI hu.2.1];exact si.hst) (by rw [mL];exact aI) (fR.refl.put (by simp)) ((s1.ent _ _ aF9).1.1.row hp (aNJ hp)) (by omega)
theorem wV {A m m' i:Nat} {M M2:DM} {st:Addr} {es:Es} {u e:En} {Q:DQ} (hi:i<=39) (si:SI (FA A) M M2 st (es ++ [(u,m),(e,m')]) i) (q:∀ M' (es':Es),es'.length = es.length + 1->SI (FA A) M M' st es' (i + 1)->(∀ c,SJ (es ++ [(u,m),(e,m')]) c->SJ es' (c + 1))->(SK (es ++ [(u,m),(e,m')])->SK es')->Q .non M'):nK [.ref st] M2 Q:=by
 have spl:es ++ [(u,m),(e,m')] = (es ++ [(u,m)]) ++ [(e,m')]:=by simp
 have ue:=si.ent es.length (u,m) (by rw [List.getElem?_append_right (Nat.le_refl _)];simp)
 have ee:=si.ent (es.length + 1) (e,m') (by rw [List.getElem?_append_right (by omega)];simp)
 have nd:=si.nod
 have sm:=si.sum
 have ln:=si.len
 simp at nd sm ln
 have l1:=ue.1.1.len
 have l2:=ee.1.1.len
 have d2:=ee.1.1.dn
 have f2:=aI7 (m:=m')
 simp only at l1 l2 d2
 refine ⟨st,es.map (·.1),u,e,rfl,?_,by rw [List.length_map];omega,⟨ue.2.1,ee.2.1,?_⟩,ue.1.2.1,ee.1.2.1,ee.2.2.2 (by omega),ee.2.2.1,⟨by show e.rs.length<=1000;omega,fun r hr=>kB (d':=6) (ee.1.1.dp r hr) (Nat.le_trans (Nat.sub_le _ _) (by decide))⟩,xD (by decide) _ ee.1.1.gw,by omega,by omega,by omega,fun M' h1 h2 k=>?_⟩
 ·rw [si.hst];unfold esD;simp
 ·intro z
  rw [List.nodup_append] at nd
  have:=nd.2.1
  rw [z] at this
  simp at this
 ·refine q M' _ ?_ (si.close ?_ h2 k (aK2 A) (aHH A) hi) (fun c h=>h.close (ee.2.2.2 (by omega))) (fun h=>h.close (ee.2.2.2 (by omega)))
  ·rw [List.length_append];rfl
  ·rw [h1];unfold esD;simp
noncomputable abbrev jD:Stmt:=top 90
theorem dJ:aQ ["_law_cells","_law_stack","_law_cell","_law_row_here","_law_way","_law_word","_law_rows"] ["_law_cells"] (aJ jD):=⟨rfl,rfl,rfl,by decide +kernel,rfl,by decide +kernel,by decide +kernel⟩
theorem vV (hF:bX K mg "_law_program" jD ["_law_cells"]) (eD:mg "len" = none) (cI:mg "tuple" = none) (tY:Has P w K mg base 101 "_law_row" ["_law_cell","_law_many"] zB) (pN:Has P w K mg base 104 "_law_plain" ["_law_row_here"] nI) (lF:Has P w K mg base 120 "_law_close" ["_law_stack"] nK) (cW:Has P w K mg base 118 "_law_done" ["_law_rows"] (iC 8)):Has P w K mg base 121 "_law_program" ["_law_cells"] pS:=by
 refine Has.mkZ hF dJ (fun ds M Q ⟨_,_,z,_⟩=>by rw [z];rfl) fun f cdv A outer s H ds M Q E hr h=>?_
 obtain ⟨p0,cs,rfl,hp0,hl,q⟩:=h
 refine ⟨_,(aF (aO (i:=1) dJ.nd (bR (aA (aR (aA aN (aA aC (aA (bR aD) aD)))) aD)))
  (aF (aGk PassesOwn.never rfl (aB 0) (aV (i:=2) dJ.nd) (aF (aO (i:=3) dJ.nd (aG tY hr (by decide) (aA (aB 2) (aA aC aD))))
  (aF (aO (i:=4) dJ.nd (aL dU (aH (aB 3) aC) aC))
  (aE (aX (fA (fF (aP yG (aB 4) aC) (eN (aP yG (cD jO eD (aA (aB 1) aD)) aC)))) (aF (aO (i:=5) dJ.nd (aH (bR (aA aN (aA aN (aA aN aD)))) (aB 4)))
  (gR (aX (fA (fF (aP (bZ hr) (aB 5) aN) (eN (aP vT aN (aDG (⟨rfl,by decide +kernel,by decide +kernel,by decide +kernel,rfl,by decide +kernel⟩:qP ["_law_cells","_law_stack","_law_cell","_law_row_here","_law_way","_law_word","_law_rows"] (aJ jD) ["_law_block"] [none] _) rfl (aB 1) (fun _ _ _ _ _=>(aV (i:=0) (show List.Nodup (["_law_block"]:List Str) by decide +kernel))) (fun _ _ _ _ _=>(aH (aB 0) aC))) rfl)))) (aE (aO (i:=5) dJ.nd aN)) aT)
  (aE (dD (dO (aB 1) (aR (aA (aB 5) (aA (aL dU (aH (aB 3) aC) (aH (bR (aA aC (aA aC (aA aC aD)))) (aL dU (aH (aB 3) aC) aC))) (aA (bR aD) aD))))))))) (aE (aX (fA (fF (aP (bZ hr) (aB 4) aC) (eN (aP iD (cD jO eD (aA (aB 1) aD)) aC)))) (aE (dD (aG lF hr (by decide) (aA (aB 1) aD)))) (aE (dD (dO (aH (aH (aB 1) (eL aC)) aC) (aG pN hr (by decide) (aA (aB 3) aD))))))))))))
  (aF (kF PassesOwn.never (aP iD (cD jO eD (aA (aB 1) aD)) aC) (aE (dD (aG lF hr (by decide) (aA (aB 1) aD)))))
  (aF (aO (i:=6) dJ.nd (aH (aH (aB 1) aC) aC))
  (aF (kF PassesOwn.never (aP iD (aG cW hr (by decide) (aA (aB 6) aD)) aC) (aE (dD (wP (aB 6)))))
  (aE (aM (cQ mF cI (aA (aB 6) aD))))))))),?_⟩
 decreasing_tactic
 refine ⟨by decide,fun a0 h0=>⟨by decide,by decide,fun st hs=>?_⟩⟩
 have si0:=SI.start (F:=FA 1) h0 hs
 generalize bC (bC M a0 []) st _ = M0 at si0 ⊢
 refine ⟨_,si0.sub _ _ hp0,aMJ M p0 st,⟨1,_,⟨by decide,by decide⟩,by show 0 < 1;omega,⟨si0,SJ.start rfl rfl⟩,_,_,_,_,_,rfl⟩,fun i ρ M' _ ⟨_,_,_,_,⟨si,_⟩,_⟩ a e=>by cases e;exact si.sub _ _ hp0,?_,?_⟩
 ·rintro i d ρ M1 hd ⟨A,es,⟨ap,al⟩,e0,⟨si,sj⟩,o2,o3,o4,o5,o6,rfl⟩
  obtain ⟨c,_,rfl⟩:=List.mem_map.mp (List.mem_of_getElem? hd)
  have hi:i < 36:=by
   have:=(List.getElem?_eq_some_iff.mp hd).1
   rw [List.length_map] at this;omega
  decreasing_tactic
  refine ⟨c,12,rfl,by decide,by decide,fun pr L hpr hL=>?_⟩
  have si2:=si.mono (aW.new hpr L)
  have hpr2:bC M1 pr L pr = some L:=aI
  have hL:nY 12 L:=hL
  generalize bC M1 pr L = M2 at si2 hpr2 ⊢
  clear si
  obtain ⟨z11,e11,_⟩:=hL.at (i:=11) (by omega)
  obtain ⟨z10,e10,_⟩:=hL.at (i:=10) (by omega)
  obtain ⟨z9,e9,_⟩:=hL.at (i:=9) (by omega)
  decreasing_tactic
  refine ⟨L,_,hpr2,e11,?_⟩
  decreasing_tactic
  refine ⟨by decide,?_⟩
  have hst:=si2.hst
  have sl:(esD es).length = es.length:=List.length_map _
  obtain ⟨es',u,m,rfl⟩:=wK e0
  by_cases c1:z11.fmod 9 < 3
  ·refine ifT (decide_eq_true c1) ⟨_,hst,?_⟩
   rw [sl]
   by_cases c2:(es' ++ [(u,m)]).length < 5
   ·refine ifT (decide_eq_true (by omega)) ⟨by decide,fun p hp=>?_⟩
    have s3:=aW.new hp [D.str "again",.str "keep",.str "ever"]
    obtain ⟨wd,ew,hw⟩:∃ wd:Str,atI [D.str "again",.str "keep",.str "ever"] (z11.fmod 9) = some (.str wd)/\wd3 wd:=by
     have h1:=Int.fmod_nonneg_of_pos z11 (show (0:Int) < 9 by decide)
     have:z11.fmod 9 = 0 ∨ z11.fmod 9 = 1 ∨ z11.fmod 9 = 2:=by omega
     rcases this with e | e | e<;>rw [e]
     ·exact ⟨_,rfl,.inl rfl⟩
     ·exact ⟨_,rfl,.inr (.inl rfl)⟩
     ·exact ⟨_,rfl,.inr (.inr rfl)⟩
    refine ⟨_,_,aI,ew,fun ρ' M'=>aW M2 M'/\∃ wd o6,(wd3 wd/\(wd = "ever"->(es' ++ [(u,m)]).any fE = false))/\ρ' = [some (.ref p0),some (.ref st),some (.int c),some (.ref pr),some (.int (z11.fmod 9)),some (.str wd),o6],?_,?_⟩
    ·generalize bC M2 p _ = M3 at s3
     rw [aK]
     by_cases ce:wd = "ever"
     ·refine ifT (decide_eq_true ce) ⟨_,s3 _ _ hst,by rw [sl];omega,fun i ys M'=>M' = M3/\ys = ((es' ++ [(u,m)]).take i).map (fun x=>D.str x.1.wd),⟨rfl,rfl⟩,fun i ys M' _ h a e=>by cases e;rw [h.1];exact s3 _ _ hst,?_,?_⟩
      ·rintro i d ys M' hd ⟨rfl,rfl⟩
       unfold esD at hd
       rw [List.getElem?_map] at hd
       obtain ⟨x,hx,rfl⟩:=Option.map_eq_some_iff.mp hd
       rw [show enD x.1 = .tup [.str x.1.wd,.int (x.1.n:Int),.ref x.1.a] from rfl]
       decreasing_tactic
       exact ⟨rfl,by rw [eM hx,List.map_append];rfl⟩
      ·rintro ys M' ly ⟨rfl,rfl⟩ pt hpt
       have s4:=s3.trans (aW.new hpt ((((es' ++ [(u,m)]).take (esD (es' ++ [(u,m)])).length)).map (fun x=>D.str x.1.wd)))
       decreasing_tactic
       refine ⟨((es' ++ [(u,m)]).take (esD (es' ++ [(u,m)])).length).map (fun x=>x.1.wd),by rw [aI,List.map_map];rfl,?_⟩
       have tk:(es' ++ [(u,m)]).take (esD (es' ++ [(u,m)])).length = es' ++ [(u,m)]:=by rw [sl,List.take_length]
       rw [tk] at s4 ⊢
       split
       ·exact ⟨s4,_,_,⟨.inr (.inl rfl),fun z=>by cases z⟩,rfl⟩
       ·rename_i nn
        refine ⟨s4,_,_,⟨hw,fun _=>?_⟩,rfl⟩
        have nn:¬ ((es' ++ [(u,m)]).map (fun x=>x.1.wd)).any (fun x=>x == ("ever":Str)) = true:=nn
        rw [List.any_map] at nn
        cases hz:(es' ++ [(u,m)]).any fE with
        | false=>rfl
        | true=>exact absurd hz nn
     ·exact ifF (decide_eq_false ce) (ifF rfl ⟨s3,_,_,⟨hw,fun z=>absurd z ce⟩,rfl⟩)
    ·rintro ρ' M3 ⟨s3',wd,o6,⟨hw,hwe⟩,rfl⟩
     have si3:=si2.mono s3'
     have hpr3:=s3' _ _ hpr2
     clear s3 hp s3'
     decreasing_tactic
     refine ⟨⟨_,si3.hst⟩,L,_,hpr3,e10,by decide,fun p4 hp4=>?_⟩
     have s4:=aW.new hp4 [D.int 3,.int 3,.int 13]
     refine ⟨L,_,s4 _ _ hpr3,e9,?_⟩
     decreasing_tactic
     obtain ⟨k,ek,hk⟩:∃ k:Int,atI [D.int 3,.int 3,.int 13] (z9.fmod 3) = some (.int k)/\(k = 3 ∨ k = 13):=by
      have h1:=Int.fmod_nonneg_of_pos z9 (show (0:Int) < 3 by decide)
      have h2:=Int.fmod_lt_of_pos z9 (show (0:Int) < 3 by decide)
      have:z9.fmod 3 = 0 ∨ z9.fmod 3 = 1 ∨ z9.fmod 3 = 2:=by omega
      rcases this with e | e | e<;>rw [e]
      ·exact ⟨_,rfl,.inl rfl⟩
      ·exact ⟨_,rfl,.inl rfl⟩
      ·exact ⟨_,rfl,.inr rfl⟩
     refine ⟨by decide,_,_,aI,ek,?_⟩
     decreasing_tactic
     have si4:=si3.mono s4
     generalize bC M3 p4 _ = M4 at s4 si4
     have h1:=Int.fmod_nonneg_of_pos z10 (show (0:Int) < k by omega)
     have h2:=Int.fmod_lt_of_pos z10 (show (0:Int) < k by omega)
     refine ⟨by omega,by decide,fun p5 hp5=>⟨by decide,_,_,rfl,(aW.new hp5 []) _ _ si4.hst,by rw [sl];omega,?_⟩⟩
     have n5:p5 ≠ st:=fun z=>by rw [z,si4.hst] at hp5;cases hp5
     refine ⟨A,(es' ++ [(u,m)]) ++ [(⟨wd,(z10.fmod k).toNat,p5,[]⟩,0)],⟨ap,Nat.le_trans al (Nat.pow_le_pow_right (by decide) (by omega))⟩,by rw [List.length_append];show 0 < _ + 1;omega,⟨?_,sj.push rfl e0 (fun z=>hwe (by unfold fE at z;exact eq_of_beq z))⟩,_,_,_,_,_,rfl⟩
     refine si4.push c2 hp5 ?_ ?_ ?_ hw (by omega) (Nat.le_refl _)
     ·rw [aI]
      have e:esD ((es' ++ [(u,m)]) ++ [(⟨wd,(z10.fmod k).toNat,p5,[]⟩,0)]) = esD (es' ++ [(u,m)]) ++ [D.tup [.str wd,.int ((z10.fmod k).toNat:Int),.ref p5]]:=by unfold esD;rw [List.map_append (l₁:=es' ++ [(u,m)])];rfl
      rw [e,Int.toNat_of_nonneg h1]
     ·rw [bI n5];exact aI
     ·exact (fR.refl.put (by simp)).put (by simp)
   ·refine ifF (decide_eq_false (by omega)) ?_
    rw [cK]
    refine ifF (decide_eq_false (by omega)) (ifF rfl ?_)
    exact rV ap al hi si2 sj hpr2 hL
  ·refine ifF (decide_eq_false c1) (ifF rfl ?_)
   rw [cK]
   by_cases c3:z11.fmod 9 = 3
   ·refine ifT (decide_eq_true c3) ⟨_,hst,?_⟩
    rw [sl]
    by_cases c2:1 < (es' ++ [(u,m)]).length
    ·refine ifT (decide_eq_true (by omega)) ?_
     have l0:0 < es'.length:=by rw [List.length_append] at c2;simp at c2;omega
     obtain ⟨es2,u2,m2,rfl⟩:=wK l0
     rw [List.append_assoc] at si2 sj
     refine wV (by omega) si2 fun M' es3 l3 si3 j1 _=>?_
     exact ⟨A,es3,⟨ap,Nat.le_trans al (Nat.pow_le_pow_right (by decide) (by omega))⟩,by omega,⟨si3,j1 _ sj⟩,_,_,_,_,_,rfl⟩
    ·refine ifF (decide_eq_false (by omega)) ?_
     exact rV ap al hi si2 sj hpr2 hL
   ·refine ifF (decide_eq_false c3) (ifF rfl ?_)
    exact rV ap al hi si2 sj hpr2 hL
 ·rintro ρ M' ⟨A,es,⟨ap,al⟩,e0,⟨si,sj⟩,o2,o3,o4,o5,o6,rfl⟩
  rw [List.length_map] at al si sj
  have al:A<=2 ^ (48 * 36):=Nat.le_trans al (Nat.pow_le_pow_right (by decide) (by omega))
  refine kE (fun m ρ M'=>∃ (c:Nat) (es:Es),m = es.length/\0 < es.length/\c + es.length<=41/\(SI (FA A) M M' st es c/\SK es)/\∃ o2 o3 o4 o5 o6,ρ = [some (.ref p0),some (.ref st),o2,o3,o4,o5,o6]) es.length ⟨cs.length,es,rfl,e0,by have:=si.len;omega,⟨si,SK.of sj hl⟩,_,_,_,_,_,rfl⟩ ?_
  clear si sj e0 es
  rintro m ρ M1 ⟨c,es,rfl,e0,hc,⟨si,sk⟩,o2,o3,o4,o5,o6,rfl⟩
  have sl:(esD es).length = es.length:=List.length_map _
  decreasing_tactic
  refine ⟨_,si.hst,?_⟩
  rw [sl]
  obtain ⟨es',u,m,rfl⟩:=wK e0
  by_cases c2:1 < (es' ++ [(u,m)]).length
  ·refine ifT (decide_eq_true (by omega)) ?_
   have le:(es' ++ [(u,m)]).length = es'.length + 1:=by rw [List.length_append];rfl
   obtain ⟨es2,u2,m2,rfl⟩:=wK (show 0 < es'.length by omega)
   have le2:(es2 ++ [(u2,m2)]).length = es2.length + 1:=by rw [List.length_append];rfl
   rw [List.append_assoc] at si sk
   refine wV (by omega) si fun M' es3 l3 si3 _ k1=>?_
   exact ⟨es3.length,by omega,c + 1,es3,rfl,by omega,by omega,⟨si3,k1 sk⟩,_,_,_,_,_,rfl⟩
  ·refine ifF (decide_eq_false (by omega)) ?_
   have l0:es' = []:=by
    have le:(es' ++ [(u,m)]).length = es'.length + 1:=by rw [List.length_append];rfl
    exact List.eq_nil_of_length_eq_zero (by omega)
   subst l0
   have hu:=si.ent 0 (u,m) rfl
   have sm:=si.sum
   simp at sm
   refine ⟨_,_,si.hst,qQ,?_⟩
   show mP (.tup [.str u.wd,.int (u.n:Int),.ref u.a]) (.int 2) M1 _
   decreasing_tactic
   have ok:=hu.1.1
   refine kE (fun m ρ M'=>∃ rs:List Rw,m = rs.length/\rs.length<=40/\(∀ r ∈ rs,Dp 4 r)/\gwS 690 rs/\alS (FA A) rs/\(ltS rs/\hmS rs<=55/\vES false rs)/\M' u.a = some (bG rs)/\aW M M'/\∃ o1 o2 o3 o4 o5,ρ = [some (.ref p0),o1,o2,o3,o4,o5,some (.ref u.a)]) u.rs.length ⟨u.rs,rfl,by have:=ok.len;simp only at this;omega,ok.dp,ok.gw,ok.al,⟨ok.lt.1,sk.end.2,sk.end.1⟩,hu.1.2.1,si.sub,_,_,_,_,_,rfl⟩ ?_
   have ua:=hu.1.2.2
   clear si sk hu sm ok hc c2 e0 sl
   rintro m ρ M2 ⟨rs,rfl,lr,dp,gw,al2,⟨lt2,hm2,ve2⟩,hM,sub,o1,o2,o3,o4,o5,rfl⟩
   decreasing_tactic
   have d8:DpS 8 rs:=⟨by omega,fun r hr=>kB (d':=7) (dp r hr) (by decide)⟩
   refine ⟨_,rs,rfl,.inr ⟨_,rfl,hM⟩,d8,?_⟩
   decreasing_tactic
   by_cases c3:300 < dnS rs
   ·refine ifT (decide_eq_true (by omega)) ?_
    have rn:rs ≠ []:=fun z=>by rw [z,dnS] at c3;omega
    obtain ⟨rs',r,rfl⟩:∃ rs' r,rs = rs' ++ [r]:=⟨_,_,(List.dropLast_concat_getLast rn).symm⟩
    have el:bG (rs' ++ [r]) = bG rs' ++ [rwD r]:=by rw [mL,bG,bG]
    have ll:(rs' ++ [r]).length = rs'.length + 1:=by rw [List.length_append];rfl
    rw [el] at hM
    refine ⟨_,rwD r,hM,by simp,rs'.length,by omega,rs',rfl,by omega,fun x hx=>dp x (List.mem_append_left _ hx),(jE.mp gw).1,(nS.mp al2).1,⟨(nL.mp lt2).1,by rw [gH] at hm2;omega,(nG.mp ve2).1⟩,by rw [aI,List.dropLast_concat],?_,_,_,_,_,_,rfl⟩
    exact sK sub (fR.refl.put (List.mem_singleton.mpr rfl)) fun a ha=>by rw [List.mem_singleton.mp ha];exact ua
   ·refine ifF (decide_eq_false (by omega)) ?_
    decreasing_tactic
    exact ⟨_,hM,aZ (q rs A M2 ap al dp lr (by omega) gw al2 ⟨lt2,hm2,ve2⟩ sub)⟩
noncomputable def aDS (d:Nat):DSp:=fun ds M Q=>∃ rs,ds = [.tup (bG rs)]/\DpS d rs/\Q (.int (hmS rs:Int)) M
noncomputable abbrev jK:Stmt:=top 50
theorem eE:aQ ["rows","many","row","within"] ["rows"] (aJ jK):=⟨rfl,rfl,rfl,by decide +kernel,rfl,by decide +kernel,by decide +kernel⟩
theorem tD (hF:bX K mg "how_many_rows" jK ["rows"]) (eD:mg "len" = none) (bO:Has P w K mg base 101 "rows_within" ["row"] fX):Has P w K mg base 118 "how_many_rows" ["rows"] (aDS 8):=by
 have all:∀ d,Has P w K mg base (110 + d) "how_many_rows" ["rows"] (aDS d):=fun d=>by
  induction d with
  | zero=>exact (Has.never hF eE 109).imp fun ds M Q ⟨rs,_,z,_⟩=>z
  | succ d dB =>
   refine Has.mkZ (k:=110 + d) hF eE (fun ds M Q ⟨a,z,_⟩=>by rw [z];rfl) fun f cdv A outer s H ds M Q E hr h=>?_
   obtain ⟨rs,rfl,dp,q⟩:=h
   refine ⟨_,(aF (aO (i:=1) eE.nd (cD jO eD (aA (aB 0) aD)))
  (aF (iN PassesOwn.never rfl (aB 0) (aV (i:=2) eE.nd) (aF (aO (i:=3) eE.nd (aG bO hr (by omega) (aA (aB 2) aD)))
  (aE (aX (aP aCp (aB 3) cZ) (aE (qG (i:=1) yP eE.nd (aG dB hr (by omega) (aA (aB 3) aD)))) aT))))
  (aE (aM (aB 1))))),?_⟩
   decreasing_tactic
   refine ⟨fun i ρ M'=>M' = M/\∃ o1 o2,ρ = [some (.tup (bG rs)),some (.int ((rs.length:Int) + (hmS (rs.take i):Int) - (i:Int))),o1,o2],⟨rfl,none,none,?_⟩,fun i ρ M' _ _ a e=>(by cases e),?_,?_⟩
   ·rw [List.take_zero,hmS,cL,show (rs.length:Int) + ((0:Nat):Int) - ((0:Nat):Int) = (rs.length:Int) by omega]
   ·rintro i d1 ρ M' hd ⟨rfl,o1,o2,rfl⟩
    obtain ⟨r,hr',rfl⟩:=fP hd
    have dr:=dp.2 r (List.mem_of_getElem? hr')
    decreasing_tactic
    refine ⟨r,rfl,?_⟩
    have fin:hmS (rs.take (i + 1)) = hmS (rs.take i) + hmR r:=by rw [eM hr',gH,hmS,hmS,Nat.add_zero]
    rw [fin]
    have blk:∀ ws:List Rw,hmR r = 1 + hmS ws->(rs.length:Int) + (hmS (rs.take i):Int) - (i:Int) + (hmS ws:Int) = (rs.length:Int) + ((hmS (rs.take i) + hmR r:Nat):Int) - ((i + 1:Nat):Int):=fun ws e=>by omega
    cases r with
    | pl p =>
     dsimp only [inR]
     decreasing_tactic
     refine ifF rfl ?_
     rw [hmR,show (rs.length:Int) + ((hmS (rs.take i) + 1:Nat):Int) - ((i + 1:Nat):Int) = (rs.length:Int) + (hmS (rs.take i):Int) - (i:Int) by omega]
     exact ⟨rfl,_,_,rfl⟩
    | ag n ws =>
     obtain ⟨hn,dw⟩:=kN dr
     dsimp only [inR]
     decreasing_tactic
     refine ifT rfl ⟨ws,rfl,dw,?_⟩
     decreasing_tactic
     rw [blk ws (by rw [hmR])]
     exact ⟨rfl,_,_,rfl⟩
    | kp ws =>
     have dw:=oE dr
     dsimp only [inR]
     decreasing_tactic
     refine ifT rfl ⟨ws,rfl,dw,?_⟩
     decreasing_tactic
     rw [blk ws (by rw [hmR])]
     exact ⟨rfl,_,_,rfl⟩
    | ev ws =>
     have dw:=mJ dr
     dsimp only [inR]
     decreasing_tactic
     refine ifT rfl ⟨ws,rfl,dw,?_⟩
     decreasing_tactic
     rw [blk ws (by rw [hmR])]
     exact ⟨rfl,_,_,rfl⟩
   ·rintro ρ M' ⟨rfl,o1,o2,rfl⟩
    rw [cL,List.take_length,show (rs.length:Int) + (hmS rs:Int) - (rs.length:Int) = (hmS rs:Int) by omega]
    exact aZ q
 exact all 8
noncomputable def jP:DSp:=fun ds M Q=>∃ rs,ds = [.tup (bG rs)]/\DpS 8 rs/\hmS rs<=60/\Q (.tup (bG rs)) M
noncomputable abbrev iR:Stmt:=top 62
theorem nZ:aQ ["program"] ["program"] (aJ iR):=⟨rfl,rfl,rfl,by decide +kernel,rfl,by decide +kernel,by decide +kernel⟩
theorem uJ (hF:bX K mg "not_too_long" iR ["program"]) (iB:fC K mg "MOST_ROWS" (.int 60)) (dB:Has P w K mg base 118 "how_many_rows" ["rows"] (aDS 8)):Has P w K mg base 119 "not_too_long" ["program"] jP:=by
 refine Has.mkZ hF nZ (fun ds M Q ⟨_,z,_⟩=>by rw [z];rfl) fun f cdv A outer s H ds M Q E hr h=>?_
 obtain ⟨rs,rfl,dp,l,q⟩:=h
 refine ⟨_,(aF (aX (aP iD (aG dB hr (by decide) (aA (aB 0) aD)) (bE iB)) (aE mK) aT)
  (aE (aM (aB 0)))),?_⟩
 decreasing_tactic
 refine ⟨rs,rfl,dp,?_⟩
 decreasing_tactic
 exact ifF (decide_eq_false (by omega)) (aZ q)
noncomputable def aN5:List D->Prop:=fun ds=>∃ rs,ds = [.tup (bG rs)]/\DpS 8 rs/\60 < hmS rs
theorem uB {C_TooMuch:Addr} (hF:bX K mg "not_too_long" iR ["program"]) (uF:aEh K mg "TooMuch" C_TooMuch) (iB:fC K mg "MOST_ROWS" (.int 60)) (dB:Has P w K mg base 118 "how_many_rows" ["rows"] (aDS 8)):aOK P w K mg base 119 "not_too_long" ["program"] C_TooMuch aN5:=by
 refine yN.mkZ hF uF nZ (fun ds M ⟨_,z,_⟩=>by rw [z];rfl) fun f cdv A outer s H ds M E hr h hRO=>?_
 obtain ⟨rs,rfl,dp,l⟩:=h
 refine ⟨_,(aF (aX (aP iD (aG dB hr (by decide) (aA (aB 0) aD)) (bE iB)) (aE (aEz hRO (aA aN aD))) aT)
  (aE (aM (aB 0)))),?_⟩
 decreasing_tactic
 refine ⟨rs,rfl,dp,?_⟩
 decreasing_tactic
 exact ifT (decide_eq_true (by omega)) ⟨by decide,.refl _⟩
noncomputable def gwB (s:Rat):Bool:=decide (1<=s.num/\s.num<=12) && decide ((s.den:Int)<=12)
noncomputable def vS:DSp:=fun ds M Q=>∃ s:Rat,ds = [FQ s]/\Q (.bl (gwB s)) M
noncomputable abbrev rN:Stmt:=top 25
theorem aCE:aQ ["number"] ["number"] (aJ rN):=⟨rfl,rfl,rfl,by decide +kernel,rfl,by decide +kernel,by decide +kernel⟩
theorem aA3 (hF:bX K mg "may_grow" rN ["number"]) (iG:fC K mg "MOST_IN_GROW" (.int 12)):Has P w K mg base 101 "may_grow" ["number"] vS:=by
 refine Has.mkZ hF aCE (fun ds M Q ⟨_,z,_⟩=>by rw [z];rfl) fun f cdv A outer s H ds M Q E hr h=>?_
 obtain ⟨s,rfl,q⟩:=h
 refine ⟨_,(aE (aM (eH (aAH xC xC aC (aH (aB 0) aC) (bE iG)) (eC (cS xC (aH (aB 0) aC) (bE iG)))))),?_⟩
 decreasing_tactic
 unfold gwB at q
 by_cases c1:1<=s.num
 ·refine ifT (decide_eq_true c1) ?_
  by_cases c2:s.num<=12
  ·rw [decide_eq_true ⟨c1,c2⟩,Bool.true_and] at q
   exact ifT (decide_eq_true c2) (aZ q)
  ·rw [decide_eq_false (fun z=>c2 z.2),Bool.false_and] at q
   exact ifF (decide_eq_false c2) (aZ q)
 ·rw [decide_eq_false (fun z=>c1 z.1),Bool.false_and] at q
  exact ifF (decide_eq_false c1) (ifF rfl (aZ q))
noncomputable def aMd:D->Option Bool
 | .int _=>some true
 | .ref _=>none
 | _=>some false
noncomputable def oO:DSp:=fun ds M Q=>∃ d b,ds = [d]/\aMd d = some b/\Q (.bl b) M
noncomputable abbrev rJ:Stmt:=top 21
theorem aB6:aQ ["thing"] ["thing"] (aJ rJ):=⟨rfl,rfl,rfl,by decide +kernel,rfl,by decide +kernel,by decide +kernel⟩
theorem aBo (hF:bX K mg "is_whole" rJ ["thing"]) (aY:mg "isinstance" = none) (gK:mg "int" = none) (tZ:mg "bool" = none):Has P w K mg base 101 "is_whole" ["thing"] oO:=by
 refine Has.mkZ hF aB6 (fun ds M Q ⟨_,_,z,_⟩=>by rw [z];rfl) fun f cdv A outer s H ds M Q E hr h=>?_
 obtain ⟨d,b,rfl,h,q⟩:=h
 refine ⟨_,(aE (aM (eH (fV (aB 0) aY gK) (eC (qL (fV (aB 0) aY tZ)))))),?_⟩
 decreasing_tactic
 cases d with
 | int i=>cases h;exact .inl ⟨_,_,rfl,rfl,ifT rfl (.inl ⟨_,_,rfl,rfl,aZ q⟩)⟩
 | bl b=>cases h;exact .inl ⟨_,_,rfl,rfl,ifT rfl (.inl ⟨_,_,rfl,rfl,aZ q⟩)⟩
 | ref a=>cases h
 | _=>cases h;exact .inl ⟨_,_,rfl,rfl,ifF rfl (aZ q)⟩
noncomputable def lV:DSp:=fun ds M Q=>∃ a b,ds = [.int a,.int b]/\Q (.bl (decide (1<=b) && decide (Int.gcd a b = 1))) M
noncomputable abbrev mT:Stmt:=top 22
theorem zX:aQ ["top","bottom"] ["top","bottom"] (aJ mT):=⟨rfl,rfl,rfl,by decide +kernel,rfl,by decide +kernel,by decide +kernel⟩
theorem xF (hF:bX K mg "is_reduced" mT ["top","bottom"]) (bB:Has P w K mg base 101 "greatest_divisor" ["one","other"] dS):Has P w K mg base 102 "is_reduced" ["top","bottom"] lV:=by
 refine Has.mkZ hF zX (fun ds M Q ⟨_,_,z,_⟩=>by rw [z];rfl) fun f cdv A outer s H ds M Q E hr h=>?_
 obtain ⟨a,b,rfl,q⟩:=h
 refine ⟨_,(aE (aM (eH (cS aNg (aB 1) aC) (eC (cS (bZ hr) (aG bB hr (by decide) (aA (aB 0) (aA (aB 1) aD))) aC))))),?_⟩
 decreasing_tactic
 by_cases c:1<=b
 ·rw [decide_eq_true c,Bool.true_and] at q
  refine ifT (decide_eq_true c) ⟨a,b,rfl,?_⟩
  decreasing_tactic
  rw [cK,show decide ((Int.gcd a b:Int) = 1) = decide (Int.gcd a b = 1) from decide_eq_decide.mpr ⟨fun z=>by omega,fun z=>by omega⟩]
  exact aZ q
 ·rw [decide_eq_false c,Bool.false_and] at q
  exact ifF (decide_eq_false c) (aZ q)
theorem aG7 (x:Rat):(decide (1<=(x.den:Int)) && decide (Int.gcd x.num (x.den:Int) = 1)) = true:=by
 have h1:=x.den_pos
 have h2:Int.gcd x.num (x.den:Int) = 1:=x.reduced
 rw [decide_eq_true (by omega),decide_eq_true h2];rfl
noncomputable def oR:DSp:=fun ds M Q=>∃ x:Rat,ds = [FQ x]/\Q (.bl true) M
noncomputable abbrev lI:Stmt:=top 23
theorem xJ:aQ ["thing"] ["thing"] (aJ lI):=⟨rfl,rfl,rfl,by decide +kernel,rfl,by decide +kernel,by decide +kernel⟩
theorem wE (hF:bX K mg "is_fraction" lI ["thing"]) (aY:mg "isinstance" = none) (cI:mg "tuple" = none) (eD:mg "len" = none) (hE:Has P w K mg base 101 "is_whole" ["thing"] oO) (fZ:Has P w K mg base 102 "is_reduced" ["top","bottom"] lV):Has P w K mg base 103 "is_fraction" ["thing"] oR:=by
 refine Has.mkZ hF xJ (fun ds M Q ⟨_,z,_⟩=>by rw [z];rfl) fun f cdv A outer s H ds M Q E hr h=>?_
 obtain ⟨x,rfl,q⟩:=h
 refine ⟨_,(aF (aX (fA (iY (gS (cX (fV (aB 0) aY cI))) (gX (aP (mE hr) (cD jO eD (aA (aB 0) aD)) aC)))) (aE (aM kI)) aT)
  (aE (aM (eH (aG hE hr (by decide) (aA (aH (aB 0) aC) aD)) (eH (aG hE hr (by decide) (aA (aH (aB 0) aC) aD)) (eC (aG fZ hr (by decide) (aA (aH (aB 0) aC) (aA (aH (aB 0) aC) aD))))))))),?_⟩
 rw [show FQ x = D.tup [.int x.num,.int (x.den:Int)] from rfl]
 decreasing_tactic
 refine .inl ⟨_,_,rfl,rfl,ifF rfl ?_⟩
 rw [cK]
 refine ifF rfl ⟨_,_,rfl,rfl,ifT rfl ⟨_,_,rfl,rfl,ifT rfl ⟨_,_,rfl,?_⟩⟩⟩
 rw [aG7]
 exact aZ q
noncomputable def aE8:List (Str × Int):=[("go",1),("skip",1),("side",2),("dot",0),("left",0),("right",0),("round",0),("mirror",0),("grow",1),("quarter",1),("half",1),("arc",4)]
noncomputable def aG0:List Str:=["again","keep","ever","none","end"]
noncomputable def fM:DSp:=fun ds M Q=>∃ k:Str,ds = [.str k]/\((∃ n,aE8.lookup k = some n/\Q (.int n) M) ∨ (k ∈ aG0/\Q .non M))
noncomputable abbrev jC:Stmt:=top 24
theorem tE:aQ ["word"] ["word"] (aJ jC):=⟨rfl,rfl,rfl,by decide +kernel,rfl,by decide +kernel,by decide +kernel⟩
theorem rW (hF:bX K mg "numbers_behind" jC ["word"]) (vA:aDO w K mg "NUMBERS" aE8 aG0):Has P w K mg base 101 "numbers_behind" ["word"] fM:=by
 refine Has.mkZ hF tE (fun ds M Q ⟨_,z,_⟩=>by rw [z];rfl) fun f cdv A outer s H ds M Q E hr h=>?_
 obtain ⟨k,rfl,h⟩:=h
 refine ⟨_,(aE (aM (aFD vA (aB 0)))),?_⟩
 decreasing_tactic
 rcases h with ⟨n,hn,q⟩ | ⟨hn,q⟩
 ·exact .inl ⟨n,hn,aZ q⟩
 ·exact .inr ⟨hn,aZ q⟩
noncomputable def aMI:D->Option Bool
 | .tup (.str _ :: _)=>some true
 | .int _=>some false
 | _=>none
noncomputable def nU:DSp:=fun ds M Q=>∃ d b,ds = [d]/\aMI d = some b/\Q (.bl b) M
noncomputable abbrev oW:Stmt:=top 27
theorem aBM:aQ ["thing"] ["thing"] (aJ oW):=⟨rfl,rfl,rfl,by decide +kernel,rfl,by decide +kernel,by decide +kernel⟩
theorem zN (hF:bX K mg "is_worded" oW ["thing"]) (aY:mg "isinstance" = none) (cI:mg "tuple" = none) (kT:mg "str" = none) (eD:mg "len" = none):Has P w K mg base 101 "is_worded" ["thing"] nU:=by
 refine Has.mkZ hF aBM (fun ds M Q ⟨_,_,z,_⟩=>by rw [z];rfl) fun f cdv A outer s H ds M Q E hr h=>?_
 obtain ⟨d,b,rfl,hb,q⟩:=h
 refine ⟨_,(aE (aM (eH (fV (aB 0) aY cI) (eH (cS iD (cD jO eD (aA (aB 0) aD)) aC) (eC (fV (aH (aB 0) aC) aY kT)))))),?_⟩
 match d,hb with
 | .tup (.str k :: dF),hb =>
  cases hb
  decreasing_tactic
  refine .inl ⟨_,_,rfl,rfl,ifT rfl (ifT (decide_eq_true (by show (0:Int) < ((dF.length + 1:Nat):Int);omega)) ?_)⟩
  rw [qQ]
  decreasing_tactic
  exact .inl ⟨_,_,rfl,rfl,aZ q⟩
 | .int i,hb =>
  cases hb
  decreasing_tactic
  exact .inl ⟨_,_,rfl,rfl,ifF rfl (aZ q)⟩
noncomputable def wd:Pl->Str
 | .go _=>"go" | .side _ _=>"side" | .skip _=>"skip" | .dot=>"dot" | .left=>"left" | .right=>"right" | .rnd=>"round" | .mirror=>"mirror" | .grow _=>"grow" | .quarter _=>"quarter" | .half _=>"half" | .arc _ _ _ _=>"arc"
noncomputable def nu:Pl->List Rat
 | .go a=>[a] | .side a b=>[a,b] | .skip a=>[a] | .grow a=>[a] | .quarter a=>[a] | .half a=>[a] | .arc a b c d=>[a,b,c,d] | _=>[]
theorem pU (p:Pl):plD p = .tup (.str (wd p) :: (nu p).map FQ):=by cases p<;>rfl
theorem aDr (p:Pl):aE8.lookup (wd p) = some (((nu p).length:Nat):Int):=by cases p<;>rfl
theorem aAu (p:Pl):(nu p).length<=4:=by cases p<;>exact Nat.le_of_ble_eq_true rfl
noncomputable def plV (p:Pl):Prop:=plB 100 p/\∀ a,p = .grow a->gwB a = true
noncomputable def zH:DSp:=fun ds M Q=>∃ a b c d:Rat,ds = [plD (.arc a b c d)]/\plB 100 (.arc a b c d)/\Q (.bl true) M
noncomputable abbrev uS:Stmt:=top 28
theorem zG:aQ ["row","c"] ["row"] (aJ uS):=⟨rfl,rfl,rfl,by decide +kernel,rfl,by decide +kernel,by decide +kernel⟩
theorem aCI (hF:bX K mg "is_bend" uS ["row"]) (bF:fC K mg "MIDDLE" tM) (uZ:Has P w K mg base 103 "farther" ["c","p","q"] xB):Has P w K mg base 104 "is_bend" ["row"] zH:=by
 refine Has.mkZ hF zG (fun ds M Q ⟨_,_,_,_,z,_⟩=>by rw [z];rfl) fun f cdv A outer s H ds M Q E hr h=>?_
 obtain ⟨a,b,c,d,rfl,⟨b1,b2,b3,b4,n0,n1,fe⟩,q⟩:=h
 refine ⟨_,(aF (aO (i:=1) zG.nd (aR (aA (aH (aB 0) aC) (aA (aH (aB 0) aC) aD))))
  (aE (aM (eH (cS (mE hr) (aB 1) (bE bF)) (eC (cS (bZ hr) (aG uZ hr (by decide) (aA (aB 1) (aA (bE bF) (aA (aR (aA (aH (aB 0) aC) (aA (aH (aB 0) aC) aD))) aD)))) aC)))))),?_⟩
 dsimp only [plD]
 decreasing_tactic
 refine ⟨by decide,?_⟩
 rw [show (D.tup [FQ a,FQ b]) = PQ a b from rfl,show tM = PQ 0 0 from rfl,aGb]
 refine ifT (by rw [decide_eq_false n0];rfl) ⟨by decide,a,b,0,0,c,d,100,rfl,b1,b2,bqz.mono (by decide),bqz.mono (by decide),b3,b4,by decide,?_⟩
 decreasing_tactic
 rw [cK,aEr.mpr fe]
 exact aZ q
theorem aMX {x:Rat}:decide (x.num = 0) = decide (x = 0):=by
 by_cases c:x = 0
 ·rw [decide_eq_true c,c];rfl
 ·rw [decide_eq_false c]
  exact decide_eq_false fun z=>c (Rat.num_eq_zero.mp z)
theorem aI3 {ds:List D} {M:DM} {Q:DQ}:sW [.tup ds] M Q = Q (.int (ds.length:Int)) M:=rfl
inductive Th where
 | pl (p:Pl)
 | ag (n:Nat) (ts:List Th)
 | kp (ts:List Th)
 | ev (ts:List Th)
 | bad (d:D)
mutual
noncomputable def thD:Th->D
 | .pl p=>plD p
 | .ag n ts=>.tup [.str "again",.int (n:Int),.tup (lJ ts)]
 | .kp ts=>.tup [.str "keep",.tup (lJ ts)]
 | .ev ts=>.tup [.str "ever",.tup (lJ ts)]
 | .bad d=>d
noncomputable def lJ:List Th->List D
 | []=>[]
 | t :: ts=>thD t :: lJ ts
end
theorem yC:∀ ts:List Th,lJ ts = ts.map thD
 | []=>by rw [lJ];rfl
 | t :: ts=>by rw [lJ,yC ts,List.map_cons]
mutual
noncomputable def gdR:Th->Rw
 | .pl p=>.pl p
 | .ag n ts=>.ag n (gdS ts)
 | .kp ts=>.kp (gdS ts)
 | .ev ts=>.ev (gdS ts)
 | .bad _=>.pl .dot
noncomputable def gdS:List Th->List Rw
 | []=>[]
 | t :: ts=>gdR t :: gdS ts
end
mutual
noncomputable def okT:Th->Prop
 | .pl _=>True
 | .ag _ ts=>okS ts
 | .kp ts=>okS ts
 | .ev ts=>okS ts
 | .bad _=>False
noncomputable def okS:List Th->Prop
 | []=>True
 | t :: ts=>okT t/\okS ts
end
mutual
theorem aOq:∀ t:Th,okT t->thD t = rwD (gdR t)
 | .pl p,_=>by rw [thD,gdR,rwD]
 | .ag n ts,h=>by rw [okT] at h;rw [thD,gdR,rwD,vP ts h]
 | .kp ts,h=>by rw [okT] at h;rw [thD,gdR,rwD,vP ts h]
 | .ev ts,h=>by rw [okT] at h;rw [thD,gdR,rwD,vP ts h]
 | .bad _,h=>by rw [okT] at h;exact h.elim
theorem vP:∀ ts:List Th,okS ts->lJ ts = bG (gdS ts)
 | [],_=>by rw [lJ,gdS,bG]
 | t :: ts,h=>by rw [okS] at h;rw [lJ,gdS,bG,aOq t h.1,vP ts h.2]
end
noncomputable def aOM (m:D):Prop:=(m = .int 13 ∨ m = .int (-1) ∨ m = .bl true) ∨ m = .str "2" ∨ m = .tup [.int 1,.int 1] ∨ m = .int (10 ^ 50)
noncomputable def aGT (d:D):Prop:=(d = .tup [.str "none"] ∨ d = .int 5) ∨ (∃ m x,d = .tup [.str "again",m,.tup [x]]/\aOM m) ∨ (∃ x,d = .tup [.str "again",.tup [x]]) ∨ d = .tup [.str "keep"] ∨ (∃ x,d = .tup [.str "keep",.tup [x],.int 1]) ∨ d = .tup [.str "keep",.str "rows"]
noncomputable def isP:Th->Bool
 | .pl _=>true
 | _=>false
noncomputable def isB:Th->Bool
 | .ag _ _=>true
 | .kp _=>true
 | .ev _=>true
 | _=>false
noncomputable def jQ:DSp:=fun ds M Q=>∃ r:Th,ds = [thD r]/\(∀ p,r = .pl p->plV p)/\(∀ d,r = .bad d->aGT d)/\Q (.bl (isP r)) M
noncomputable abbrev iT:Stmt:=top 26
theorem vW:aQ ["thing"] ["thing"] (aJ iT):=⟨rfl,rfl,rfl,by decide +kernel,rfl,by decide +kernel,by decide +kernel⟩
theorem vC (hF:bX K mg "is_plain_row" iT ["thing"]) (eD:mg "len" = none) (tJ:mg "all" = none) (iA:Has P w K mg base 101 "is_worded" ["thing"] nU) (cN:Has P w K mg base 101 "numbers_behind" ["word"] fM) (lO:Has P w K mg base 103 "is_fraction" ["thing"] oR) (rB:Has P w K mg base 101 "may_grow" ["number"] vS) (uA:Has P w K mg base 104 "is_bend" ["row"] zH):Has P w K mg base 105 "is_plain_row" ["thing"] jQ:=by
 refine Has.mkZ hF vW (fun ds M Q ⟨_,z,_⟩=>by rw [z];rfl) fun f cdv A outer s H ds M Q E hr h=>?_
 obtain ⟨r,rfl,pv,bv,q⟩:=h
 refine ⟨_,(gR (aX (fA (iY (gS (cX (aG iA hr (by decide) (aA (aB 0) aD)))) (gX (aP (mE hr) (aG cN hr (by decide) (aA (aH (aB 0) aC) aD)) (aL pJ (cD jO eD (aA (aB 0) aD)) aC))))) (aE (aM kI)) aT)
  (gR (aX (gS (cX (cD (aCU rfl) tJ (aA (wL (⟨rfl,by decide +kernel,by decide +kernel,by decide +kernel,rfl,by decide +kernel⟩:qP ["thing"] (aJ iT) ["number"] [none] _) rfl (iX (aB 0) (fO aC) kK) (fun _ _ _ _ _=>(aV (i:=0) (show List.Nodup (["number"]:List Str) by decide +kernel))) (fun _ _ _ _ _=>(aG lO hr (by decide) (aA (aB 0) aD)))) aD)))) (aE (aM kI)) aT)
  (aF (aX (aP (bZ hr) (aH (aB 0) aC) aN) (aE (aM (aG rB hr (by decide) (aA (aH (aB 0) aC) aD)))) aT)
  (aF (aX (fA (iY (aP (bZ hr) (aH (aB 0) aC) aN) (gX (aP (bZ hr) (aH (aB 0) aC) aN)))) (aE (aM (cS (mE hr) (aH (aH (aB 0) aC) aC) aC))) aT)
  (aE (aM (xL (cS (mE hr) (aH (aB 0) aC) aN) (eC (aG uA hr (by decide) (aA (aB 0) aD)))))))))),?_⟩
 cases r with
 | pl p =>
  obtain ⟨pb,pg⟩:=pv p rfl
  rw [show thD (.pl p) = plD p by rw [thD],pU]
  have nl:=aAu p
  decreasing_tactic
  refine ⟨fun ρ M'=>M' = M/\ρ = [some (.tup (.str (wd p) :: (nu p).map FQ))],⟨_,_,rfl,rfl,ifF rfl ?_⟩,?_⟩
  ·rw [qQ]
   decreasing_tactic
   refine ⟨_,rfl,.inl ⟨_,aDr p,?_⟩⟩
   decreasing_tactic
   rw [aI3]
   decreasing_tactic
   rw [cK]
   refine ifF (by rw [decide_eq_true (by rw [List.length_map];omega)];rfl) ⟨rfl,rfl⟩
  rintro ρ M' ⟨rfl,rfl⟩
  decreasing_tactic
  refine ⟨fun ρ M2=>aW M' M2/\ρ = [some (.tup (.str (wd p) :: (nu p).map FQ))],?_,?_⟩
  ·rw [yA]
   refine ⟨by rw [List.length_map];omega,fun i ys M2=>M2 = M'/\ys = (List.replicate i (D.bl true)),⟨rfl,rfl⟩,fun i ys M2 _ _ a e=>(by cases e),?_,?_⟩
   ·rintro i d ys M2 hd ⟨rfl,rfl⟩
    obtain ⟨x,_,rfl⟩:=List.mem_map.mp (List.mem_of_getElem? hd)
    decreasing_tactic
    exact ⟨x,rfl,rfl,by rw [List.replicate_succ']⟩
   rintro ys M2 _ ⟨rfl,rfl⟩ pl hpl
   decreasing_tactic
   refine ⟨List.replicate ((nu p).map FQ).length true,by rw [aI,List.map_replicate],?_⟩
   rw [show (List.replicate ((nu p).map FQ).length true).all id = true by simp]
   exact ifF rfl ⟨aW.new hpl _,rfl⟩
  rintro ρ M2 ⟨sb,rfl⟩
  rw [<- pU]
  cases p with
  | grow a =>
   dsimp only [plD]
   decreasing_tactic
   rw [aK]
   refine ifT (by decide) ⟨a,rfl,?_⟩
   rw [pg a rfl]
   exact ⟨M',sb,q⟩
  | quarter a =>
   dsimp only [plD]
   decreasing_tactic
   rw [aK]
   refine ifF (by decide) ?_
   rw [aK]
   refine ifT (by decide) ?_
   rw [cK,aMX,decide_eq_false pb.2]
   exact ⟨M',sb,q⟩
  | half a =>
   dsimp only [plD]
   decreasing_tactic
   rw [aK]
   refine ifF (by decide) ?_
   rw [aK]
   refine ifF (by decide) ?_
   rw [aK]
   refine ifT (by decide) ?_
   rw [cK,aMX,decide_eq_false pb.2]
   exact ⟨M',sb,q⟩
  | arc a b c d =>
   dsimp only [plD]
   decreasing_tactic
   rw [aK]
   refine ifF (by decide) ?_
   rw [aK]
   refine ifF (by decide) ?_
   rw [aK]
   refine ifF (by decide) ?_
   rw [aK]
   exact ifF (by decide) ⟨a,b,c,d,rfl,pb,M',sb,q⟩
  | _ =>
   dsimp only [plD]
   decreasing_tactic
   rw [aK]
   refine ifF (by decide) ?_
   rw [aK]
   refine ifF (by decide) ?_
   rw [aK]
   refine ifF (by decide) ?_
   rw [aK]
   exact ifT (by decide) ⟨M',sb,q⟩
 | ag n ws =>
  dsimp only [thD]
  decreasing_tactic
  refine ⟨fun _ _=>False,⟨_,_,rfl,rfl,ifF rfl ⟨_,rfl,.inr ⟨by decide,?_⟩⟩⟩,fun _ _ z=>z.elim⟩
  decreasing_tactic
  exact ⟨rfl,rfl,ifT rfl (aZ q)⟩
 | kp ws =>
  dsimp only [thD]
  decreasing_tactic
  refine ⟨fun _ _=>False,⟨_,_,rfl,rfl,ifF rfl ⟨_,rfl,.inr ⟨by decide,?_⟩⟩⟩,fun _ _ z=>z.elim⟩
  decreasing_tactic
  exact ⟨rfl,rfl,ifT rfl (aZ q)⟩
 | ev ws =>
  dsimp only [thD]
  decreasing_tactic
  refine ⟨fun _ _=>False,⟨_,_,rfl,rfl,ifF rfl ⟨_,rfl,.inr ⟨by decide,?_⟩⟩⟩,fun _ _ z=>z.elim⟩
  decreasing_tactic
  exact ⟨rfl,rfl,ifT rfl (aZ q)⟩
 | bad d =>
  rcases bv d rfl with (rfl | rfl) | ⟨m,x,rfl,_⟩ | ⟨x,rfl⟩ | rfl | ⟨x,rfl⟩ | rfl
  case inl.inr =>
   dsimp only [thD]
   decreasing_tactic
   exact ⟨fun _ _=>False,⟨_,_,rfl,rfl,ifT rfl (aZ q)⟩,fun _ _ z=>z.elim⟩
  all_goals
   dsimp only [thD]
   decreasing_tactic
   refine ⟨fun _ _=>False,⟨_,_,rfl,rfl,ifF rfl ⟨_,rfl,.inr ⟨by decide,?_⟩⟩⟩,fun _ _ z=>z.elim⟩
   decreasing_tactic
   exact ⟨rfl,rfl,ifT rfl (aZ q)⟩
noncomputable def qF:DSp:=fun ds M Q=>∃ r:Th,ds = [thD r]/\isP r = false/\(∀ n ts,r = .ag n ts->n<=12)/\(∀ d,r = .bad d->aGT d)/\Q (.bl (isB r)) M
noncomputable abbrev rH:Stmt:=top 29
theorem aCd:aQ ["thing"] ["thing"] (aJ rH):=⟨rfl,rfl,rfl,by decide +kernel,rfl,by decide +kernel,by decide +kernel⟩
theorem aA9 (hF:bX K mg "is_block" rH ["thing"]) (aY:mg "isinstance" = none) (cI:mg "tuple" = none) (eD:mg "len" = none) (nO:fC K mg "MOST_AGAIN" (.int 12)) (iA:Has P w K mg base 101 "is_worded" ["thing"] nU) (hE:Has P w K mg base 101 "is_whole" ["thing"] oO):Has P w K mg base 102 "is_block" ["thing"] qF:=by
 refine Has.mkZ hF aCd (fun ds M Q ⟨_,z,_⟩=>by rw [z];rfl) fun f cdv A outer s H ds M Q E hr h=>?_
 obtain ⟨r,rfl,hb,hn,bv,q⟩:=h
 refine ⟨_,(aF (aX (fA (iY (gS (cX (aG iA hr (by decide) (aA (aB 0) aD)))) (gX (gS (cX (fV (aH (aB 0) (eL aC)) aY cI)))))) (aE (aM kI)) aT)
  (aF (aX (aP (bZ hr) (aH (aB 0) aC) aN) (aE (aM (eH (cS (bZ hr) (cD jO eD (aA (aB 0) aD)) aC) (eH (aG hE hr (by decide) (aA (aH (aB 0) aC) aD)) (eC (aAH xC xC aC (aH (aB 0) aC) (bE nO))))))) aT)
  (aE (aM (eH (cS (bZ hr) (cD jO eD (aA (aB 0) aD)) aC) (eC (xL (cS (bZ hr) (aH (aB 0) aC) aN) (eC (cS (bZ hr) (aH (aB 0) aC) aN))))))))),?_⟩
 cases r with
 | pl p=>cases hb
 | ag n ws =>
  have:=hn n ws rfl
  dsimp only [thD]
  decreasing_tactic
  refine ⟨_,_,rfl,rfl,ifF rfl (.inl ⟨_,_,rfl,rfl,ifF rfl ?_⟩)⟩
  rw [aK]
  refine ifT (by decide) ?_
  rw [cK]
  refine ifT (by decide) ⟨_,_,rfl,rfl,ifT rfl (ifT (decide_eq_true (by omega)) ?_)⟩
  rw [decide_eq_true (by omega)]
  exact aZ q
 | kp ws =>
  dsimp only [thD]
  decreasing_tactic
  refine ⟨_,_,rfl,rfl,ifF rfl (.inl ⟨_,_,rfl,rfl,ifF rfl ?_⟩)⟩
  rw [aK]
  refine ifF (by decide) ?_
  rw [cK]
  refine ifT (by decide) ?_
  rw [aK]
  exact ifT (by decide) (aZ q)
 | ev ws =>
  dsimp only [thD]
  decreasing_tactic
  refine ⟨_,_,rfl,rfl,ifF rfl (.inl ⟨_,_,rfl,rfl,ifF rfl ?_⟩)⟩
  rw [aK]
  refine ifF (by decide) ?_
  rw [cK]
  refine ifT (by decide) ?_
  rw [aK]
  refine ifF (by decide) ?_
  rw [aK]
  exact aZ q
 | bad d =>
  rcases bv d rfl with (rfl | rfl) | ⟨m,x,rfl,hm⟩ | ⟨x,rfl⟩ | rfl | ⟨x,rfl⟩ | rfl
  ·dsimp only [thD]
   decreasing_tactic
   exact ⟨_,_,rfl,rfl,ifF rfl (.inl ⟨_,_,rfl,rfl,ifT rfl (aZ q)⟩)⟩
  ·dsimp only [thD]
   decreasing_tactic
   exact ⟨_,_,rfl,rfl,ifT rfl (aZ q)⟩
  ·dsimp only [thD]
   decreasing_tactic
   refine ⟨_,_,rfl,rfl,ifF rfl (.inl ⟨_,_,rfl,rfl,ifF rfl ?_⟩)⟩
   rw [aK]
   refine ifT (by decide) ?_
   rw [cK]
   refine ifT (by decide) ?_
   rcases hm with (rfl | rfl | rfl) | rfl | rfl | rfl
   ·exact ⟨_,_,rfl,rfl,ifT rfl (ifT (by decide) (aZ q))⟩
   ·exact ⟨_,_,rfl,rfl,ifT rfl (ifF (by decide) (aZ q))⟩
   ·exact ⟨_,_,rfl,rfl,ifF rfl (aZ q)⟩
   ·exact ⟨_,_,rfl,rfl,ifF rfl (aZ q)⟩
   ·exact ⟨_,_,rfl,rfl,ifF rfl (aZ q)⟩
   ·exact ⟨_,_,rfl,rfl,ifT rfl (ifT (by decide) (aZ q))⟩
  ·dsimp only [thD]
   decreasing_tactic
   refine ⟨_,_,rfl,rfl,ifF rfl (.inl ⟨_,_,rfl,rfl,ifF rfl ?_⟩)⟩
   rw [aK]
   refine ifT (by decide) ?_
   rw [cK]
   exact ifF (by decide) (aZ q)
  all_goals
   dsimp only [thD]
   decreasing_tactic
   exact ⟨_,_,rfl,rfl,ifF rfl (.inl ⟨_,_,rfl,rfl,ifT rfl (aZ q)⟩)⟩
noncomputable def isE:Th->Bool
 | .ev _=>true
 | _=>false
noncomputable def mD (r:Th) (ar:List Str):Bool:=decide (ar.length < 4) && !(isE r && ar.any (· == "ever"))
noncomputable def pB:DSp:=fun ds M Q=>∃ (r:Th) (ar:List Str),ds = [thD r,.tup (ar.map D.str)]/\isB r = true/\Q (.bl (mD r ar)) M
noncomputable abbrev rD:Stmt:=top 64
theorem aCz:aQ ["block","around"] ["block","around"] (aJ rD):=⟨rfl,rfl,rfl,by decide +kernel,rfl,by decide +kernel,by decide +kernel⟩
theorem aBO (hF:bX K mg "has_room" rD ["block","around"]) (eD:mg "len" = none) (lW:fC K mg "MOST_BLOCKS" (.int 4)):Has P w K mg base 101 "has_room" ["block","around"] pB:=by
 refine Has.mkZ hF aCz (fun ds M Q ⟨_,_,z,_⟩=>by rw [z];rfl) fun f cdv A outer s H ds M Q E hr h=>?_
 obtain ⟨r,ar,rfl,hb,q⟩:=h
 refine ⟨_,(aE (aM (eH (cS yG (cD jO eD (aA (aB 1) aD)) (bE lW)) (eC (qL (eH (cS (bZ hr) (aH (aB 0) aC) aN) (eC (cS aLS aN (aB 1) rfl)))))))),?_⟩
 unfold mD at q
 decreasing_tactic
 rw [aI3]
 decreasing_tactic
 rw [List.length_map]
 by_cases c:ar.length < 4
 ·rw [decide_eq_true c,Bool.true_and] at q
  refine ifT (decide_eq_true (by omega)) ?_
  cases r with
  | pl p=>cases hb
  | ag n ws =>
   dsimp only [thD]
   decreasing_tactic
   rw [aK]
   exact ifF (by decide) (aZ q)
  | kp ws =>
   dsimp only [thD]
   decreasing_tactic
   rw [aK]
   exact ifF (by decide) (aZ q)
  | ev ws =>
   dsimp only [thD]
   decreasing_tactic
   rw [aK]
   exact ifT (by decide) ⟨ar,rfl,aZ q⟩
  | bad d=>cases hb
 ·rw [decide_eq_false c,Bool.false_and] at q
  exact ifF (decide_eq_false (by omega)) (aZ q)
noncomputable def inT:Th->Option (List Th)
 | .ag _ ts=>some ts
 | .kp ts=>some ts
 | .ev ts=>some ts
 | _=>none
noncomputable def rL:DSp:=fun ds M Q=>∃ (r:Th) (ts:List Th),ds = [thD r]/\inT r = some ts/\Q (.tup (lJ ts)) M
theorem wF (hF:bX K mg "rows_within" jF ["row"]):Has P w K mg base 101 "rows_within" ["row"] rL:=by
 refine Has.mkZ hF pL (fun ds M Q ⟨_,a,z,_⟩=>by rw [z];rfl) fun f cdv A outer s H ds M Q E hr h=>?_
 obtain ⟨r,ts,rfl,hb,q⟩:=h
 have q':=aZ q
 refine ⟨_,(aF (aX (aP (bZ hr) (aH (aB 0) aC) aN) (aE (aM (aH (aB 0) aC))) aT)
  (aE (aM (eJ (fA (iY (aP (bZ hr) (aH (aB 0) aC) aN) (gX (aP (bZ hr) (aH (aB 0) aC) aN)))) (aH (aB 0) aC) cZ)))),?_⟩
 cases r with
 | pl p=>cases hb
 | bad d=>cases hb
 | ag n ts' =>
  cases hb
  dsimp only [thD]
  decreasing_tactic
  rw [aK]
  exact ifT (by decide) q'
 | kp ts' =>
  cases hb
  dsimp only [thD]
  decreasing_tactic
  rw [aK]
  refine ifF (by decide) ?_
  rw [aK]
  exact ifT (by decide) q'
 | ev ts' =>
  cases hb
  dsimp only [thD]
  decreasing_tactic
  rw [aK]
  refine ifF (by decide) ?_
  rw [aK]
  refine ifF (by decide) ?_
  rw [aK]
  exact ifT (by decide) q'
theorem aLw {p:Pl} (h:plB 100 p):plB 900 p:=by
 have m:∀ {x:Rat},BQ 100 x->BQ 900 x:=fun h=>h.mono (by decide)
 cases p with
 | go a=>exact m h
 | side a b=>exact ⟨m h.1,m h.2⟩
 | skip a=>exact m h
 | grow a=>exact ⟨m h.1,h.2⟩
 | quarter a=>exact ⟨m h.1,h.2⟩
 | half a=>exact ⟨m h.1,h.2⟩
 | arc a b c d=>exact ⟨m h.1,m h.2.1,m h.2.2.1,m h.2.2.2.1,h.2.2.2.2⟩
 | _=>trivial
mutual
noncomputable def vaR:Rw->Prop
 | .pl p=>plV p
 | .ag n rs=>n<=12/\vaS rs
 | .kp rs=>vaS rs
 | .ev rs=>vaS rs
noncomputable def vaS:List Rw->Prop
 | []=>True
 | r :: rs=>vaR r/\vaS rs
end
theorem aD0:∀ {rs:List Rw} {r:Rw},vaS rs->r ∈ rs->vaR r
 | x :: xs,r,h,m=>by
  rw [vaS] at h
  rcases List.mem_cons.mp m with rfl | z
  ·exact h.1
  ·exact aD0 h.2 z
theorem aEa:∀ {rs:List Rw} {r:Rw},r ∈ rs->drR r = true->drS rs = true
 | x :: xs,r,m,h=>by
  rw [drS]
  rcases List.mem_cons.mp m with rfl | z
  ·rw [h,Bool.true_or]
  ·rw [aEa z h,Bool.or_true]
theorem aCy:∀ {rs:List Rw},(∀ r ∈ rs,drR r = false)->drS rs = false
 | [],_=>by rw [drS]
 | x :: xs,h=>by rw [drS,h x (List.mem_cons_self ..),aCy fun r hr=>h r (List.mem_cons_of_mem _ hr)];rfl
noncomputable def yQ (d:Nat):DSp:=fun ds M Q=>∃ rs,ds = [.tup (bG rs)]/\DpS d rs/\vaS rs/\Q (.bl (drS rs)) M
noncomputable abbrev aBs:Stmt:=top 52
theorem sX:aQ ["rows","row","within"] ["rows"] (aJ aBs):=⟨rfl,rfl,rfl,by decide +kernel,rfl,by decide +kernel,by decide +kernel⟩
theorem aEY (hF:bX K mg "draws" aBs ["rows"]) (bO:Has P w K mg base 101 "rows_within" ["row"] fX) (tW:Has P w K mg base 104 "deed_of" ["row"] yD):Has P w K mg base 118 "draws" ["rows"] (yQ 8):=by
 have all:∀ d,Has P w K mg base (110 + d) "draws" ["rows"] (yQ d):=fun d=>by
  induction d with
  | zero=>exact (Has.never hF sX 109).imp fun ds M Q ⟨rs,_,z,_⟩=>z
  | succ d sV =>
   refine Has.mkZ (k:=110 + d) hF sX (fun ds M Q ⟨a,z,_⟩=>by rw [z];rfl) fun f cdv A outer s H ds M Q E hr h=>?_
   obtain ⟨rs,rfl,dp,va,q⟩:=h
   refine ⟨_,(aF (iN PassesOwn.never rfl (aB 0) (aV (i:=1) sX.nd) (aF (aO (i:=2) sX.nd (aG bO hr (by omega) (aA (aB 1) aD)))
  (aE (aX (aP wW (aB 2) cZ) (aE (aX (aP aCp (aH (aG tW hr (by omega) (aA (aB 1) aD)) aC) cZ) (aE (aM kI)) aT)) (aE (aX (fA (fF (cX (aG sV hr (by omega) (aA (aB 2) aD))) (eN (fA (iY (aP (mE hr) (aH (aB 1) aC) aN) (gX (aP iD (aH (aB 1) aC) aC))))))) (aE (aM kI)) aT))))))
  (aE (aM kI))),?_⟩
   decreasing_tactic
   refine ⟨fun i ρ M'=>M' = M/\(∀ r ∈ rs.take i,drR r = false)/\∃ o1 o2,ρ = [some (.tup (bG rs)),o1,o2],⟨rfl,(by rw [List.take_zero];intro r hr;cases hr),_,_,rfl⟩,fun i ρ M' _ _ a e=>(by cases e),?_,?_⟩
   ·rintro i d1 ρ M' hd ⟨rfl,no,o1,o2,rfl⟩
    obtain ⟨r,hr',rfl⟩:=fP hd
    have mr:=List.mem_of_getElem? hr'
    have dr:=dp.2 r mr
    have vr:=aD0 va mr
    decreasing_tactic
    refine ⟨r,rfl,?_⟩
    have next:drR r = false->∀ x ∈ rs.take (i + 1),drR x = false:=fun h x hx=>by
     rw [eM hr'] at hx
     rcases List.mem_append.mp hx with z | z
     ·exact no x z
     ·rw [List.mem_singleton.mp z];exact h
    have yes:drR r = true->Dn Q (.bl true) M':=fun h=>by rw [aEa mr h] at q;exact aZ q
    cases r with
    | pl p =>
     rw [vaR] at vr
     rw [drR] at next yes
     dsimp only [inR]
     decreasing_tactic
     refine ifT rfl ⟨p,by rw [rwD],trivial,aLw vr.1,?_⟩
     cases hl:aBw p with
     | none =>
      rw [hl] at next
      dsimp only [lgO]
      decreasing_tactic
      exact ifF rfl ⟨rfl,next rfl,_,_,rfl⟩
     | some l =>
      rw [hl] at yes
      dsimp only [lgO]
      decreasing_tactic
      have z:∀ l,∃ ds,lgD l = .tup ds:=fun l=>by cases l<;>exact ⟨_,rfl⟩
      obtain ⟨ds,e⟩:=z l
      rw [e]
      decreasing_tactic
      exact ifT rfl (yes rfl)
    | ag n ws =>
     obtain ⟨hn,dw⟩:=kN dr
     rw [vaR] at vr
     rw [drR] at next yes
     dsimp only [inR]
     decreasing_tactic
     refine ifF rfl ⟨ws,rfl,dw,vr.2,?_⟩
     dsimp only [rwD]
     decreasing_tactic
     cases hd:drS ws with
     | false =>
      rw [hd,Bool.and_false] at next
      exact ifF rfl ⟨rfl,next rfl,_,_,rfl⟩
     | true =>
      rw [hd,Bool.and_true] at next yes
      refine ifT rfl ?_
      rw [aK]
      refine ifF (by decide) ?_
      by_cases c:n = 0
      ·rw [c] at next
       exact ifF (decide_eq_false (by omega)) ⟨rfl,next rfl,_,_,rfl⟩
      ·exact ifT (decide_eq_true (by omega)) (yes (by simp [c]))
    | kp ws =>
     have dw:=oE dr
     rw [vaR] at vr
     rw [drR] at next yes
     dsimp only [inR]
     decreasing_tactic
     refine ifF rfl ⟨ws,rfl,dw,vr,?_⟩
     dsimp only [rwD]
     decreasing_tactic
     cases hd:drS ws with
     | false=>exact ifF rfl ⟨rfl,next hd,_,_,rfl⟩
     | true =>
      refine ifT rfl ?_
      rw [aK]
      exact ifT (by decide) (yes hd)
    | ev ws =>
     have dw:=mJ dr
     rw [vaR] at vr
     rw [drR] at next yes
     dsimp only [inR]
     decreasing_tactic
     refine ifF rfl ⟨ws,rfl,dw,vr,?_⟩
     dsimp only [rwD]
     decreasing_tactic
     cases hd:drS ws with
     | false=>exact ifF rfl ⟨rfl,next hd,_,_,rfl⟩
     | true =>
      refine ifT rfl ?_
      rw [aK]
      exact ifT (by decide) (yes hd)
   ·rintro ρ M' ⟨rfl,no,o1,o2,rfl⟩
    rw [cL,List.take_length] at no
    rw [aCy no] at q
    exact aZ q
 exact all 8
theorem aNc {p s k A:Nat} (p1:1<=p) (s1:1<=s) (k0:0 < k) (e:p * s ^ k = A):p<=A/\s<=A:=by
 have h1:1<=s ^ k:=Nat.pow_pos s1
 have h2:s<=s ^ k:=by
  cases k with
  | zero=>omega
  | succ k =>
   have:1<=s ^ k:=Nat.pow_pos s1
   rw [Nat.pow_succ]
   exact Nat.le_mul_of_pos_left _ this
 rw [<- e]
 exact ⟨Nat.le_mul_of_pos_right _ h1,Nat.le_trans h2 (Nat.le_mul_of_pos_left _ p1)⟩
noncomputable def oC:DSp:=fun ds M Q=>∃ a n:Nat,ds = [.int (a:Int),.int (n:Int)]/\1<=a/\Bd 100000 ((a ^ n:Nat):Int)/\Q (.int ((a ^ n:Nat):Int)) M
noncomputable abbrev kH:Stmt:=top 54
theorem dR:aQ ["number","n","product","square","left"] ["number","n"] (aJ kH):=⟨rfl,rfl,rfl,by decide +kernel,rfl,by decide +kernel,by decide +kernel⟩
theorem uC (hF:bX K mg "raised_whole" kH ["number","n"]):Has P w K mg base 101 "raised_whole" ["number","n"] oC:=by
 refine Has.mkZ hF dR (fun ds M Q ⟨_,_,z,_⟩=>by rw [z];rfl) fun f cdv A outer s H ds M Q E hr h=>?_
 obtain ⟨a,n,rfl,a1,bd,q⟩:=h
 refine ⟨_,(aF (aO (i:=2) dR.nd aC)
  (aF (aO (i:=3) dR.nd (aB 0))
  (aF (aO (i:=4) dR.nd (aB 1))
  (aF (kF PassesOwn.never (aP iD (aB 4) aC) (aF (aX (aP (bZ hr) (aL dU (aB 4) aC) aC) (aE (aO (i:=2) dR.nd (aL bL (aB 2) (aB 3)))) aT)
  (aF (aO (i:=4) dR.nd (aL dH (aB 4) aC))
  (aE (aX (aP iD (aB 4) aC) (aE (aO (i:=3) dR.nd (aL bL (aB 3) (aB 3)))) aT)))))
  (aE (aM (aB 2))))))),?_⟩
 decreasing_tactic
 generalize eA:a ^ n = A at bd q
 refine kE (fun m ρ M'=>M' = M/\∃ p s:Nat,(1<=p/\1<=s)/\p * s ^ m = A/\ρ = [some (.int (a:Int)),some (.int (n:Int)),some (.int (p:Int)),some (.int (s:Int)),some (.int (m:Int))]) n ⟨rfl,1,a,⟨by decide,a1⟩,by rw [Nat.one_mul];exact eA,rfl⟩ ?_
 rintro m ρ M' ⟨rfl,p,s,⟨p1,s1⟩,e,rfl⟩
 decreasing_tactic
 by_cases c:0 < m
 ·refine ifT (decide_eq_true (by omega)) ?_
  obtain ⟨lp,ls⟩:=aNc p1 s1 c e
  have bp:Bd 100000 (p:Int):=Nat.lt_of_le_of_lt lp bd
  have bs:Bd 100000 (s:Int):=Nat.lt_of_le_of_lt ls bd
  have em:(m:Int).fmod 2 = ((m % 2:Nat):Int):=by rw [Int.fmod_eq_emod_of_nonneg _ (by decide)];rfl
  have ed:(m:Int).fdiv 2 = ((m / 2:Nat):Int):=by rw [Int.fdiv_eq_ediv_of_nonneg _ (by decide)];rfl
  have cfd:CFd (m:Int) 2:=⟨by decide,by decide⟩
  have ev:∀ p':Nat,p' * s ^ (2 * (m / 2)) = A->p' * (s * s) ^ (m / 2) = A:=fun p' h=>by
   rw [<- Nat.pow_two,<- Nat.pow_mul];exact h
  have ss:1<=s * s:=Nat.mul_pos s1 s1
  rw [em,ed,cK]
  by_cases od:m % 2 = 1
  ·have e1:p * s * s ^ (2 * (m / 2)) = A:=by
    rw [Nat.mul_assoc,<- Nat.pow_succ',show (2 * (m / 2)).succ = m by omega];exact e
   refine ⟨by decide,ifT (decide_eq_true (by omega)) ⟨dA bp bs,cfd,?_⟩⟩
   by_cases c2:0 < m / 2
   ·exact ifT (decide_eq_true (by omega)) ⟨dA bs bs,m / 2,by omega,rfl,p * s,s * s,⟨Nat.mul_pos p1 s1,ss⟩,ev _ e1,by rw [Int.natCast_mul,Int.natCast_mul]⟩
   ·have z:m / 2 = 0:=by omega
    rw [z] at e1
    exact ifF (decide_eq_false (by omega)) ⟨m / 2,by omega,rfl,p * s,s,⟨Nat.mul_pos p1 s1,s1⟩,by rw [z];exact e1,by rw [Int.natCast_mul]⟩
  ·have e1:p * s ^ (2 * (m / 2)) = A:=by rw [show 2 * (m / 2) = m by omega];exact e
   have c2:0 < m / 2:=by omega
   exact ⟨by decide,ifF (decide_eq_false (by omega)) ⟨cfd,ifT (decide_eq_true (by omega)) ⟨dA bs bs,m / 2,by omega,rfl,p,s * s,⟨p1,ss⟩,ev _ e1,by rw [Int.natCast_mul]⟩⟩⟩
 ·refine ifF (decide_eq_false (by omega)) ?_
  obtain rfl:m = 0:=by omega
  rw [Nat.pow_zero,Nat.mul_one] at e
  rw [e]
  exact aZ q
theorem aHV (x:Rat) (n:Nat):(x ^ n).num = x.num ^ n/\(x ^ n).den = x.den ^ n:=⟨Rat.num_pow x n,Rat.den_pow x n⟩
noncomputable def aAx:DSp:=fun ds M Q=>∃ (x:Rat) (n:Nat),ds = [FQ x,.int (n:Int)]/\0 < x/\BQ 100000 (x ^ n)/\Q (FQ (x ^ n)) M
noncomputable abbrev wQ:Stmt:=top 55
theorem aEe:aQ ["number","n"] ["number","n"] (aJ wQ):=⟨rfl,rfl,rfl,by decide +kernel,rfl,by decide +kernel,by decide +kernel⟩
theorem aCT (hF:bX K mg "raised" wQ ["number","n"]) (eU:Has P w K mg base 101 "raised_whole" ["number","n"] oC):Has P w K mg base 102 "raised" ["number","n"] aAx:=by
 refine Has.mkZ hF aEe (fun ds M Q ⟨_,_,z,_⟩=>by rw [z];rfl) fun f cdv A outer s H ds M Q E hr h=>?_
 obtain ⟨x,n,rfl,x0,⟨b1,b2⟩,q⟩:=h
 refine ⟨_,(aF (aX (aP yG (aB 1) aC) (aE (aM (aR (aA (aG eU hr (by decide) (aA (aH (aB 0) aC) (aA (eL (aB 1)) aD))) (aA (aG eU hr (by decide) (aA (aH (aB 0) aC) (aA (eL (aB 1)) aD))) aD))))) aT)
  (aE (aM (aR (aA (aG eU hr (by decide) (aA (aH (aB 0) aC) (aA (aB 1) aD))) (aA (aG eU hr (by decide) (aA (aH (aB 0) aC) (aA (aB 1) aD))) aD)))))),?_⟩
 obtain ⟨e1,e2⟩:=aHV x n
 have xn:0 < x.num:=aIX.mpr x0
 have xd:=x.den_pos
 have k1:((x.num.toNat:Nat):Int) = x.num:=Int.toNat_of_nonneg (by omega)
 have k2:((x.num.toNat ^ n:Nat):Int) = (x ^ n).num:=by rw [e1,Int.natCast_pow,k1]
 have k3:((x.den ^ n:Nat):Int) = ((x ^ n).den:Int):=by rw [e2]
 rw [show FQ x = D.tup [.int ((x.num.toNat:Nat):Int),.int ((x.den:Nat):Int)] by rw [k1];rfl]
 decreasing_tactic
 refine ifF (decide_eq_false (by omega)) ⟨x.num.toNat,n,rfl,by omega,by rw [k2];exact b1,?_⟩
 decreasing_tactic
 refine ⟨x.den,n,rfl,by omega,by rw [k3];exact b2,?_⟩
 decreasing_tactic
 rw [k2,k3]
 exact ⟨by decide,aZ q⟩
noncomputable def nB (d:Nat):DSp:=fun ds M Q=>∃ rs,ds = [.tup (bG rs)]/\DpS d rs/\loS rs/\Q (FQ (szS rs)) M
noncomputable abbrev pV:Stmt:=top 66
theorem gJ:aQ ["rows","size","row"] ["rows"] (aJ pV):=⟨rfl,rfl,rfl,by decide +kernel,rfl,by decide +kernel,by decide +kernel⟩
theorem zL (hF:bX K mg "move_size" pV ["rows"]) (kR:fC K mg "ONE" aDf) (w_times:Has P w K mg base 102 "times" ["one","other"] lY) (yL:Has P w K mg base 102 "raised" ["number","n"] aAx):Has P w K mg base 118 "move_size" ["rows"] (nB 8):=by
 have h_times:=w_times
 have all:∀ d,Has P w K mg base (110 + d) "move_size" ["rows"] (nB d):=fun d=>by
  induction d with
  | zero=>exact (Has.never hF gJ 109).imp fun ds M Q ⟨rs,_,z,_⟩=>z
  | succ d jI =>
   refine Has.mkZ (k:=110 + d) hF gJ (fun ds M Q ⟨a,z,_⟩=>by rw [z];rfl) fun f cdv A outer s H ds M Q E hr h=>?_
   obtain ⟨rs,rfl,dp,⟨gw,dn,one⟩,q⟩:=h
   refine ⟨_,(aF (aO (i:=1) gJ.nd (bE kR))
  (aF (iN PassesOwn.never rfl (aB 0) (aV (i:=2) gJ.nd) (aE (aX (aP (bZ hr) (aH (aB 2) aC) aN) (aE (aO (i:=1) gJ.nd (aG h_times hr (by omega) (aA (aB 1) (aA (aH (aB 2) aC) aD))))) (aE (aX (aP (bZ hr) (aH (aB 2) aC) aN) (aE (aO (i:=1) gJ.nd (aG h_times hr (by omega) (aA (aB 1) (aA (aG yL hr (by omega) (aA (aG jI hr (by omega) (aA (aH (aB 2) aC) aD)) (aA (aH (aB 2) aC) aD))) aD))))) aT)))))
  (aE (aM (aB 1))))),?_⟩
   decreasing_tactic
   refine ⟨fun i ρ M'=>M' = M/\∃ o1,ρ = [some (.tup (bG rs)),some (FQ (szS (rs.take i))),o1],⟨rfl,_,rfl⟩,fun i ρ M' _ _ a e=>(by cases e),?_,?_⟩
   ·rintro i d1 ρ M1 hd ⟨rfl,o1,rfl⟩
    obtain ⟨r,hr',rfl⟩:=fP hd
    have dr:=dp.2 r (List.mem_of_getElem? hr')
    have gr:=aCP gw (List.mem_of_getElem? hr')
    have on:=one r (List.mem_of_getElem? hr')
    have gt:wS (rs.take i):=(aC3.mp (by rw [List.take_append_drop];exact gw)).1
    have zt:=yT _ gt
    have zr:=aFH r gr
    have fin:szS (rs.take (i + 1)) = szS (rs.take i) * szR r:=by rw [eM hr',wJ,szS,szS,Rat.mul_one]
    have fdn:dnS (rs.take (i + 1)) = dnS (rs.take i) + dnR r:=by rw [eM hr',gA,dnS,dnS,Nat.add_zero]
    have ldn:dnS (rs.take (i + 1))<=dnS rs:=by
     have:=gA (rs.take (i + 1)) (rs.drop (i + 1))
     rw [List.take_append_drop] at this
     omega
    decreasing_tactic
    rw [fin]
    cases r with
    | pl p =>
     rcases aBi p with ⟨a,rfl⟩ | ⟨w0,dF,e,w1,w2,e1⟩
     ·dsimp only [rwD,plD]
      rw [dnR,szR] at zr
      rw [szR]
      rw [dnR] at fdn
      decreasing_tactic
      rw [aK]
      exact ifT (by decide) (aIM zt zr (.inr (by decide)) (by omega) ⟨rfl,_,rfl⟩)
     ·dsimp only [rwD]
      rw [e,e1,Rat.mul_one]
      decreasing_tactic
      rw [qQ]
      decreasing_tactic
      rw [aK]
      refine ifF (decide_eq_false w1) ?_
      rw [aK]
      exact ifF (decide_eq_false w2) ⟨rfl,_,rfl⟩
    | ag n ws =>
     obtain ⟨hn,dw⟩:=kN dr
     have lo:=aFT gr
     rw [wR] at gr
     have zw:=yT _ gr.1
     rw [dnR] at fdn zr on
     rw [szR] at zr ⊢
     dsimp only [rwD]
     decreasing_tactic
     rw [aK]
     refine ifF (by decide) ?_
     rw [aK]
     refine ifT (by decide) ⟨ws,rfl,dw,lo,?_⟩
     decreasing_tactic
     refine ⟨_,n,rfl,zw.pos',zr.bq.mono (by omega),?_⟩
     decreasing_tactic
     exact aIM zt zr (by omega) (by omega) ⟨rfl,_,rfl⟩
    | kp ws =>
     rw [szR,Rat.mul_one]
     dsimp only [rwD]
     decreasing_tactic
     rw [aK]
     refine ifF (by decide) ?_
     rw [aK]
     exact ifF (by decide) ⟨rfl,_,rfl⟩
    | ev ws =>
     rw [szR,Rat.mul_one]
     dsimp only [rwD]
     decreasing_tactic
     rw [aK]
     refine ifF (by decide) ?_
     rw [aK]
     exact ifF (by decide) ⟨rfl,_,rfl⟩
   ·rintro ρ M' ⟨rfl,o1,rfl⟩
    rw [cL,List.take_length]
    exact aZ q
 exact all 8
noncomputable def q34:D:=.tup [.int 3,.int 4]
theorem aLb:q34 = FQ (3 / 4):=by
 unfold q34 FQ
 rw [show (3 / 4:Rat).num = 3 by decide +kernel,show (3 / 4:Rat).den = 4 by decide +kernel];rfl
theorem aN7 (x:Rat):(!decide ((3 / 4:Rat) < x)) = decide (4 * x.num<=3 * (x.den:Int)):=by
 have h:=ltQ (3 / 4) x
 rw [show (3 / 4:Rat).num = 3 by decide +kernel,show (3 / 4:Rat).den = 4 by decide +kernel] at h
 by_cases c:(3 / 4:Rat) < x
 ·rw [decide_eq_true c]
  have:=h.mpr c
  exact (decide_eq_false (by omega)).symm
 ·rw [decide_eq_false c]
  have:¬ 3 * (x.den:Int) < x.num * ((4:Nat):Int):=fun z=>c (h.mp z)
  exact (decide_eq_true (by omega)).symm
noncomputable def mZ:DSp:=fun ds M Q=>∃ rs,ds = [.tup (bG rs)]/\DpS 8 rs/\vaS rs/\(dnS rs<=300->loS rs)/\Q (.bl (enB rs)) M
noncomputable abbrev pX:Stmt:=top 65
theorem sL:aQ ["rows","size"] ["rows"] (aJ pX):=⟨rfl,rfl,rfl,by decide +kernel,rfl,by decide +kernel,by decide +kernel⟩
theorem aAf (hF:bX K mg "can_go_on" pX ["rows"]) (iS:fC K mg "MOST_IN_A_ROUND" (.int 300)) (kR:fC K mg "ONE" aDf) (kJ:fC K mg "LEAST_CHANGE" (.tup [.int 3,.int 4])) (fK:Has P w K mg base 118 "how_many_done" ["rows"] (aBh 8)) (sV:Has P w K mg base 118 "draws" ["rows"] (yQ 8)) (jI:Has P w K mg base 118 "move_size" ["rows"] (nB 8)) (aAN:Has P w K mg base 101 "below" ["one","other"] aB9):Has P w K mg base 119 "can_go_on" ["rows"] mZ:=by
 refine Has.mkZ hF sL (fun ds M Q ⟨_,z,_⟩=>by rw [z];rfl) fun f cdv A outer s H ds M Q E hr h=>?_
 obtain ⟨rs,rfl,dp,va,lo,q⟩:=h
 refine ⟨_,(aF (aX (fA (iY (aP iD (aG fK hr (by decide) (aA (aB 0) aD)) (bE iS)) (gX (gS (cX (aG sV hr (by decide) (aA (aB 0) aD))))))) (aE (aM kI)) aT)
  (aF (aO (i:=1) sL.nd (aG jI hr (by decide) (aA (aB 0) aD)))
  (aE (aM (xL (cS (bZ hr) (aB 1) (bE kR)) (eC (qL (aG aAN hr (by decide) (aA (bE kJ) (aA (aB 1) aD)))))))))),?_⟩
 unfold enB at q
 decreasing_tactic
 refine ⟨rs,rfl,dp,?_⟩
 decreasing_tactic
 by_cases c:dnS rs<=300
 ·rw [decide_eq_true c,Bool.true_and] at q
  refine ifF (decide_eq_false (by omega)) ⟨rs,rfl,dp,va,?_⟩
  decreasing_tactic
  cases hd:drS rs with
  | false =>
   rw [hd,Bool.and_false] at q
   exact ifT rfl (aZ q)
  | true =>
   rw [hd,Bool.and_true] at q
   have lo:=lo c
   refine ifF rfl ⟨rs,rfl,dp,lo,?_⟩
   decreasing_tactic
   rw [show aDf = FQ 1 from rfl,aAT]
   by_cases c1:szS rs = 1
   ·rw [decide_eq_true c1,Bool.true_or] at q
    exact ifT (decide_eq_true c1) (aZ q)
   ·rw [decide_eq_false c1,Bool.false_or] at q
    rw [show (D.tup [.int 3,.int 4]) = FQ (3 / 4) from aLb]
    refine ifF (decide_eq_false c1) ⟨_,_,4,_,rfl,trivial,⟨by unfold Bd;decide +kernel,by unfold Bd;decide +kernel⟩,(yT _ lo.1).bq,by omega,?_⟩
    decreasing_tactic
    rw [aN7]
    exact aZ q
 ·rw [decide_eq_false c,Bool.false_and] at q
  exact ifT (decide_eq_true (by omega)) (aZ q)
theorem aBW (ts:List Th):(lJ ts).length = ts.length:=by rw [yC,List.length_map]
theorem aCu {ts:List Th} {i:Nat} {d:D} (h:(lJ ts)[i]? = some d):∃ r,ts[i]? = some r/\d = thD r:=by
 rw [yC,List.getElem?_map] at h
 cases e:ts[i]? with
 | none=>rw [e] at h;cases h
 | some r=>rw [e] at h;cases h;exact ⟨r,rfl,rfl⟩
theorem aDH:∀ ts:List Th,gdS ts = ts.map gdR
 | []=>by rw [gdS];rfl
 | t :: ts=>by rw [gdS,aDH ts,List.map_cons]
theorem aGP {ts:List Th} {r:Th} (h:r ∈ ts):gdR r ∈ gdS ts:=by rw [aDH];exact List.mem_map_of_mem h
noncomputable def lkB (r:Th) (ws:List Th) (a:Int) (ar:List Str) (z:Int ⊕ Int):Int ⊕ Int :=
 if mD r ar then match z with
  | .inl b=>if isE r && !enB (gdS ws) then .inr a else .inl (b + 1)
  | .inr c=>.inr c
 else .inr a
mutual
noncomputable def lkR:Th->Int->List Str->Int ⊕ Int
 | .pl _,a,_=>.inl (a + 1)
 | .ag n ws,a,ar=>lkB (.ag n ws) ws a ar (lkS ws (a + 1) (ar ++ [("again":Str)]))
 | .kp ws,a,ar=>lkB (.kp ws) ws a ar (lkS ws (a + 1) (ar ++ [("keep":Str)]))
 | .ev ws,a,ar=>lkB (.ev ws) ws a ar (lkS ws (a + 1) (ar ++ [("ever":Str)]))
 | .bad _,a,_=>.inr a
noncomputable def lkS:List Th->Int->List Str->Int ⊕ Int
 | [],a,_=>.inl a
 | r :: rs,a,ar=>match lkR r a ar with
  | .inl b=>lkS rs b ar
  | .inr c=>.inr c
end
theorem aBC:∀ (xs ys:List Th) (a:Int) (ar:List Str),lkS (xs ++ ys) a ar = match lkS xs a ar with | .inl b=>lkS ys b ar | .inr c=>.inr c
 | [],ys,a,ar=>by rw [List.nil_append,lkS]
 | x :: xs,ys,a,ar=>by
  rw [List.cons_append,lkS,lkS]
  cases lkR x a ar with
  | inl b=>exact aBC xs ys b ar
  | inr c=>rfl
theorem aGh {rs:List Th} {i:Nat} {r:Th} {a b:Int} {ar:List Str} (hr:rs[i]? = some r) (h:lkS (rs.take i) a ar = .inl b):lkS (rs.take (i + 1)) a ar = lkR r b ar:=by
 rw [eM hr,aBC,h]
 dsimp only
 rw [lkS]
 cases lkR r b ar with
 | inl c=>dsimp only;rw [lkS]
 | inr c=>rfl
theorem aJq {rs:List Th} {i:Nat} {r:Th} {a b:Int} {ar:List Str} (hr:rs[i]? = some r) (h:lkS (rs.take i) a ar = .inl b) {c:Int} (hc:lkR r b ar = .inr c):lkS rs a ar = .inr c:=by
 rw [<- List.take_append_drop (i + 1) rs,aBC,aGh hr h,hc]
theorem aNt {rs:List Th} {i:Nat} {r:Th} {a b z:Int} {ar:List Str} (hr:rs[i]? = some r) (h:lkS (rs.take i) a ar = .inl b) (hz:lkS rs a ar = .inl z):∃ c,lkR r b ar = .inl c:=by
 cases hc:lkR r b ar with
 | inl c=>exact ⟨c,rfl⟩
 | inr c=>rw [aJq hr h hc] at hz;cases hz
theorem DpS.up8 {d:Nat} {rs:List Rw} (h:DpS d rs) (l:d<=8):DpS 8 rs:=by
 cases d with
 | zero=>exact h.elim
 | succ d =>
  have l7:d<=7:=by omega
  exact ⟨h.1,fun r hr=>kB (d':=7) (h.2 r hr) l7⟩
theorem uV {r:Th} {ws:List Th} {a c:Int} {ar:List Str} {z:Int ⊕ Int} (h:lkB r ws a ar z = .inl c):mD r ar = true/\(isE r && !enB (gdS ws)) = false/\z = .inl (c - 1):=by
 unfold lkB at h
 cases hr:mD r ar with
 | false=>rw [hr] at h;cases h
 | true =>
  rw [hr,if_pos rfl] at h
  cases z with
  | inr c=>cases h
  | inl b =>
   dsimp only at h
   cases he:isE r && !enB (gdS ws) with
   | true=>rw [he] at h;cases h
   | false =>
    rw [he] at h
    refine ⟨rfl,rfl,?_⟩
    have:b + 1 = c:=Sum.inl.inj h
    rw [<- this];congr 1;omega
noncomputable def evI (ar:List Str):Bool:=ar.any (· == "ever")
theorem sH (ar:List Str) (x:Str):evI (ar ++ [x]) = (evI ar || (x == "ever")):=by
 unfold evI;rw [List.any_append,List.any_cons,List.any_nil,Bool.or_false]
mutual
noncomputable def vaT:Th->Prop
 | .pl p=>plV p
 | .ag n ts=>n<=12/\rF ts
 | .kp ts=>rF ts
 | .ev ts=>rF ts
 | .bad d=>aGT d/\bM 30 d = true
noncomputable def rF:List Th->Prop
 | []=>True
 | t :: ts=>vaT t/\rF ts
end
theorem xV:∀ {rs:List Th} {r:Th},rF rs->r ∈ rs->vaT r
 | x :: xs,r,h,m=>by
  rw [rF] at h
  rcases List.mem_cons.mp m with rfl | z
  ·exact h.1
  ·exact xV h.2 z
mutual
theorem aNm:∀ t:Th,vaT t->vaR (gdR t)
 | .pl p,h=>by rw [vaT] at h;rw [gdR,vaR];exact h
 | .ag n ts,h=>by rw [vaT] at h;rw [gdR,vaR];exact ⟨h.1,uD ts h.2⟩
 | .kp ts,h=>by rw [vaT] at h;rw [gdR,vaR];exact uD ts h
 | .ev ts,h=>by rw [vaT] at h;rw [gdR,vaR];exact uD ts h
 | .bad d,_=>by rw [gdR,vaR];exact ⟨trivial,fun _ e=>by cases e⟩
theorem uD:∀ ts:List Th,rF ts->vaS (gdS ts)
 | [],_=>by rw [gdS,vaS];trivial
 | t :: ts,h=>by rw [rF] at h;rw [gdS,vaS];exact ⟨aNm t h.1,uD ts h.2⟩
end
mutual
theorem aL0:∀ (t:Th) (a:Int) (ar:List Str) (b:Int),lkR t a ar = .inl b->okT t
 | .pl _,_,_,_,_=>by rw [okT];trivial
 | .ag n ts,a,ar,b,h=>by rw [lkR] at h;rw [okT];exact rA ts _ _ _ (uV h).2.2
 | .kp ts,a,ar,b,h=>by rw [lkR] at h;rw [okT];exact rA ts _ _ _ (uV h).2.2
 | .ev ts,a,ar,b,h=>by rw [lkR] at h;rw [okT];exact rA ts _ _ _ (uV h).2.2
 | .bad _,_,_,_,h=>by rw [lkR] at h;cases h
theorem rA:∀ (ts:List Th) (a:Int) (ar:List Str) (b:Int),lkS ts a ar = .inl b->okS ts
 | [],_,_,_,_=>by rw [okS];trivial
 | t :: ts,a,ar,b,h=>by
  rw [lkS] at h
  rw [okS]
  cases e:lkR t a ar with
  | inl c=>rw [e] at h;exact ⟨aL0 t a ar c e,rA ts c ar b h⟩
  | inr c=>rw [e] at h;cases h
end
mutual
noncomputable def boR:Th->Prop
 | .pl _=>True
 | .ag _ ws=>boS ws
 | .kp ws=>boS ws
 | .ev ws=>boS ws/\∀ a ar b,evI ar = true->lkS ws a ar = .inl b->dnS (gdS ws)<=300->loS (gdS ws)
 | .bad _=>True
noncomputable def boS:List Th->Prop
 | []=>True
 | r :: rs=>boR r/\boS rs
end
theorem aA8:∀ {rs:List Th} {r:Th},boS rs->r ∈ rs->boR r
 | x :: xs,r,h,m=>by
  rw [boS] at h
  rcases List.mem_cons.mp m with rfl | z
  ·exact h.1
  ·exact aA8 h.2 z
theorem qM {r:Th} {ar:List Str} (h:mD r ar = true):ar.length < 4:=by
 unfold mD at h
 exact of_decide_eq_true (Bool.and_eq_true_iff.mp h).1
noncomputable def aBf (d:Nat):DSp:=fun ds M Q=>∃ rs a ar,ds = [.tup (lJ rs),.int a,.tup (ar.map D.str)]/\(DpS d (gdS rs)/\ar.length<=1000)/\(rF rs/\boS rs)/\∃ b,lkS rs a ar = .inl b/\Q (.int b) M
noncomputable abbrev iM:Stmt:=top 63
theorem bJ:aQ ["rows","number","around","at","row","behind"] ["rows","number","around"] (aJ iM):=⟨rfl,rfl,rfl,by decide +kernel,rfl,by decide +kernel,by decide +kernel⟩
theorem mI (hF:bX K mg "look_at_rows" iM ["rows","number","around"]) (eF:Has P w K mg base 105 "is_plain_row" ["thing"] jQ) (hG:Has P w K mg base 102 "is_block" ["thing"] qF) (hJ:Has P w K mg base 101 "has_room" ["block","around"] pB) (w_rows_within:Has P w K mg base 101 "rows_within" ["row"] rL) (fW:Has P w K mg base 119 "can_go_on" ["rows"] mZ):∀ d,d<=8->Has P w K mg base (120 + d) "look_at_rows" ["rows","number","around"] (aBf d):=by
 intro d
 have bO:=w_rows_within
 induction d with
 | zero=>exact fun _=>(Has.never hF bJ 119).imp fun ds M Q ⟨rs,a,ar,_,z,_⟩=>z.1
 | succ d ih =>
  intro l8
  have cT:=ih (by omega)
  refine Has.mkZ (k:=120 + d) hF bJ (fun ds M Q ⟨a,b,c,z,_⟩=>by rw [z];rfl) fun f cdv A outer s H ds M Q E hr h=>?_
  obtain ⟨rs,a,ar,rfl,⟨dp,la⟩,⟨va,bo⟩,z,hz,q⟩:=h
  refine ⟨_,(aF (aO (i:=3) bJ.nd (aB 1))
  (aF (iN PassesOwn.never rfl (aB 0) (aV (i:=4) bJ.nd) (aE (aX (cX (aG eF hr (by omega) (aA (aB 4) aD))) (aE (qG (i:=3) yP bJ.nd aC)) (aE (aX (fA (fF (cX (aG hG hr (by omega) (aA (aB 4) aD))) (eN (cX (aG hJ hr (by omega) (aA (aB 4) (aA (aB 2) aD))))))) (aF (aO (i:=5) bJ.nd (aG cT hr (by omega) (aA (aG bO hr (by omega) (aA (aB 4) aD)) (aA (aL cU (aB 3) aC) (aA (aL qH (aB 2) (aR (aA (aH (aB 4) aC) aD))) aD)))))
  (aF (aX (fA (fF (aP (bZ hr) (aH (aB 4) aC) aN) (eN (gS (cX (aG fW hr (by omega) (aA (aH (aB 4) aC) aD))))))) (aE mK) aT)
  (aE (aO (i:=3) bJ.nd (aL cU (aB 5) aC))))) (aE mK))))))
  (aE (aM (aB 3))))),?_⟩
  decreasing_tactic
  refine ⟨fun i ρ M'=>M' = M/\∃ b o1 o2,lkS (rs.take i) a ar = .inl b/\ρ = [some (.tup (lJ rs)),some (.int a),some (.tup (ar.map D.str)),some (.int b),o1,o2],⟨rfl,a,none,none,by rw [List.take_zero,lkS],rfl⟩,fun i ρ M' _ _ a e=>(by cases e),?_,?_⟩
  ·rintro i d1 ρ M' hd ⟨rfl,b,o1,o2,hb,rfl⟩
   obtain ⟨r,hr',rfl⟩:=aCu hd
   have mr:=List.mem_of_getElem? hr'
   have dr:=dp.2 _ (aGP mr)
   have vr:=xV va mr
   have br:=aA8 bo mr
   obtain ⟨c,hc⟩:=aNt hr' hb hz
   have nx:=(aGh hr' hb).trans hc
   have pv:∀ p,r = .pl p->plV p:=fun p e=>by rw [e,vaT] at vr;exact vr
   have bv:∀ d,r = .bad d->aGT d:=fun d e=>by rw [e,vaT] at vr;exact vr.1
   decreasing_tactic
   refine ⟨r,rfl,pv,bv,?_⟩
   cases r with
   | pl p =>
    rw [lkR] at hc
    decreasing_tactic
    exact ifT rfl ⟨rfl,_,_,_,nx.trans (congrArg Sum.inl (Sum.inl.inj hc).symm),rfl⟩
   | ag n ws =>
    rw [lkR] at hc
    rw [vaT] at vr
    rw [gdR] at dr
    rw [boR] at br
    obtain ⟨k1,k2,k3⟩:=uV hc
    have l4:=qM k1
    decreasing_tactic
    refine ifF rfl ⟨_,rfl,rfl,(fun _ _ e=>by cases e;exact vr.1),bv,?_⟩
    decreasing_tactic
    refine ifT rfl ⟨_,_,rfl,rfl,?_⟩
    rw [k1]
    refine ifT rfl ⟨_,ws,rfl,rfl,?_⟩
    dsimp only [thD]
    decreasing_tactic
    refine ⟨by decide,by rw [List.length_map];omega,ws,b + 1,ar ++ [("again":Str)],by rw [List.map_append];rfl,⟨(kN dr).2,by rw [List.length_append];show ar.length + 1<=1000;omega⟩,⟨vr.2,br⟩,_,k3,?_⟩
    decreasing_tactic
    rw [aK]
    exact ifF (by decide) ⟨rfl,_,_,_,nx,by rw [show c - 1 + 1 = c by omega]⟩
   | kp ws =>
    rw [lkR] at hc
    rw [vaT] at vr
    rw [gdR] at dr
    rw [boR] at br
    obtain ⟨k1,k2,k3⟩:=uV hc
    have l4:=qM k1
    decreasing_tactic
    refine ifF rfl ⟨_,rfl,rfl,(fun _ _ e=>by cases e),bv,?_⟩
    decreasing_tactic
    refine ifT rfl ⟨_,_,rfl,rfl,?_⟩
    rw [k1]
    refine ifT rfl ⟨_,ws,rfl,rfl,?_⟩
    dsimp only [thD]
    decreasing_tactic
    refine ⟨by decide,by rw [List.length_map];omega,ws,b + 1,ar ++ [("keep":Str)],by rw [List.map_append];rfl,⟨oE dr,by rw [List.length_append];show ar.length + 1<=1000;omega⟩,⟨vr,br⟩,_,k3,?_⟩
    decreasing_tactic
    rw [aK]
    exact ifF (by decide) ⟨rfl,_,_,_,nx,by rw [show c - 1 + 1 = c by omega]⟩
   | ev ws =>
    rw [lkR] at hc
    rw [vaT] at vr
    rw [gdR] at dr
    rw [boR] at br
    obtain ⟨k1,k2,k3⟩:=uV hc
    have l4:=qM k1
    decreasing_tactic
    refine ifF rfl ⟨_,rfl,rfl,(fun _ _ e=>by cases e),bv,?_⟩
    decreasing_tactic
    refine ifT rfl ⟨_,_,rfl,rfl,?_⟩
    rw [k1]
    refine ifT rfl ⟨_,ws,rfl,rfl,?_⟩
    dsimp only [thD]
    decreasing_tactic
    refine ⟨by decide,by rw [List.length_map];omega,ws,b + 1,ar ++ [("ever":Str)],by rw [List.map_append];rfl,⟨mJ dr,by rw [List.length_append];show ar.length + 1<=1000;omega⟩,⟨vr,br.1⟩,_,k3,?_⟩
    decreasing_tactic
    rw [aK]
    have gb:=br.2 _ _ _ (by rw [sH];exact Bool.or_true _) k3
    rw [vP ws (rA _ _ _ _ k3)]
    refine ifT (by decide) ⟨gdS ws,rfl,(mJ dr).up8 (by omega),uD ws vr,gb,?_⟩
    decreasing_tactic
    have en:enB (gdS ws) = true:=by
     cases he:enB (gdS ws) with
     | true=>rfl
     | false=>rw [he] at k2;cases k2
    rw [en]
    exact ifF rfl ⟨rfl,_,_,_,nx,by rw [show c - 1 + 1 = c by omega]⟩
   | bad d =>
    rw [lkR] at hc
    cases hc
  ·rintro ρ M' ⟨rfl,b,o1,o2,hb,rfl⟩
   rw [aBW,List.take_length,hz] at hb
   cases hb
   exact aZ q
noncomputable def aI4 (d:Nat):List D->DM->Int->Prop:=fun ds M i=>∃ rs a ar,ds = [.tup (lJ rs),.int a,.tup (ar.map D.str)]/\(DpS d (gdS rs)/\ar.length<=1000)/\(rF rs/\boS rs)/\lkS rs a ar = .inr i
theorem uX {C_NoRow:Addr} (hF:bX K mg "look_at_rows" iM ["rows","number","around"]) (nQ:sM P w K mg base "NoRow" C_NoRow "row") (eF:Has P w K mg base 105 "is_plain_row" ["thing"] jQ) (hG:Has P w K mg base 102 "is_block" ["thing"] qF) (hJ:Has P w K mg base 101 "has_room" ["block","around"] pB) (w_rows_within:Has P w K mg base 101 "rows_within" ["row"] rL) (fW:Has P w K mg base 119 "can_go_on" ["rows"] mZ):∀ d,d<=8->jU P w K mg base (120 + d) "look_at_rows" ["rows","number","around"] C_NoRow "row" (aI4 d):=by
 intro d
 have bO:=w_rows_within
 induction d with
 | zero=>exact fun _=>(jU.never hF nQ bJ 119).imp fun ds M i ⟨rs,a,ar,_,z,_⟩=>z.1
 | succ d ih =>
  intro l8
  have fU:=ih (by omega)
  have cT:=mI hF eF hG hJ w_rows_within fW d (by omega)
  refine jU.mkZ (k:=120 + d) hF nQ bJ (fun ds M i ⟨a,b,c,z,_⟩=>by rw [z];rfl) fun f cdv A outer s H ds M iw E hr h hRO hPO=>?_
  obtain ⟨rs,a,ar,rfl,⟨dp,la⟩,⟨va,bo⟩,hz⟩:=h
  refine ⟨_,(aF (aO (i:=3) bJ.nd (aB 1))
  (aF (iN PassesOwn.leaving rfl (aB 0) (aV (i:=4) bJ.nd) (aE (aX (cX (aG eF hr (by omega) (aA (aB 4) aD))) (aE (qG (i:=3) yP bJ.nd aC)) (aE (aX (fA (fF (cX (aG hG hr (by omega) (aA (aB 4) aD))) (eN (cX (aG hJ hr (by omega) (aA (aB 4) (aA (aB 2) aD))))))) (aF (aGD (aO (i:=5) bJ.nd (aAk fU hr (by omega) hPO (aA (aG bO hr (by omega) (aA (aB 4) aD)) (aA (aL cU (aB 3) aC) (aA (aL qH (aB 2) (aR (aA (aH (aB 4) aC) aD))) aD)))))
  (aO (i:=5) bJ.nd (aG cT hr (by omega) (aA (aG bO hr (by omega) (aA (aB 4) aD)) (aA (aL cU (aB 3) aC) (aA (aL qH (aB 2) (aR (aA (aH (aB 4) aC) aD))) aD))))))
  (aF (aX (fA (fF (aP (bZ hr) (aH (aB 4) aC) aN) (eN (gS (cX (aG fW hr (by omega) (aA (aH (aB 4) aC) aD))))))) (aE (yO hRO hr (by first | decide | omega) (aB 3))) aT)
  (aE (aO (i:=3) bJ.nd (aL cU (aB 5) aC))))) (aE (yO hRO hr (by first | decide | omega) (aB 3))))))))
  (aE (aM (aB 3))))),?_⟩
  decreasing_tactic
  refine ⟨fun i ρ M'=>M' = M/\∃ b o1 o2,lkS (rs.take i) a ar = .inl b/\ρ = [some (.tup (lJ rs)),some (.int a),some (.tup (ar.map D.str)),some (.int b),o1,o2],⟨rfl,a,none,none,by rw [List.take_zero,lkS],rfl⟩,fun i ρ M' _ _ a e=>(by cases e),?_,?_⟩
  ·rintro i d1 ρ M' hd ⟨rfl,b,o1,o2,hb,rfl⟩
   obtain ⟨r,hr',rfl⟩:=aCu hd
   have mr:=List.mem_of_getElem? hr'
   have dr:=dp.2 _ (aGP mr)
   have vr:=xV va mr
   have br:=aA8 bo mr
   have nx:=aGh hr' hb
   have ex:∀ c,lkR r b ar = .inr c->c = iw:=fun c h=>by
    have:=aJq hr' hb h
    rw [hz] at this
    exact (Sum.inr.inj this).symm
   have pv:∀ p,r = .pl p->plV p:=fun p e=>by rw [e,vaT] at vr;exact vr
   have bv:∀ d,r = .bad d->aGT d:=fun d e=>by rw [e,vaT] at vr;exact vr.1
   decreasing_tactic
   refine ⟨r,rfl,pv,bv,?_⟩
   cases r with
   | pl p =>
    rw [lkR] at nx
    decreasing_tactic
    exact ifT rfl ⟨rfl,_,_,_,nx,rfl⟩
   | ag n ws =>
    rw [lkR] at nx ex
    rw [vaT] at vr
    rw [gdR] at dr
    rw [boR] at br
    unfold lkB at nx ex
    decreasing_tactic
    refine ifF rfl ⟨_,rfl,rfl,(fun _ _ e=>by cases e;exact vr.1),bv,?_⟩
    decreasing_tactic
    refine ifT rfl ⟨_,_,rfl,rfl,?_⟩
    cases k1:mD (.ag n ws) ar with
    | false =>
     rw [k1] at ex
     exact ifF rfl ⟨ex b rfl,.refl _⟩
    | true =>
     have l4:=qM k1
     have len:(ar ++ [("again":Str)]).length<=1000:=by rw [List.length_append];show ar.length + 1<=1000;omega
     have lm:(ar.map D.str).length + 1<=1000:=by rw [List.length_map];omega
     have am:(ar ++ [("again":Str)]).map D.str = ar.map D.str ++ [D.str "again"]:=by rw [List.map_append];rfl
     rw [k1,if_pos rfl] at nx ex
     refine ifT rfl ?_
     cases k3:lkS ws (b + 1) (ar ++ [("again":Str)]) with
     | inr c =>
      rw [k3] at ex
      refine .inl ⟨_,ws,rfl,rfl,?_⟩
      dsimp only [thD]
      decreasing_tactic
      exact ⟨by decide,lm,c,⟨ws,b + 1,ar ++ [("again":Str)],by rw [am],⟨(kN dr).2,len⟩,⟨vr.2,br⟩,k3⟩,fun M2 sb=>⟨ex c rfl,sb⟩⟩
     | inl c =>
      rw [k3] at nx ex
      dsimp only at nx ex
      refine .inr ⟨_,ws,rfl,rfl,?_⟩
      dsimp only [thD]
      decreasing_tactic
      refine ⟨by decide,lm,ws,b + 1,ar ++ [("again":Str)],by rw [am],⟨(kN dr).2,len⟩,⟨vr.2,br⟩,c,k3,?_⟩
      decreasing_tactic
      rw [aK]
      exact ifF (by decide) ⟨rfl,_,_,_,nx,rfl⟩
   | kp ws =>
    rw [lkR] at nx ex
    rw [vaT] at vr
    rw [gdR] at dr
    rw [boR] at br
    unfold lkB at nx ex
    decreasing_tactic
    refine ifF rfl ⟨_,rfl,rfl,(fun _ _ e=>by cases e),bv,?_⟩
    decreasing_tactic
    refine ifT rfl ⟨_,_,rfl,rfl,?_⟩
    cases k1:mD (.kp ws) ar with
    | false =>
     rw [k1] at ex
     exact ifF rfl ⟨ex b rfl,.refl _⟩
    | true =>
     have l4:=qM k1
     have len:(ar ++ [("keep":Str)]).length<=1000:=by rw [List.length_append];show ar.length + 1<=1000;omega
     have lm:(ar.map D.str).length + 1<=1000:=by rw [List.length_map];omega
     have am:(ar ++ [("keep":Str)]).map D.str = ar.map D.str ++ [D.str "keep"]:=by rw [List.map_append];rfl
     rw [k1,if_pos rfl] at nx ex
     refine ifT rfl ?_
     cases k3:lkS ws (b + 1) (ar ++ [("keep":Str)]) with
     | inr c =>
      rw [k3] at ex
      refine .inl ⟨_,ws,rfl,rfl,?_⟩
      dsimp only [thD]
      decreasing_tactic
      exact ⟨by decide,lm,c,⟨ws,b + 1,ar ++ [("keep":Str)],by rw [am],⟨oE dr,len⟩,⟨vr,br⟩,k3⟩,fun M2 sb=>⟨ex c rfl,sb⟩⟩
     | inl c =>
      rw [k3] at nx ex
      dsimp only at nx ex
      refine .inr ⟨_,ws,rfl,rfl,?_⟩
      dsimp only [thD]
      decreasing_tactic
      refine ⟨by decide,lm,ws,b + 1,ar ++ [("keep":Str)],by rw [am],⟨oE dr,len⟩,⟨vr,br⟩,c,k3,?_⟩
      decreasing_tactic
      rw [aK]
      exact ifF (by decide) ⟨rfl,_,_,_,nx,rfl⟩
   | ev ws =>
    rw [lkR] at nx ex
    rw [vaT] at vr
    rw [gdR] at dr
    rw [boR] at br
    unfold lkB at nx ex
    decreasing_tactic
    refine ifF rfl ⟨_,rfl,rfl,(fun _ _ e=>by cases e),bv,?_⟩
    decreasing_tactic
    refine ifT rfl ⟨_,_,rfl,rfl,?_⟩
    cases k1:mD (.ev ws) ar with
    | false =>
     rw [k1] at ex
     exact ifF rfl ⟨ex b rfl,.refl _⟩
    | true =>
     have l4:=qM k1
     have len:(ar ++ [("ever":Str)]).length<=1000:=by rw [List.length_append];show ar.length + 1<=1000;omega
     have lm:(ar.map D.str).length + 1<=1000:=by rw [List.length_map];omega
     have am:(ar ++ [("ever":Str)]).map D.str = ar.map D.str ++ [D.str "ever"]:=by rw [List.map_append];rfl
     rw [k1,if_pos rfl] at nx ex
     refine ifT rfl ?_
     cases k3:lkS ws (b + 1) (ar ++ [("ever":Str)]) with
     | inr c =>
      rw [k3] at ex
      refine .inl ⟨_,ws,rfl,rfl,?_⟩
      dsimp only [thD]
      decreasing_tactic
      exact ⟨by decide,lm,c,⟨ws,b + 1,ar ++ [("ever":Str)],by rw [am],⟨mJ dr,len⟩,⟨vr,br.1⟩,k3⟩,fun M2 sb=>⟨ex c rfl,sb⟩⟩
     | inl c =>
      rw [k3] at nx ex
      dsimp only at nx ex
      refine .inr ⟨_,ws,rfl,rfl,?_⟩
      dsimp only [thD]
      decreasing_tactic
      refine ⟨by decide,lm,ws,b + 1,ar ++ [("ever":Str)],by rw [am],⟨mJ dr,len⟩,⟨vr,br.1⟩,c,k3,?_⟩
      decreasing_tactic
      rw [aK]
      have gb:=br.2 _ _ _ (by rw [sH];exact Bool.or_true _) k3
      rw [vP ws (rA _ _ _ _ k3)]
      refine ifT (by decide) ⟨gdS ws,rfl,(mJ dr).up8 (by omega),uD ws vr,gb,?_⟩
      decreasing_tactic
      cases he:enB (gdS ws) with
      | true =>
       rw [he] at nx
       exact ifF rfl ⟨rfl,_,_,_,nx,rfl⟩
      | false =>
       rw [he] at ex
       exact ifT rfl ⟨ex b rfl,.refl _⟩
   | bad d =>
    rw [lkR] at ex
    decreasing_tactic
    refine ifF rfl ⟨_,rfl,rfl,(fun _ _ e=>by cases e),bv,?_⟩
    decreasing_tactic
    exact ifF rfl ⟨ex b rfl,.refl _⟩
  ·rintro ρ M' ⟨rfl,b,o1,o2,hb,rfl⟩
   rw [aBW,List.take_length,hz] at hb
   cases hb
noncomputable def lU:DSp:=fun ds M Q=>∃ rs,ds = [.tup (lJ rs)]/\DpS 8 (gdS rs)/\(rF rs/\boS rs)/\hmS (gdS rs)<=60/\(∃ b,lkS rs 0 [] = .inl b)/\Q (.tup (lJ rs)) M
noncomputable abbrev jY:Stmt:=top 61
theorem qV:aQ ["rows"] ["rows"] (aJ jY):=⟨rfl,rfl,rfl,by decide +kernel,rfl,by decide +kernel,by decide +kernel⟩
theorem xZ (hF:bX K mg "program_of" jY ["rows"]) (cT:Has P w K mg base 128 "look_at_rows" ["rows","number","around"] (aBf 8)) (eY:Has P w K mg base 119 "not_too_long" ["program"] jP):Has P w K mg base 129 "program_of" ["rows"] lU:=by
 refine Has.mkZ hF qV (fun ds M Q ⟨_,z,_⟩=>by rw [z];rfl) fun f cdv A outer s H ds M Q E hr h=>?_
 obtain ⟨rs,rfl,dp,va,hm,⟨b,hb⟩,q⟩:=h
 refine ⟨_,(aF (dD (aG cT hr (by decide) (aA (aB 0) (aA aC (aA (aR aD) aD)))))
  (aE (aM (aG eY hr (by decide) (aA (aB 0) aD))))),?_⟩
 decreasing_tactic
 refine ⟨by decide,rs,0,[],rfl,⟨dp,by decide⟩,va,b,hb,?_⟩
 rw [vP rs (rA _ _ _ _ hb)] at q ⊢
 exact ⟨gdS rs,rfl,dp,hm,aZ q⟩
noncomputable def aN1:List D->DM->Int->Prop:=fun ds M i=>∃ rs,ds = [.tup (lJ rs)]/\DpS 8 (gdS rs)/\(rF rs/\boS rs)/\lkS rs 0 [] = .inr i
theorem yI {C_NoRow:Addr} (hF:bX K mg "program_of" jY ["rows"]) (nQ:sM P w K mg base "NoRow" C_NoRow "row") (fU:jU P w K mg base 128 "look_at_rows" ["rows","number","around"] C_NoRow "row" (aI4 8)) (cT:Has P w K mg base 128 "look_at_rows" ["rows","number","around"] (aBf 8)) (eY:Has P w K mg base 119 "not_too_long" ["program"] jP):jU P w K mg base 129 "program_of" ["rows"] C_NoRow "row" aN1:=by
 refine jU.mkZ hF nQ qV (fun ds M i ⟨_,z,_⟩=>by rw [z];rfl) fun f cdv A outer s H ds M iw E hr h hRO hPO=>?_
 obtain ⟨rs,rfl,dp,va,hz⟩:=h
 refine ⟨_,(aF (aGD (dD (aAk fU hr (by decide) hPO (aA (aB 0) (aA aC (aA (aR aD) aD)))))
  (dD (aG cT hr (by decide) (aA (aB 0) (aA aC (aA (aR aD) aD))))))
  (aE (aM (aG eY hr (by decide) (aA (aB 0) aD))))),?_⟩
 decreasing_tactic
 exact .inl ⟨by decide,iw,⟨rs,0,[],rfl,⟨dp,by decide⟩,va,hz⟩,fun M' sb=>⟨rfl,sb⟩⟩
mutual
noncomputable def ofR:Rw->Th
 | .pl p=>.pl p
 | .ag n ws=>.ag n (ofS ws)
 | .kp ws=>.kp (ofS ws)
 | .ev ws=>.ev (ofS ws)
noncomputable def ofS:List Rw->List Th
 | []=>[]
 | r :: rs=>ofR r :: ofS rs
end
mutual
theorem aMZ:∀ r:Rw,gdR (ofR r) = r
 | .pl p=>by rw [ofR,gdR]
 | .ag n ws=>by rw [ofR,gdR,mX ws]
 | .kp ws=>by rw [ofR,gdR,mX ws]
 | .ev ws=>by rw [ofR,gdR,mX ws]
theorem mX:∀ rs:List Rw,gdS (ofS rs) = rs
 | []=>by rw [ofS,gdS]
 | r :: rs=>by rw [ofS,gdS,aMZ r,mX rs]
end
mutual
theorem aNe:∀ r:Rw,okT (ofR r)
 | .pl p=>by rw [ofR,okT];trivial
 | .ag n ws=>by rw [ofR,okT];exact xQ ws
 | .kp ws=>by rw [ofR,okT];exact xQ ws
 | .ev ws=>by rw [ofR,okT];exact xQ ws
theorem xQ:∀ rs:List Rw,okS (ofS rs)
 | []=>by rw [ofS,okS];trivial
 | r :: rs=>by rw [ofS,okS];exact ⟨aNe r,xQ rs⟩
end
theorem aJr (rs:List Rw):lJ (ofS rs) = bG rs:=by rw [vP _ (xQ rs),mX]
theorem aOd:∀ t b:Fin 12,gwB (((t.val + 1:Int):Rat) / ((b.val + 1:Int):Rat)) = true:=by decide +kernel
theorem aNd {t b:Int} (t1:1<=t) (t2:t<=12) (b1:1<=b) (b2:b<=12):gwB ((t:Rat) / (b:Rat)) = true:=by
 have:=aOd ⟨(t - 1).toNat,by omega⟩ ⟨(b - 1).toNat,by omega⟩
 dsimp only at this
 rw [show (((t - 1).toNat:Nat):Int) + 1 = t by omega,show (((b - 1).toNat:Nat):Int) + 1 = b by omega] at this
 exact this
theorem aJt {A:Nat} {p:Pl} (h:FA A p):plV p:=by
 refine ⟨h.2,fun a e=>?_⟩
 subst e
 obtain ⟨t,b,⟨t0,t1⟩,⟨b0,b1⟩,e⟩:=h.1
 have:=aNd (t:=(t:Int)) (b:=(b:Int)) (by omega) (by omega) (by omega) (by omega)
 rw [Rat.intCast_natCast,Rat.intCast_natCast,<- e,Rat.mul_div_cancel (by
  intro z
  have:=Rat.intCast_eq_zero_iff.mp (show ((b:Int):Rat) = 0 by rw [Rat.intCast_natCast];exact z)
  omega)] at this
 exact this
mutual
theorem aNE {A:Nat}:∀ r:Rw,alR (FA A) r->ltR r->vaT (ofR r)
 | .pl p,h,_=>by rw [alR] at h;rw [ofR,vaT];exact aJt h
 | .ag n ws,h,l=>by rw [alR] at h;rw [ltR] at l;rw [ofR,vaT];exact ⟨l.1,xN ws h l.2⟩
 | .kp ws,h,l=>by rw [alR] at h;rw [ltR] at l;rw [ofR,vaT];exact xN ws h l
 | .ev ws,h,l=>by rw [alR] at h;rw [ltR] at l;rw [ofR,vaT];exact xN ws h l
theorem xN {A:Nat}:∀ rs:List Rw,alS (FA A) rs->ltS rs->rF (ofS rs)
 | [],_,_=>by rw [ofS,rF];trivial
 | r :: rs,h,l=>by rw [alS] at h;rw [ltS] at l;rw [ofS,rF];exact ⟨aNE r h.1 l.1,xN rs h.2 l.2⟩
end
theorem aAY {r:Th} {ar:List Str} {b:Bool} (l:ar.length < 4) (he:evI ar = b) (h:isE r = true->b = false):mD r ar = true:=by
 unfold mD
 rw [show ar.any (· == "ever") = evI ar from rfl,he,decide_eq_true l,Bool.true_and]
 cases hr:isE r with
 | false=>rfl
 | true=>rw [h hr];rfl
theorem aDq {r:Th} {ws:List Th} {a c:Int} {ar:List Str} (k:mD r ar = true) (h:(isE r && !enB (gdS ws)) = false):lkB r ws a ar (.inl c) = .inl (c + 1):=by
 unfold lkB
 rw [k,if_pos rfl]
 dsimp only
 rw [h];rfl
mutual
theorem aMF:∀ (r:Rw) (d:Nat) (b:Bool) (a:Int) (ar:List Str),vER b r->Dp d r->evI ar = b->ar.length + d<=4->∃ c,lkR (ofR r) a ar = .inl c
 | .pl p,_,_,a,_,_,_,_,_=>⟨a + 1,by rw [ofR,lkR]⟩
 | .ag n ws,d,b,a,ar,v,dp,he,l=>by
  rw [vER] at v
  cases d with
  | zero=>exact dp.elim
  | succ d =>
   obtain ⟨c,hc⟩:=aBX ws d b (a + 1) (ar ++ [("again":Str)]) v.2 dp.2.2 (by rw [sH,he];cases b<;>rfl) (by rw [List.length_append];show ar.length + 1 + d<=4;omega)
   exact ⟨c + 1,by rw [ofR,lkR,hc];exact aDq (aAY (by omega) he fun z=>by cases z) rfl⟩
 | .kp ws,d,b,a,ar,v,dp,he,l=>by
  rw [vER] at v
  cases d with
  | zero=>exact dp.elim
  | succ d =>
   obtain ⟨c,hc⟩:=aBX ws d b (a + 1) (ar ++ [("keep":Str)]) v dp.2 (by rw [sH,he];cases b<;>rfl) (by rw [List.length_append];show ar.length + 1 + d<=4;omega)
   exact ⟨c + 1,by rw [ofR,lkR,hc];exact aDq (aAY (by omega) he fun z=>by cases z) rfl⟩
 | .ev ws,d,b,a,ar,v,dp,he,l=>by
  rw [vER] at v
  obtain ⟨rfl,en,v⟩:=v
  cases d with
  | zero=>exact dp.elim
  | succ d =>
   obtain ⟨c,hc⟩:=aBX ws d true (a + 1) (ar ++ [("ever":Str)]) v dp.2 (by rw [sH];exact Bool.or_true _) (by rw [List.length_append];show ar.length + 1 + d<=4;omega)
   exact ⟨c + 1,by rw [ofR,lkR,hc];exact aDq (aAY (by omega) he fun _=>rfl) (by rw [mX,en];rfl)⟩
theorem aBX:∀ (rs:List Rw) (d:Nat) (b:Bool) (a:Int) (ar:List Str),vES b rs->(∀ r ∈ rs,Dp d r)->evI ar = b->ar.length + d<=4->∃ c,lkS (ofS rs) a ar = .inl c
 | [],_,_,a,_,_,_,_,_=>⟨a,by rw [ofS,lkS]⟩
 | r :: rs,d,b,a,ar,v,dp,he,l=>by
  rw [vES] at v
  obtain ⟨c1,h1⟩:=aMF r d b a ar v.1 (dp r (List.mem_cons_self ..)) he l
  obtain ⟨c2,h2⟩:=aBX rs d b c1 ar v.2 (fun x hx=>dp x (List.mem_cons_of_mem _ hx)) he l
  exact ⟨c2,by rw [ofS,lkS,h1];exact h2⟩
end
theorem aDu:∀ {rs:List Rw} {r:Rw},r ∈ rs->dnR r<=dnS rs
 | x :: xs,r,m=>by
  rw [dnS]
  rcases List.mem_cons.mp m with rfl | z
  ·omega
  ·have:=aDu z;omega
mutual
theorem aN0:∀ r:Rw,gwR 690 r->wR r
 | .pl p,h=>by
  cases p with
  | grow a=>rw [gwR] at h;rw [wR];exact h
  | _ =>
      rw [wR];· trivial
      all_goals (intro _ z;cases z)
 | .ag n ws,h=>by
  rw [gwR] at h
  rw [wR]
  exact ⟨aFL ws h.2,by omega,fun r hr=>.inl (by have:=aDu hr;omega),.inr (by omega)⟩
 | .kp ws,h=>by rw [wR];trivial
 | .ev ws,h=>by rw [wR];trivial
theorem aFL:∀ rs:List Rw,gwS 690 rs->wS rs
 | [],_=>by rw [wS];trivial
 | r :: rs,h=>by rw [gwS] at h;rw [wS];exact ⟨aN0 r h.1,aFL rs h.2⟩
end
theorem aME {rs:List Rw} (h:gwS 690 rs) (l:dnS rs<=704):loS rs:=⟨aFL rs h,by omega,fun r hr=>.inl (by have:=aDu hr;omega)⟩
mutual
theorem aNq:∀ r:Rw,gwR 690 r->boR (ofR r)
 | .pl p,_=>by rw [ofR,boR];trivial
 | .ag n ws,h=>by rw [gwR] at h;rw [ofR,boR];exact zF ws h.2
 | .kp ws,h=>by rw [gwR] at h;rw [ofR,boR];exact zF ws h.2
 | .ev ws,h=>by rw [gwR] at h;rw [ofR,boR];exact ⟨zF ws h.2,fun _ _ _ _ _ _=>by rw [mX];exact aME h.2 (by omega)⟩
theorem zF:∀ rs:List Rw,gwS 690 rs->boS (ofS rs)
 | [],_=>by rw [ofS,boS];trivial
 | r :: rs,h=>by rw [gwS] at h;rw [ofS,boS];exact ⟨aNq r h.1,zF rs h.2⟩
end
theorem aA1:∀ rs:List Rw,rs.length<=hmS rs
 | []=>Nat.zero_le _
 | r :: rs=>by
  rw [hmS,List.length_cons]
  have:=aA1 rs
  have:1<=hmR r:=by cases r<;>rw [hmR]<;>omega
  omega
theorem s45:(Str.ofString "-") = Ty.one 45:=by decide +kernel
theorem s48:(Str.ofString "0") = Ty.one 48:=by decide +kernel
theorem s47:(Str.ofString "/") = Ty.one 47:=by decide +kernel
theorem s32:(Str.ofString " ") = Ty.one 32:=by decide +kernel
theorem s10:(Str.ofString "\n") = Ty.one 10:=by decide +kernel
theorem s0:(Str.ofString "") = Str.empty:=by decide +kernel
theorem nt0:Ty.nt 0 = Str.ofString "0":=by decide +kernel
theorem aEL (m:Nat) (c:Nat) (h:c < 48):¬ (Ty.dg m).head? = some c:=fun e=>by
 obtain ⟨y,ys,ey⟩:=List.exists_cons_of_ne_nil (Ty.dg_ne m)
 rw [ey,List.head?_cons] at e
 have:=Ty.dg_all m y (by rw [ey];exact List.mem_cons_self ..)
 have:y = c:=Option.some.inj e
 omega
noncomputable def qA:DSp:=fun ds M Q=>∃ n:Int,ds = [.str (Ty.nt n)]/\n.natAbs < 2 ^ 120/\Q (.int n) M
noncomputable abbrev rX:Stmt:=top 75
theorem vI:aQ ["text","figures"] ["text"] (aJ rX):=⟨rfl,rfl,rfl,by decide +kernel,rfl,by decide +kernel,by decide +kernel⟩
theorem aA2 (hF:bX K mg "whole_of" rX ["text"]) (gK:mg "int" = none):Has P w K mg base 101 "whole_of" ["text"] qA:=by
 refine Has.mkZ hF vI (fun ds M Q ⟨_,z,_⟩=>by rw [z];rfl) fun f cdv A outer s H ds M Q E hr h=>?_
 obtain ⟨n,rfl,hn,q⟩:=h
 refine ⟨_,(gR (aO (i:=1) vI.nd (eJ (cX (aAv (aB 0) aN)) (aCN (aB 0) (fO aC) kK) (aB 0)))
  (aF (aX (fA (iY (gS (cX (aIb (aB 1)))) (gX (gS (cX (aIn (aB 1))))))) (aE (aM cZ)) aT)
  (aF (aX (fA (fF (cX (aAv (aB 1) aN)) (eN (aP (mE hr) (aB 0) aN)))) (aE (aM cZ)) aT)
  (aE (aM (cQ aHY gK (aA (aB 0) aD))))))),?_⟩
 have hl:=Ty.nt_len hn
 decreasing_tactic
 refine ⟨fun ρ M'=>M' = M/\∃ x:Str,Ty.cl x = Ty.dg n.natAbs/\ρ = [some (.str (Ty.nt n)),some (.str x)],?_,?_⟩
 ·rw [s45,Ty.start_one]
  rcases Ty.nt_cases n with ⟨h0,e⟩ | ⟨h0,e⟩
  ·rw [e]
   exact ifF (decide_eq_false (aEL _ _ (by decide))) ⟨rfl,_,e,rfl⟩
  ·rw [e]
   exact ifT (decide_eq_true rfl) ⟨by omega,rfl,_,Ty.cut_one e,rfl⟩
 rintro ρ M' ⟨rfl,x,ex,rfl⟩
 obtain ⟨a1,a2⟩:=Ty.ascii_dg ex
 decreasing_tactic
 rw [a1]
 refine ifF rfl ?_
 rw [a2]
 refine ifF rfl ?_
 rw [s48,Ty.start_one,ex]
 by_cases c:(Ty.dg n.natAbs).head? = some 48
 ·have z:=Ty.dg_head _ _ c rfl
  have:n = 0:=by omega
  subst this
  refine ifT (decide_eq_true c) ?_
  rw [nt0,s48,aK]
  refine ifF (by decide) ⟨0,?_⟩
  rw [<- s48,<- nt0]
  exact ⟨Ty.nt_int hn,by omega,aZ q⟩
 ·exact ifF (decide_eq_false c) ⟨n,Ty.nt_int hn,by omega,aZ q⟩
noncomputable def qt (q:Rat):Str:=if q.den = 1 then Ty.nt q.num else Ty.nt q.num ++ Ty.one 47 ++ Ty.nt (q.den:Int)
theorem vQ {x:Int} (h:Bd 110 x):x.natAbs < 2 ^ 120:=Nat.lt_of_lt_of_le h (by decide)
noncomputable def pF:DSp:=fun ds M Q=>∃ q:Rat,ds = [.str (qt q)]/\BQ 110 q/\Q (FQ q) M
noncomputable abbrev lP:Stmt:=top 74
theorem eW:aQ ["text","top_text","stroke","bottom_text","top","bottom"] ["text"] (aJ lP):=⟨rfl,rfl,rfl,by decide +kernel,rfl,by decide +kernel,by decide +kernel⟩
theorem wA (hF:bX K mg "fraction_of" lP ["text"]) (hW:Has P w K mg base 101 "whole_of" ["text"] qA) (fZ:Has P w K mg base 102 "is_reduced" ["top","bottom"] lV):Has P w K mg base 103 "fraction_of" ["text"] pF:=by
 refine Has.mkZ hF eW (fun ds M Q ⟨_,z,_⟩=>by rw [z];rfl) fun f cdv A outer s H ds M Q E hr h=>?_
 obtain ⟨x,rfl,bx,q⟩:=h
 refine ⟨_,(aF (jX (aGn (aB 0) aN) (kC (n:=3) rfl (bW (aV (i:=1) eW.nd) (bW (aV (i:=2) eW.nd) (bW (aV (i:=3) eW.nd) gQ)))))
  (aF (aO (i:=4) eW.nd (aG hW hr (by decide) (aA (aB 1) aD)))
  (aF (aO (i:=5) eW.nd (eJ (aP (mE hr) (aB 2) aN) (aG hW hr (by decide) (aA (aB 3) aD)) aC))
  (aF (aX (fA (iY (aP wW (aB 4) cZ) (iY (aP wW (aB 5) cZ) (gX (gS (cX (aG fZ hr (by decide) (aA (aB 4) (aA (aB 5) aD))))))))) (aE (aM cZ)) aT)
  (aE (aM (eJ (fA (fF (aP (mE hr) (aB 2) aN) (eN (aP (bZ hr) (aB 5) aC)))) cZ (aR (aA (aB 4) (aA (aB 5) aD)))))))))),?_⟩
 have b1:=vQ bx.1
 have b2:=vQ bx.2
 have l1:=Ty.nt_len b1
 have l2:=Ty.nt_len b2
 have red:=aG7 x
 unfold qt
 by_cases c:x.den = 1
 ·rw [if_pos c]
  decreasing_tactic
  refine ⟨47,s47,by omega,.inl ⟨Ty.nt_not (by decide) (by decide),?_⟩⟩
  decreasing_tactic
  refine ⟨rfl,_,rfl,b1,?_⟩
  decreasing_tactic
  rw [<- s0,aK]
  refine ifF (by decide) (ifF rfl (ifF rfl ⟨_,_,rfl,?_⟩))
  have red1:(decide ((1:Int)<=1) && decide (Int.gcd x.num 1 = 1)) = true:=by rw [c] at red;exact red
  rw [red1]
  refine ifF rfl ?_
  rw [aK]
  refine ifF (by decide) ⟨by decide,aZ ?_⟩
  rw [show D.tup [.int x.num,.int 1] = FQ x by show _ = D.tup [.int x.num,.int (x.den:Int)];rw [c];rfl]
  exact q
 ·rw [if_neg c]
  decreasing_tactic
  refine ⟨47,s47,by rw [Ty.len_cl,Ty.cl_app,Ty.cl_app,List.length_append,List.length_append];rw [Ty.len_cl] at l1 l2;show _ + 1 + _<=_;omega,.inr ⟨Ty.nt x.num,Ty.nt (x.den:Int),by rw [Ty.cl_app,Ty.cl_app,List.append_assoc];rfl,Ty.nt_not (by decide) (by decide),?_⟩⟩
  decreasing_tactic
  refine ⟨rfl,_,rfl,b1,?_⟩
  decreasing_tactic
  rw [<- s47,aK]
  refine ifT (by decide) ⟨_,rfl,b2,?_⟩
  decreasing_tactic
  refine ifF rfl (ifF rfl ⟨_,_,rfl,?_⟩)
  rw [red]
  refine ifF rfl ?_
  rw [aK]
  refine ifT (by decide) ?_
  rw [cK]
  exact ifF (decide_eq_false (by omega)) ⟨by decide,aZ q⟩
inductive Ln where
 | pl (p:Pl) | ag (n:Nat) | kp | ev | en
noncomputable def lnW:Ln->List Str
 | .pl p=>wd p :: (nu p).map qt
 | .ag n=>["again",Ty.nt (n:Int)]
 | .kp=>["keep"]
 | .ev=>["ever"]
 | .en=>["end"]
noncomputable def lnT (l:Ln):Str:=Builtin.Str.glued (Ty.one 32) (lnW l)
noncomputable def hdD:Ln->D
 | .pl p=>plD p
 | .ag n=>.tup [.str "again",.int (n:Int)]
 | .kp=>.tup [.str "keep"]
 | .ev=>.tup [.str "ever"]
 | .en=>.non
noncomputable def lnV:Ln->Prop
 | .pl p=>∀ q ∈ nu p,BQ 110 q
 | .ag n=>n<=12
 | _=>True
theorem aFo (l:Ln):lnW l ≠ []:=by cases l<;>exact fun e=>nomatch e
theorem aKM {q:Rat} {c:Nat} (h:c ≠ 45) (h1:c ≠ 47) (h2:¬ (48<=c/\c<=57)):c ∉ Ty.cl (qt q):=fun z=>by
 unfold qt at z
 split at z
 ·exact Ty.nt_not h h2 z
 ·rw [Ty.cl_app,Ty.cl_app] at z
  rcases List.mem_append.mp z with z | z
  ·rcases List.mem_append.mp z with z | z
   ·exact Ty.nt_not h h2 z
   ·exact h1 (List.mem_singleton.mp z)
  ·exact Ty.nt_not h h2 z
theorem aDb (p:Pl):32 ∉ Ty.cl (wd p)/\10 ∉ Ty.cl (wd p)/\(wd p).length<=7:=by
 have h:∀ x ∈ [("go":Str),"side","skip","dot","left","right","round","mirror","grow","quarter","half","arc"],32 ∉ Ty.cl x/\10 ∉ Ty.cl x/\x.length<=7:=by decide +kernel
 exact h _ (by cases p<;>dsimp only [wd]<;>decide)
theorem aBg (l:Ln) (c:Nat) (h:c = 32 ∨ c = 10):∀ s ∈ lnW l,c ∉ Ty.cl s:=by
 have c1:c ≠ 45:=by omega
 have c2:c ≠ 47:=by omega
 have c3:¬ (48<=c/\c<=57):=by omega
 have dc:∀ x:Str,(32 ∉ Ty.cl x/\10 ∉ Ty.cl x)->c ∉ Ty.cl x:=fun x z=>h.elim (fun e=>e ▸ z.1) (fun e=>e ▸ z.2)
 intro s hs
 cases l with
 | pl p =>
  rcases List.mem_cons.mp hs with rfl | hs
  ·exact dc _ ⟨(aDb p).1,(aDb p).2.1⟩
  ·obtain ⟨q,_,rfl⟩:=List.mem_map.mp hs
   exact aKM c1 c2 c3
 | ag n =>
  rcases List.mem_cons.mp hs with rfl | hs
  ·exact dc _ (by decide +kernel)
  ·rw [List.mem_singleton.mp hs];exact Ty.nt_not c1 c3
 | kp=>rw [List.mem_singleton.mp hs];exact dc _ (by decide +kernel)
 | ev=>rw [List.mem_singleton.mp hs];exact dc _ (by decide +kernel)
 | en=>rw [List.mem_singleton.mp hs];exact dc _ (by decide +kernel)
theorem aJU {q:Rat} (h:BQ 110 q):(qt q).length<=80:=by
 have l1:=Ty.nt_len (vQ h.1)
 have l2:=Ty.nt_len (vQ h.2)
 unfold qt
 split
 ·omega
 ·rw [Ty.len_cl,Ty.cl_app,Ty.cl_app,List.length_append,List.length_append]
  rw [Ty.len_cl] at l1 l2
  show _ + 1 + _<=_
  omega
theorem yX {b:Nat}:∀ {xs:List Str},(∀ x ∈ xs,x.length<=b)->(xs.map (·.length)).sum<=xs.length * b
 | [],_=>Nat.zero_le _
 | x :: xs,h=>by
  rw [List.map_cons,List.sum_cons,List.length_cons,Nat.add_mul]
  have h1:=h x (List.mem_cons_self ..)
  have h2:=yX (xs:=xs) fun y hy=>h y (List.mem_cons_of_mem _ hy)
  omega
theorem aBJ {l:Ln} (h:lnV l):(lnW l).length<=5/\∀ s ∈ lnW l,s.length<=80:=by
 cases l with
 | pl p =>
  refine ⟨by show (((nu p).map qt).length + 1)<=5;rw [List.length_map];have:=aAu p;omega,fun s hs=>?_⟩
  rcases List.mem_cons.mp hs with rfl | hs
  ·have:=(aDb p).2.2;omega
  ·obtain ⟨q,hq,rfl⟩:=List.mem_map.mp hs
   exact aJU (h q hq)
 | ag n =>
  have h:n<=12:=h
  refine ⟨by show 2<=5;decide,fun s hs=>?_⟩
  rcases List.mem_cons.mp hs with rfl | hs
  ·decide +kernel
  ·rw [List.mem_singleton.mp hs]
   exact Nat.le_trans (Ty.nt_len (n:=(n:Int)) (by show n < 2 ^ 120;omega)) (by decide)
 | kp=>exact ⟨by show 1<=5;decide,fun s hs=>by rw [List.mem_singleton.mp hs];decide +kernel⟩
 | ev=>exact ⟨by show 1<=5;decide,fun s hs=>by rw [List.mem_singleton.mp hs];decide +kernel⟩
 | en=>exact ⟨by show 1<=5;decide,fun s hs=>by rw [List.mem_singleton.mp hs];decide +kernel⟩
theorem tH {l:Ln} (h:lnV l):(lnT l).length<=405:=by
 obtain ⟨h1,h2⟩:=aBJ h
 unfold lnT
 rw [size_glued]
 have:=yX h2
 show _ + _ * 1<=_
 omega
theorem aHo (l:Ln):10 ∉ Ty.cl (lnT l):=by
 unfold lnT
 rw [Ty.cl_join]
 have:∀ xs:List (List Nat),(∀ x ∈ xs,10 ∉ x)->10 ∉ Ty.jl 32 xs:=by
  intro xs
  induction xs with
  | nil=>intro _ z;cases z
  | cons x r ih =>
   intro h z
   cases r with
   | nil=>exact h x (List.mem_cons_self ..) z
   | cons y r =>
    rcases List.mem_append.mp z with z | z
    ·exact h x (List.mem_cons_self ..) z
    ·rcases List.mem_cons.mp z with z | z
     ·cases z
     ·exact ih (fun x hx=>h x (List.mem_cons_of_mem _ hx)) z
 refine this _ fun x hx=>?_
 obtain ⟨s,hs,rfl⟩:=List.mem_map.mp hx
 exact aBg l 10 (.inr rfl) s hs
theorem tO (p:Pl):wd p ≠ "again"/\wd p ≠ "keep"/\wd p ≠ "ever"/\wd p ≠ "end":=by cases p<;>dsimp only [wd]<;>decide
theorem aHu (rs:List Rat):(rs.map FQ).all (bM 60) = true/\(rs.map FQ).any xW = false:=by
 constructor
 ·rw [List.all_map,List.all_eq_true];exact fun x _=>rfl
 ·rw [List.any_map,List.any_eq_false];exact fun x _=>(by intro z;cases z)
noncomputable def xG:DSp:=fun ds M Q=>∃ l,ds = [.str (lnT l)]/\lnV l/\∀ M',aW M M'->Q (hdD l) M'
noncomputable abbrev lX:Stmt:=top 73
theorem fD:aQ ["text","word","numbers","found","many"] ["text"] (aJ lX):=⟨rfl,rfl,rfl,by decide +kernel,rfl,by decide +kernel,by decide +kernel⟩
theorem aB8 (hF:bX K mg "head_of" lX ["text"]) (cI:mg "tuple" = none) (eD:mg "len" = none) (hW:Has P w K mg base 101 "whole_of" ["text"] qA) (lM:Has P w K mg base 103 "fraction_of" ["text"] pF) (cN:Has P w K mg base 101 "numbers_behind" ["word"] fM):Has P w K mg base 104 "head_of" ["text"] xG:=by
 refine Has.mkZ hF fD (fun ds M Q ⟨_,z,_⟩=>by rw [z];rfl) fun f cdv A outer s H ds M Q E hr h=>?_
 obtain ⟨l,rfl,lv,q⟩:=h
 refine ⟨_,(aF (jX (aAo (aB 0) aN) (aFN rfl (bW (aV (i:=1) fD.nd) (bW (aV (i:=2) fD.nd) gQ))))
  (gR (aX (aP (bZ hr) (aB 1) aN) (aF (xR (i:=3) (⟨rfl,by decide +kernel,by decide +kernel,by decide +kernel,rfl,by decide +kernel⟩:qP ["text","word","numbers","found","many"] (aJ lX) ["number"] [none] _) rfl fD.nd (aB 2) (fun _ _ _ _ _=>(aV (i:=0) (show List.Nodup (["number"]:List Str) by decide +kernel))) (fun _ _ _ _ _=>(aG hW hr (by decide) (aA (aB 0) aD))))
  (aE (aO (i:=4) fD.nd aC))) (aE (aX (fA (iY (aP (bZ hr) (aB 1) aN) (gX (aP (bZ hr) (aB 1) aN)))) (aF (aO (i:=3) fD.nd (aB 2))
  (aE (aO (i:=4) fD.nd aC))) (aF (xR (i:=3) (⟨rfl,by decide +kernel,by decide +kernel,by decide +kernel,rfl,by decide +kernel⟩:qP ["text","word","numbers","found","many"] (aJ lX) ["number"] [none] _) rfl fD.nd (aB 2) (fun _ _ _ _ _=>(aV (i:=0) (show List.Nodup (["number"]:List Str) by decide +kernel))) (fun _ _ _ _ _=>(aG lM hr (by decide) (aA (aB 0) aD))))
  (aE (aO (i:=4) fD.nd (aG cN hr (by decide) (aA (aB 1) aD))))))))
  (aE (aM (eJ (fA (fF (aP (bZ hr) (cD jO eD (aA (aB 3) aD)) (aB 4)) (eN (aP (aEI hr) cZ (aB 3) rfl)))) (aL qH (aR (aA (aB 1) aD)) (cQ mF cI (aA (aB 3) aD))) cZ))))),?_⟩
 have ll:=tH lv
 decreasing_tactic
 refine ⟨32,lnW l,s32,rfl,aFo l,aBg l 32 (.inl rfl),by decide,by omega,fun p0 hp0=>?_⟩
 have sb0:=aW.new hp0 ((lnW l).map D.str)
 have h0:bC M p0 ((lnW l).map D.str) p0 = some ((lnW l).map D.str):=aI
 generalize bC M p0 ((lnW l).map D.str) = M1 at sb0 h0 ⊢
 cases l with
 | pl p =>
  obtain ⟨n1,n2,n3,n4⟩:=tO p
  have nl:=aAu p
  decreasing_tactic
  refine ⟨_,_,h0,fun p1 hp1=>?_⟩
  have sb1:=sb0.trans (aW.new hp1 (((nu p).map qt).map D.str))
  have h1:bC M1 p1 (((nu p).map qt).map D.str) p1 = some (((nu p).map qt).map D.str):=aI
  rw [show List.map D.str (List.map qt (nu p)) = ((nu p).map qt).map D.str from rfl]
  generalize bC M1 p1 (((nu p).map qt).map D.str) = M2 at sb1 h1 ⊢
  decreasing_tactic
  refine ⟨fun ρ M'=>aW M2 M'/\∃ pf,M' (.l pf) = some ((nu p).map FQ)/\ρ = [some (.str (lnT (.pl p))),some (.str (wd p)),some (.ref p1),some (.ref pf),some (.int (((nu p).length:Nat):Int))],?_,?_⟩
  ·rw [aK]
   refine ifF (decide_eq_false n1) ?_
   rw [aK]
   refine ifF (decide_eq_false n2) ?_
   rw [aK]
   refine ifF (decide_eq_false n3) ?_
   refine ⟨_,h1,?_⟩
   refine ⟨by rw [List.length_map,List.length_map];omega,fun i ys M'=>M' = M2/\ys = ((nu p).take i).map FQ,⟨rfl,rfl⟩,fun i ys M' _ hi a e=>(by cases e;rw [hi.1];exact h1),?_,?_⟩
   ·rintro i d ys M' hd ⟨rfl,rfl⟩
    rw [List.getElem?_map,List.getElem?_map] at hd
    cases e:(nu p)[i]? with
    | none=>rw [e] at hd;cases hd
    | some x =>
     rw [e] at hd
     cases hd
     decreasing_tactic
     exact ⟨x,rfl,lv x (List.mem_of_getElem? e),rfl,by rw [eM e,List.map_append];rfl⟩
   rintro ys M' _ ⟨rfl,rfl⟩ pf hpf
   decreasing_tactic
   refine ⟨_,rfl,.inl ⟨_,aDr p,aW.new hpf _,pf,?_,rfl⟩⟩
   rw [aI,List.length_map,List.length_map,List.take_length]
  ·rintro ρ M3 ⟨sb,pf,hpf,rfl⟩
   decreasing_tactic
   refine ⟨_,hpf,?_⟩
   rw [cK]
   obtain ⟨f1,f2⟩:=aHu (nu p)
   refine ifT (decide_eq_true (by rw [List.length_map])) ⟨_,hpf,f1,?_⟩
   rw [f2]
   refine ifT rfl ⟨by decide,_,hpf,?_⟩
   decreasing_tactic
   refine ⟨by rw [List.length_map];show 1 + _<=1000;omega,aZ ?_⟩
   have:=q _ (sb1.trans sb)
   rw [show hdD (.pl p) = plD p from rfl,pU] at this
   exact this
 | ag n =>
  have lv:n<=12:=lv
  decreasing_tactic
  refine ⟨D.str "again",[D.str (Ty.nt (n:Int))],h0,fun p1 hp1=>?_⟩
  have sb1:=sb0.trans (aW.new hp1 [D.str (Ty.nt (n:Int))])
  have h1:bC M1 p1 [D.str (Ty.nt (n:Int))] p1 = some [D.str (Ty.nt (n:Int))]:=aI
  generalize bC M1 p1 [D.str (Ty.nt (n:Int))] = M2 at sb1 h1 ⊢
  decreasing_tactic
  refine ⟨fun ρ M'=>aW M2 M'/\∃ pf,M' (.l pf) = some [D.int (n:Int)]/\ρ = [some (.str (lnT (.ag n))),some (.str "again"),some (.ref p1),some (.ref pf),some (.int 1)],?_,?_⟩
  ·rw [aK]
   refine ifT (by decide) ⟨_,h1,?_⟩
   refine ⟨Nat.le_of_ble_eq_true rfl,fun i ys M'=>M' = M2/\ys = ([D.int (n:Int)]).take i,⟨rfl,rfl⟩,fun i ys M' _ hi a e=>(by cases e;rw [hi.1];exact h1),?_,?_⟩
   ·rintro i d ys M' hd ⟨rfl,rfl⟩
    have i0:i = 0:=by
     have:=(List.getElem?_eq_some_iff.mp hd).1
     rw [List.length_singleton] at this
     omega
    subst i0
    cases hd
    decreasing_tactic
    exact ⟨_,rfl,by show n < 2 ^ 120;omega,rfl,rfl⟩
   rintro ys M' _ ⟨rfl,rfl⟩ pf hpf
   exact ⟨aW.new hpf _,pf,aI,rfl⟩
  ·rintro ρ M3 ⟨sb,pf,hpf,rfl⟩
   decreasing_tactic
   refine ⟨_,hpf,?_⟩
   rw [cK]
   refine ifT (decide_eq_true rfl) ⟨_,hpf,rfl,?_⟩
   refine ifT rfl ⟨by decide,_,hpf,?_⟩
   decreasing_tactic
   exact ⟨Nat.le_of_ble_eq_true rfl,aZ (q _ (sb1.trans sb))⟩
 | kp =>
  decreasing_tactic
  refine ⟨D.str "keep",[],h0,fun p1 hp1=>?_⟩
  have sb1:=sb0.trans (aW.new hp1 [])
  have h1:bC M1 p1 [] p1 = some []:=aI
  generalize bC M1 p1 [] = M2 at sb1 h1 ⊢
  decreasing_tactic
  refine ⟨fun ρ M'=>M' = M2/\ρ = [some (.str (lnT .kp)),some (.str "keep"),some (.ref p1),some (.ref p1),some (.int 0)],?_,?_⟩
  ·rw [aK]
   refine ifF (by decide) ?_
   rw [aK]
   exact ifT (by decide) (ifT rfl ⟨rfl,rfl⟩)
  ·rintro ρ M3 ⟨rfl,rfl⟩
   decreasing_tactic
   refine ⟨_,h1,?_⟩
   rw [cK]
   refine ifT (by decide) ⟨_,h1,rfl,?_⟩
   refine ifT rfl ⟨by decide,_,h1,?_⟩
   decreasing_tactic
   exact ⟨by decide,aZ (q _ sb1)⟩
 | ev =>
  decreasing_tactic
  refine ⟨D.str "ever",[],h0,fun p1 hp1=>?_⟩
  have sb1:=sb0.trans (aW.new hp1 [])
  have h1:bC M1 p1 [] p1 = some []:=aI
  generalize bC M1 p1 [] = M2 at sb1 h1 ⊢
  decreasing_tactic
  refine ⟨fun ρ M'=>M' = M2/\ρ = [some (.str (lnT .ev)),some (.str "ever"),some (.ref p1),some (.ref p1),some (.int 0)],?_,?_⟩
  ·rw [aK]
   refine ifF (by decide) ?_
   rw [aK]
   refine ifF (by decide) ?_
   rw [aK]
   exact ifT (by decide) ⟨rfl,rfl⟩
  ·rintro ρ M3 ⟨rfl,rfl⟩
   decreasing_tactic
   refine ⟨_,h1,?_⟩
   rw [cK]
   refine ifT (by decide) ⟨_,h1,rfl,?_⟩
   refine ifT rfl ⟨by decide,_,h1,?_⟩
   decreasing_tactic
   exact ⟨by decide,aZ (q _ sb1)⟩
 | en =>
  decreasing_tactic
  refine ⟨D.str "end",[],h0,fun p1 hp1=>?_⟩
  have sb1:=sb0.trans (aW.new hp1 [])
  have h1:bC M1 p1 [] p1 = some []:=aI
  generalize bC M1 p1 [] = M2 at sb1 h1 ⊢
  decreasing_tactic
  refine ⟨fun ρ M'=>aW M2 M'/\∃ pf,M' (.l pf) = some []/\ρ = [some (.str (lnT .en)),some (.str "end"),some (.ref p1),some (.ref pf),some .non],?_,?_⟩
  ·rw [aK]
   refine ifF (by decide) ?_
   rw [aK]
   refine ifF (by decide) ?_
   rw [aK]
   refine ifF (by decide) ⟨_,h1,?_⟩
   refine ⟨by decide,fun i ys M'=>M' = M2/\ys = [],⟨rfl,rfl⟩,fun i ys M' _ hi a e=>(by cases e;rw [hi.1];exact h1),?_,?_⟩
   ·rintro i d ys M' hd _
    cases hd
   rintro ys M' _ ⟨rfl,rfl⟩ pf hpf
   decreasing_tactic
   exact ⟨_,rfl,.inr ⟨by decide,aW.new hpf _,pf,aI,rfl⟩⟩
  ·rintro ρ M3 ⟨sb,pf,hpf,rfl⟩
   decreasing_tactic
   refine ⟨_,hpf,?_⟩
   exact ⟨rfl,rfl,ifF rfl (aZ (q _ (sb1.trans sb)))⟩
mutual
noncomputable def lsR:Rw->List Ln
 | .pl p=>[.pl p]
 | .ag n ws=>.ag n :: (lsS ws ++ [.en])
 | .kp ws=>.kp :: (lsS ws ++ [.en])
 | .ev ws=>.ev :: (lsS ws ++ [.en])
noncomputable def lsS:List Rw->List Ln
 | []=>[]
 | r :: rs=>lsR r ++ lsS rs
end
noncomputable def hw:Ln->List D
 | .ag n=>[.str "again",.int (n:Int)]
 | .kp=>[.str "keep"]
 | .ev=>[.str "ever"]
 | _=>[]
noncomputable def isO:Ln->Prop
 | .ag _=>True
 | .kp=>True
 | .ev=>True
 | _=>False
noncomputable def adT (st:List (List D)) (d:D):List (List D):=st.dropLast ++ [st.getLast?.getD [] ++ [d]]
noncomputable def stL (s:List Ln × List (List D)):Ln->List Ln × List (List D)
 | .pl p=>(s.1,adT s.2 (plD p))
 | .en=>(s.1.dropLast,adT s.2.dropLast (.tup (hw (s.1.getLast?.getD .en) ++ [.tup (s.2.getLast?.getD [])])))
 | l=>(s.1 ++ [l],s.2 ++ [[]])
theorem yW (st:List (List D)) (u:List D) (d:D):adT (st ++ [u]) d = st ++ [u ++ [d]]:=by
 unfold adT
 rw [List.dropLast_concat,List.getLast?_concat];rfl
theorem aA5 (hs:List Ln) (h:Ln) (st:List (List D)) (u e:List D):stL (hs ++ [h],st ++ [u] ++ [e]) .en = (hs,st ++ [u ++ [.tup (hw h ++ [.tup e])]]):=by
 unfold stL
 dsimp only
 rw [List.dropLast_concat,List.dropLast_concat,List.getLast?_concat,List.getLast?_concat,yW];rfl
mutual
theorem aNz:∀ (r:Rw) (hs:List Ln) (st:List (List D)) (u:List D),(lsR r).foldl stL (hs,st ++ [u]) = (hs,st ++ [u ++ [rwD r]])
 | .pl p,hs,st,u=>by
  rw [lsR,rwD,List.foldl_cons,List.foldl_nil]
  show (hs,adT (st ++ [u]) (plD p)) = _
  rw [yW]
 | .ag n ws,hs,st,u=>by
  rw [lsR,List.foldl_cons,List.foldl_append]
  show List.foldl stL (List.foldl stL (hs ++ [.ag n],st ++ [u] ++ [[]]) (lsS ws)) [.en] = _
  rw [aBY ws (hs ++ [Ln.ag n]) (st ++ [u]) [],List.foldl_cons,List.foldl_nil,List.nil_append,aA5,rwD];rfl
 | .kp ws,hs,st,u=>by
  rw [lsR,List.foldl_cons,List.foldl_append]
  show List.foldl stL (List.foldl stL (hs ++ [.kp],st ++ [u] ++ [[]]) (lsS ws)) [.en] = _
  rw [aBY ws (hs ++ [Ln.kp]) (st ++ [u]) [],List.foldl_cons,List.foldl_nil,List.nil_append,aA5,rwD];rfl
 | .ev ws,hs,st,u=>by
  rw [lsR,List.foldl_cons,List.foldl_append]
  show List.foldl stL (List.foldl stL (hs ++ [.ev],st ++ [u] ++ [[]]) (lsS ws)) [.en] = _
  rw [aBY ws (hs ++ [Ln.ev]) (st ++ [u]) [],List.foldl_cons,List.foldl_nil,List.nil_append,aA5,rwD];rfl
theorem aBY:∀ (rs:List Rw) (hs:List Ln) (st:List (List D)) (u:List D),(lsS rs).foldl stL (hs,st ++ [u]) = (hs,st ++ [u ++ bG rs])
 | [],hs,st,u=>by rw [lsS,bG,List.foldl_nil,List.append_nil]
 | r :: rs,hs,st,u=>by rw [lsS,bG,List.foldl_append,aNz r,aBY rs,List.append_assoc];rfl
end
noncomputable def vld:Nat->List Ln->Prop
 | _,[]=>True
 | d,.pl _ :: r=>vld d r
 | 0,.en :: _=>False
 | d + 1,.en :: r=>vld d r
 | d,.ag _ :: r=>vld (d + 1) r
 | d,.kp :: r=>vld (d + 1) r
 | d,.ev :: r=>vld (d + 1) r
mutual
theorem aNN:∀ (r:Rw) (d:Nat) (l:List Ln),vld d l->vld d (lsR r ++ l)
 | .pl p,d,l,h=>by rw [lsR];cases d<;>exact h
 | .ag n ws,d,l,h=>by
  rw [lsR,List.cons_append,List.append_assoc]
  have:vld (d + 1) (lsS ws ++ ([Ln.en] ++ l)):=aCh ws (d + 1) _ h
  cases d<;>exact this
 | .kp ws,d,l,h=>by
  rw [lsR,List.cons_append,List.append_assoc]
  have:vld (d + 1) (lsS ws ++ ([Ln.en] ++ l)):=aCh ws (d + 1) _ h
  cases d<;>exact this
 | .ev ws,d,l,h=>by
  rw [lsR,List.cons_append,List.append_assoc]
  have:vld (d + 1) (lsS ws ++ ([Ln.en] ++ l)):=aCh ws (d + 1) _ h
  cases d<;>exact this
theorem aCh:∀ (rs:List Rw) (d:Nat) (l:List Ln),vld d l->vld d (lsS rs ++ l)
 | [],d,l,h=>by rw [lsS];exact h
 | r :: rs,d,l,h=>by rw [lsS,List.append_assoc];exact aNN r d _ (aCh rs d l h)
end
theorem aBb {l:Ln}:lnT l = Str.ofString "end" ↔ l = .en:=by
 constructor
 ·intro h
  have e:Ty.jl 32 ((lnW l).map Ty.cl) = Ty.jl 32 (([Str.ofString "end"]).map Ty.cl):=by
   rw [<- Ty.cl_join]
   show Ty.cl (lnT l) = Ty.cl (Str.ofString "end")
   rw [h]
  have:=Ty.map_cl_inj (Ty.jl_inj (c:=32) (fun z=>aFo l (List.map_eq_nil_iff.mp z)) (by simp) (fun p hp=>by
   obtain ⟨s,hs,rfl⟩:=List.mem_map.mp hp
   exact aBg l 32 (.inl rfl) s hs) (fun p hp=>by
   obtain ⟨s,hs,rfl⟩:=List.mem_map.mp hp
   rw [List.mem_singleton.mp hs];decide +kernel) e)
  cases l with
  | pl p=>exact absurd (List.cons.inj this).1 (tO p).2.2.2
  | ag n=>exact absurd (List.cons.inj this).1 (by decide)
  | kp=>exact absurd (List.cons.inj this).1 (by decide)
  | ev=>exact absurd (List.cons.inj this).1 (by decide)
  | en=>rfl
 ·rintro rfl;rfl
structure KS (B M:DM) (ph pl:Addr) (hs:List D) (fs:List (Addr × List D)):Prop where
 hh:M ph = some hs
 hl:M pl = some (fs.map fun f=>D.ref f.1)
 it:∀ f ∈ fs,M f.1 = some f.2
 nod:(ph :: pl :: fs.map (·.1)).Nodup
 bn:∀ a ∈ ph :: pl :: fs.map (·.1),B (.l a) = none
 sub:aW B M
theorem gO {B M:DM} {a:Addr} {ds:List D} (h:aW B M) (n:B (.l a) = none):aW B (bC M a ds):=fun b o e=>by
 rw [yY (vO e n)];exact h b o e
theorem aCk {B M:DM} {a:Addr} (s:aW B M) (h:M (.l a) = none):B (.l a) = none:=by
 cases c:B (.l a) with
 | none=>rfl
 | some o=>rw [s _ _ c] at h;cases h
theorem KS.ne {B M:DM} {ph pl:Addr} {hs:List D} {fs:List (Addr × List D)} (h:KS B M ph pl hs fs):ph ≠ pl/\∀ f ∈ fs,f.1 ≠ ph/\f.1 ≠ pl:=by
 have n:=h.nod
 rw [List.nodup_cons,List.nodup_cons] at n
 refine ⟨fun e=>n.1 (by rw [e];exact List.mem_cons_self ..),fun f hf=>⟨fun e=>n.1 (List.mem_cons_of_mem _ (by rw [<- e];exact List.mem_map_of_mem hf)),fun e=>n.2.1 (by rw [<- e];exact List.mem_map_of_mem hf)⟩⟩
theorem KS.top {B M:DM} {ph pl q:Addr} {hs u:List D} {gs:List (Addr × List D)} (h:KS B M ph pl hs (gs ++ [(q,u)])) (d:D):KS B (bC M q (u ++ [d])) ph pl hs (gs ++ [(q,u ++ [d])]):=by
 obtain ⟨n1,n2⟩:=h.ne
 have hq:=n2 (q,u) (by simp)
 have e1:(gs ++ [(q,u ++ [d])]).map (·.1) = (gs ++ [(q,u)]).map (·.1):=by rw [List.map_append,List.map_append];rfl
 have e2:((gs ++ [(q,u ++ [d])]).map fun f=>D.ref f.1) = ((gs ++ [(q,u)]).map fun f=>D.ref f.1):=by rw [List.map_append,List.map_append];rfl
 refine ⟨by rw [bI (Ne.symm hq.1)];exact h.hh,by rw [bI (Ne.symm hq.2),e2];exact h.hl,fun f hf=>?_,by rw [e1];exact h.nod,by rw [e1];exact h.bn,gO h.sub (h.bn q (by simp))⟩
 rcases List.mem_append.mp hf with hf | hf
 ·have nq:f.1 ≠ q:=fun e=>by
   have n:=h.nod
   rw [List.nodup_cons,List.nodup_cons,List.map_append,List.nodup_append] at n
   exact n.2.2.2.2 f.1 (List.mem_map_of_mem hf) q (by simp) e
  rw [bI nq];exact h.it f (List.mem_append_left _ hf)
 ·rw [List.mem_singleton.mp hf];exact aI
theorem KS.push {B M:DM} {ph pl p:Addr} {hs:List D} {fs:List (Addr × List D)} (h:KS B M ph pl hs fs) (d:D) (hp:bC M ph (hs ++ [d]) (.l p) = none):KS B (bC (bC (bC M ph (hs ++ [d])) p []) pl ((fs.map fun f=>D.ref f.1) ++ [.ref p])) ph pl (hs ++ [d]) (fs ++ [(p,[])]):=by
 obtain ⟨n1,n2⟩:=h.ne
 obtain ⟨np,hp1⟩:=iL hp
 have npl:p ≠ pl:=fun e=>by rw [e,h.hl] at hp1;cases hp1
 have nf:∀ f ∈ fs,f.1 ≠ p:=fun f hf e=>by rw [<- e,h.it f hf] at hp1;cases hp1
 have bp:=aCk h.sub hp1
 refine ⟨?_,?_,fun f hf=>?_,?_,?_,?_⟩
 ·rw [bI n1,bI (Ne.symm np)];exact aI
 ·rw [List.map_append];exact aI
 ·rcases List.mem_append.mp hf with hf | hf
  ·rw [bI (n2 f hf).2,bI (nf f hf),bI (n2 f hf).1];exact h.it f hf
  ·rw [List.mem_singleton.mp hf]
   show bC _ pl _ (.l p) = some []
   rw [bI npl];exact aI
 ·have n:=h.nod
  rw [List.nodup_cons,List.nodup_cons] at n ⊢
  rw [List.map_append]
  refine ⟨fun z=>?_,fun z=>?_,?_⟩
  ·rcases List.mem_cons.mp z with z | z
   ·exact n1 z
   ·rcases List.mem_append.mp z with z | z
    ·exact n.1 (List.mem_cons_of_mem _ z)
    ·exact np (List.mem_singleton.mp z).symm
  ·rcases List.mem_append.mp z with z | z
   ·exact n.2.1 z
   ·exact npl (List.mem_singleton.mp z).symm
  ·rw [List.nodup_append]
   refine ⟨n.2.2,by simp,fun a ha b hb=>?_⟩
   rw [List.mem_singleton.mp hb]
   obtain ⟨f,hf,rfl⟩:=List.mem_map.mp ha
   exact nf f hf
 ·intro a ha
  rw [List.map_append] at ha
  rcases List.mem_cons.mp ha with rfl | ha
  ·exact h.bn _ (by simp)
  ·rcases List.mem_cons.mp ha with rfl | ha
   ·exact h.bn _ (by simp)
   ·rcases List.mem_append.mp ha with ha | ha
    ·exact h.bn a (List.mem_cons_of_mem _ (List.mem_cons_of_mem _ ha))
    ·rw [List.mem_singleton.mp ha];exact bp
 ·exact gO (gO (gO h.sub (h.bn _ (by simp))) bp) (h.bn _ (by simp))
theorem KS.pop {B M:DM} {ph pl q r:Addr} {hs u e:List D} {gs:List (Addr × List D)} {d0:D} (h:KS B M ph pl (hs ++ [d0]) (gs ++ [(q,u)] ++ [(r,e)])) (d:D):KS B (bC (bC (bC M ph hs) pl ((gs ++ [(q,u)]).map fun f=>D.ref f.1)) q (u ++ [d])) ph pl hs (gs ++ [(q,u ++ [d])]):=by
 obtain ⟨n1,n2⟩:=h.ne
 have sub1:∀ f ∈ gs ++ [(q,u)],f ∈ gs ++ [(q,u)] ++ [(r,e)]:=fun f hf=>List.mem_append_left _ hf
 have key:KS B (bC (bC M ph hs) pl ((gs ++ [(q,u)]).map fun f=>D.ref f.1)) ph pl hs (gs ++ [(q,u)]):=by
  refine ⟨by rw [bI n1];exact aI,aI,fun f hf=>?_,?_,fun a ha=>?_,gO (gO h.sub (h.bn _ (by simp))) (h.bn _ (by simp))⟩
  ·rw [bI (n2 f (sub1 f hf)).2,bI (n2 f (sub1 f hf)).1];exact h.it f (sub1 f hf)
  ·have n:=h.nod
   rw [List.map_append] at n
   rw [<- List.cons_append,<- List.cons_append,List.nodup_append] at n
   exact n.1
  ·refine h.bn a ?_
   rw [List.map_append,<- List.cons_append,<- List.cons_append]
   exact List.mem_append_left _ ha
 exact key.top d
theorem opD {l:Ln} (h:isO l):hdD l = .tup (hw l)/\(hw l).length<=2/\∃ k r,hw l = .str k :: r/\k ∈ aG0:=by
 cases l with
 | ag n=>exact ⟨rfl,Nat.le_of_ble_eq_true rfl,_,_,rfl,by decide⟩
 | kp=>exact ⟨rfl,by decide,_,_,rfl,by decide⟩
 | ev=>exact ⟨rfl,by decide,_,_,rfl,by decide⟩
 | pl p=>exact h.elim
 | en=>exact h.elim
theorem aD5 {xs:List D} {y:D}:(xs ++ [y])[(xs ++ [y]).length - 1]? = some y:=by
 rw [List.length_append,List.length_singleton,Nat.add_sub_cancel,List.getElem?_append_right (Nat.le_refl _),Nat.sub_self];rfl
theorem KS.mono {B M M':DM} {ph pl:Addr} {hs:List D} {fs:List (Addr × List D)} (h:KS B M ph pl hs fs) (s:aW M M'):KS B M' ph pl hs fs :=
 ⟨s _ _ h.hh,s _ _ h.hl,fun f hf=>s _ _ (h.it f hf),h.nod,h.bn,h.sub.trans s⟩
theorem wN {α:Type} {xs:List α} (h:xs ≠ []):∃ ys y,xs = ys ++ [y]:=⟨_,_,(List.dropLast_concat_getLast h).symm⟩
noncomputable def xK:DSp:=fun ds M Q=>∃ (pt:Addr) (rs:List Rw),ds = [.ref pt]/\M pt = some ((lsS rs).map fun l=>D.str (lnT l))/\(∀ l ∈ lsS rs,lnV l)/\(lsS rs).length<=400/\∀ M',aW M M'->Q (.tup (bG rs)) M'
noncomputable abbrev tT:Stmt:=top 72
theorem hU:aQ ["lines","heads","lists","at","text","head","block"] ["lines"] (aJ tT):=⟨rfl,rfl,rfl,by decide +kernel,rfl,by decide +kernel,by decide +kernel⟩
theorem aCi (hF:bX K mg "rows_of" tT ["lines"]) (pZ:mg "enumerate" = none) (cI:mg "tuple" = none) (eD:mg "len" = none) (uL:Has P w K mg base 104 "head_of" ["text"] xG) (cN:Has P w K mg base 101 "numbers_behind" ["word"] fM):Has P w K mg base 105 "rows_of" ["lines"] xK:=by
 refine Has.mkZ hF hU (fun ds M Q ⟨_,_,z,_⟩=>by rw [z];rfl) fun f cdv A outer s H ds M Q E hr h=>?_
 obtain ⟨pt,rs,rfl,ht,lv,ln,q⟩:=h
 refine ⟨_,(aF (aO (i:=1) hU.nd (bR aD))
  (aF (aO (i:=2) hU.nd (bR (aA (bR aD) aD)))
  (aF (aGJ PassesOwn.never rfl pZ (aA (aB 0) aD) (kC (n:=2) rfl (bW (aV (i:=3) hU.nd) (bW (aV (i:=4) hU.nd) gQ))) (aF (aO (i:=5) hU.nd (aG uL hr (by decide) (aA (aB 4) aD)))
  (aE (aX (fA (fF (aP (bZ hr) (aB 4) aN) (eN (aP (aGi hr) (aB 1) (bR aD))))) (aF (aO (i:=6) hU.nd (aL qH (wP (aB 1)) (aR (aA (cQ mF cI (aA (wP (aB 2)) aD)) aD))))
  (aE (dD (dO (aH (aB 2) (eL aC)) (aB 6))))) (aE (aX (aP wW (aB 5) cZ) (aE mK) (aE (aX (aP wW (aG cN hr (by decide) (aA (aH (aB 5) aC) aD)) cZ) (aF (dD (dO (aB 1) (aB 5)))
  (aE (dD (dO (aB 2) (bR aD))))) (aE (dD (dO (aH (aB 2) (eL aC)) (aB 5))))))))))))
  (aF (aX (aP (aGi hr) (aB 1) (bR aD)) (aE mK) aT)
  (aE (aM (cQ mF cI (aA (aH (aB 2) aC) aD)))))))),?_⟩
 decreasing_tactic
 refine ⟨by decide,fun ph hph=>⟨by decide,fun p0 hp0=>⟨by decide,fun pl hpl=>?_⟩⟩⟩
 have ks0:KS M (bC (bC (bC M ph []) p0 []) pl [D.ref p0]) ph pl [] [(p0,[])]:=by
  obtain ⟨n1,hp0'⟩:=iL hp0
  obtain ⟨n2,hpl'⟩:=iL hpl
  obtain ⟨n3,hpl''⟩:=iL hpl'
  refine ⟨by rw [bI (Ne.symm n3),bI (Ne.symm n1)];exact aI,aI,fun f hf=>?_,?_,fun a ha=>?_,gO (gO (gO (.refl _) hph) hp0') hpl''⟩
  ·rw [List.mem_singleton.mp hf]
   show bC _ pl _ (.l p0) = some []
   rw [bI (Ne.symm n2)];exact aI
  ·simp [n1,n2,n3,Ne.symm n1,Ne.symm n2,Ne.symm n3]
  ·simp at ha
   rcases ha with rfl | rfl | rfl
   ·exact hph
   ·exact hpl''
   ·exact hp0'
 generalize bC (bC (bC M ph []) p0 []) pl [D.ref p0] = M1 at ks0 ⊢
 refine ⟨_,ks0.sub _ _ ht,?_⟩
 refine ⟨fun i ρ M'=>∃ (hs:List Ln) (fs:List (Addr × List D)) (o3 o4 o5 o6:Option D),KS M M' ph pl (hs.map hdD) fs/\(∀ h ∈ hs,isO h)/\(fs.length = hs.length + 1/\hs.length<=i/\∀ f ∈ fs,f.2.length<=i)/\vld hs.length ((lsS rs).drop i)/\((lsS rs).drop i).foldl stL (hs,fs.map (·.2)) = ([],[bG rs])/\ρ = [some (.ref pt),some (.ref ph),some (.ref pl),o3,o4,o5,o6],?_,?_,?_,?_⟩
 ·refine ⟨[],[(p0,[])],none,none,none,none,ks0,(fun h hh=>by cases hh),⟨rfl,Nat.zero_le _,fun f hf=>by rw [List.mem_singleton.mp hf];exact Nat.zero_le _⟩,?_,?_,rfl⟩
  ·have:=aCh rs 0 [] trivial
   rw [List.append_nil] at this
   exact this
  ·exact aBY rs [] [] []
 ·rintro i ρ M' _ ⟨hs,fs,_,_,_,_,ks,_⟩
  exact ks.sub _ _ ht
 ·rintro i d ρ M' hd ⟨hs,fs,o3,o4,o5,o6,ks,ho,⟨hlen,b1,b2⟩,hv,hf,rfl⟩
  rw [List.getElem?_map] at hd
  cases hl:(lsS rs)[i]? with
  | none=>rw [hl] at hd;cases hd
  | some l =>
   rw [hl] at hd
   cases hd
   have li:=(List.getElem?_eq_some_iff.mp hl).1
   have edr:(lsS rs).drop i = l :: (lsS rs).drop (i + 1):=by
    rw [List.drop_eq_getElem_cons li,(List.getElem?_eq_some_iff.mp hl).2]
   rw [edr] at hv hf
   rw [List.foldl_cons] at hf
   have lvl:=lv l (List.mem_of_getElem? hl)
   decreasing_tactic
   refine ⟨rfl,l,rfl,lvl,fun M2 s2=>?_⟩
   have ks:=ks.mono s2
   clear s2
   decreasing_tactic
   cases l with
   | en =>
    cases hs with
    | nil=>exact hv.elim
    | cons h0 hs0 =>
     obtain ⟨hs,h,eh⟩:=wN (xs:=h0 :: hs0) (by simp)
     rw [eh] at ks ho hlen b1 hv hf
     rw [List.length_append,List.length_singleton] at hv hlen b1
     have nf:fs ≠ []:=fun z=>by rw [z] at hlen;simp at hlen
     obtain ⟨fs1,⟨r,e⟩,rfl⟩:=wN nf
     have nf1:fs1 ≠ []:=fun z=>by rw [z] at hlen;simp at hlen
     obtain ⟨gs,⟨q0,u⟩,rfl⟩:=wN nf1
     rw [aK]
     refine ifT (decide_eq_true rfl) ⟨by decide,fun pe hpe=>?_⟩
     have ks:=ks.mono (aW.new hpe [])
     have hpe2:bC M2 pe [] pe = some []:=aI
     generalize bC M2 pe [] = M3 at ks hpe2 ⊢
     clear hpe
     rw [List.map_append,List.map_cons,List.map_nil] at ks
     obtain ⟨n1,n2⟩:=ks.ne
     obtain ⟨o1,o2,_⟩:=opD (ho h (by simp))
     refine ⟨_,ks.hh,hpe2,?_⟩
     refine ifT (by simp) ?_
     have hr':=(n2 (r,e) (by simp))
     have hq':=(n2 (q0,u) (by simp))
     refine ⟨_,_,ks.hh,aD5,_,D.ref r,by rw [bI (Ne.symm n1)];exact ks.hl,by rw [List.map_append,List.map_cons,List.map_nil];exact aD5,?_⟩
     rw [o1,List.dropLast_concat,show (List.map (fun f=>D.ref f.1) (gs ++ [(q0,u)] ++ [(r,e)])).dropLast = (gs ++ [(q0,u)]).map (fun f=>D.ref f.1) by rw [List.map_append,List.map_cons,List.map_nil,List.dropLast_concat]]
     refine ⟨e,by rw [bI hr'.2,bI hr'.1];exact ks.it (r,e) (by simp),by decide,?_⟩
     have le:e.length<=i:=b2 (r,e) (by simp)
     have lu:u.length<=i:=b2 (q0,u) (by simp)
     refine ⟨by show (hw h).length + 1<=1000;omega,_,D.ref q0,aI,by rw [List.map_append];exact aA0,⟨u,by rw [bI hq'.2,bI hq'.1];exact ks.it (q0,u) (by simp)⟩,u,_,rfl,by rw [bI hq'.2,bI hq'.1];exact ks.it (q0,u) (by simp),by omega,?_⟩
     refine ⟨hs,gs ++ [(q0,u ++ [.tup (hw h ++ [.tup e])])],_,_,_,_,ks.pop _,fun x hx=>ho x (List.mem_append_left _ hx),⟨?_,by omega,fun f hf=>?_⟩,hv,?_,rfl⟩
     ·rw [List.length_append,List.length_append,List.length_singleton,List.length_singleton] at hlen
      rw [List.length_append,List.length_singleton];omega
     ·rcases List.mem_append.mp hf with hf | hf
      ·have:=b2 f (List.mem_append_left _ (List.mem_append_left _ hf));omega
      ·rw [List.mem_singleton.mp hf]
       show (u ++ [_]).length<=i + 1
       rw [List.length_append,List.length_singleton];omega
     ·rw [List.map_append,List.map_append,List.map_cons,List.map_nil,List.map_cons,List.map_nil,aA5] at hf
      rw [List.map_append,List.map_cons,List.map_nil]
      exact hf
   | pl p =>
    have nf:fs ≠ []:=fun z=>by rw [z] at hlen;simp at hlen
    obtain ⟨gs,⟨q0,u⟩,rfl⟩:=wN nf
    have lu:u.length<=i:=b2 (q0,u) (by simp)
    rw [aK]
    refine ifF (decide_eq_false fun z=>by cases aBb.mp z) ?_
    rw [show hdD (.pl p) = plD p from rfl,pU]
    decreasing_tactic
    refine ifF rfl ?_
    rw [qQ]
    decreasing_tactic
    refine ⟨_,rfl,.inl ⟨_,aDr p,?_⟩⟩
    decreasing_tactic
    refine ifF rfl ⟨_,D.ref q0,ks.hl,by rw [List.map_append];exact aA0,⟨u,ks.it (q0,u) (by simp)⟩,u,_,rfl,ks.it (q0,u) (by simp),by omega,?_⟩
    rw [<- pU]
    refine ⟨hs,gs ++ [(q0,u ++ [plD p])],_,_,_,_,ks.top _,ho,⟨?_,by omega,fun f hf=>?_⟩,?_,?_,rfl⟩
    ·rw [List.length_append,List.length_singleton] at hlen
     rw [List.length_append,List.length_singleton];omega
    ·rcases List.mem_append.mp hf with hf | hf
     ·have:=b2 f (List.mem_append_left _ hf);omega
     ·rw [List.mem_singleton.mp hf]
      show (u ++ [_]).length<=i + 1
      rw [List.length_append,List.length_singleton];omega
    ·generalize hs.length = k at hv ⊢
     cases k<;>exact hv
    ·rw [List.map_append,List.map_cons,List.map_nil] at hf ⊢
     rw [show stL (hs,gs.map (·.2) ++ [u]) (.pl p) = (hs,adT (gs.map (·.2) ++ [u]) (plD p)) from rfl,yW] at hf
     exact hf
   | ag n =>
    obtain ⟨o1,o2,k0,r0,o3',o4'⟩:=opD (l:=(Ln.ag n)) trivial
    rw [aK]
    refine ifF (decide_eq_false fun z=>by cases aBb.mp z) ?_
    rw [o1,o3']
    decreasing_tactic
    refine ifF rfl ?_
    rw [qQ]
    decreasing_tactic
    refine ⟨_,rfl,.inr ⟨o4',?_⟩⟩
    decreasing_tactic
    refine ifT rfl ⟨⟨_,ks.hh⟩,_,_,rfl,ks.hh,by rw [List.length_map];omega,?_⟩
    obtain ⟨n1,n2⟩:=ks.ne
    refine ⟨⟨_,by rw [bI (Ne.symm n1)];exact ks.hl⟩,by decide,fun p9 hp9=>?_⟩
    obtain ⟨np,hp1⟩:=iL hp9
    have npl:pl ≠ p9:=fun e=>by rw [<- e,ks.hl] at hp1;cases hp1
    refine ⟨_,_,rfl,by rw [bI npl,bI (Ne.symm n1)];exact ks.hl,by rw [List.length_map];omega,?_⟩
    have kp:=ks.push (.tup (.str k0 :: r0)) hp9
    refine ⟨hs ++ [(Ln.ag n)],fs ++ [(p9,[])],_,_,_,_,?_,?_,⟨?_,?_,?_⟩,?_,?_,rfl⟩
    ·rw [List.map_append,List.map_cons,List.map_nil,o1,o3'];exact kp
    ·intro x hx
     rcases List.mem_append.mp hx with hx | hx
     ·exact ho x hx
     ·rw [List.mem_singleton.mp hx];trivial
    ·rw [List.length_append,List.length_append,List.length_singleton,List.length_singleton,hlen]
    ·rw [List.length_append,List.length_singleton];omega
    ·intro f hf
     rcases List.mem_append.mp hf with hf | hf
     ·have:=b2 f hf;omega
     ·rw [List.mem_singleton.mp hf];exact Nat.zero_le _
    ·rw [List.length_append,List.length_singleton]
     generalize hs.length = k at hv ⊢
     cases k<;>exact hv
    ·rw [List.map_append];exact hf
   | kp =>
    obtain ⟨o1,o2,k0,r0,o3',o4'⟩:=opD (l:=Ln.kp) trivial
    rw [aK]
    refine ifF (decide_eq_false fun z=>by cases aBb.mp z) ?_
    rw [o1,o3']
    decreasing_tactic
    refine ifF rfl ?_
    rw [qQ]
    decreasing_tactic
    refine ⟨_,rfl,.inr ⟨o4',?_⟩⟩
    decreasing_tactic
    refine ifT rfl ⟨⟨_,ks.hh⟩,_,_,rfl,ks.hh,by rw [List.length_map];omega,?_⟩
    obtain ⟨n1,n2⟩:=ks.ne
    refine ⟨⟨_,by rw [bI (Ne.symm n1)];exact ks.hl⟩,by decide,fun p9 hp9=>?_⟩
    obtain ⟨np,hp1⟩:=iL hp9
    have npl:pl ≠ p9:=fun e=>by rw [<- e,ks.hl] at hp1;cases hp1
    refine ⟨_,_,rfl,by rw [bI npl,bI (Ne.symm n1)];exact ks.hl,by rw [List.length_map];omega,?_⟩
    have kp:=ks.push (.tup (.str k0 :: r0)) hp9
    refine ⟨hs ++ [Ln.kp],fs ++ [(p9,[])],_,_,_,_,?_,?_,⟨?_,?_,?_⟩,?_,?_,rfl⟩
    ·rw [List.map_append,List.map_cons,List.map_nil,o1,o3'];exact kp
    ·intro x hx
     rcases List.mem_append.mp hx with hx | hx
     ·exact ho x hx
     ·rw [List.mem_singleton.mp hx];trivial
    ·rw [List.length_append,List.length_append,List.length_singleton,List.length_singleton,hlen]
    ·rw [List.length_append,List.length_singleton];omega
    ·intro f hf
     rcases List.mem_append.mp hf with hf | hf
     ·have:=b2 f hf;omega
     ·rw [List.mem_singleton.mp hf];exact Nat.zero_le _
    ·rw [List.length_append,List.length_singleton]
     generalize hs.length = k at hv ⊢
     cases k<;>exact hv
    ·rw [List.map_append];exact hf
   | ev =>
    obtain ⟨o1,o2,k0,r0,o3',o4'⟩:=opD (l:=Ln.ev) trivial
    rw [aK]
    refine ifF (decide_eq_false fun z=>by cases aBb.mp z) ?_
    rw [o1,o3']
    decreasing_tactic
    refine ifF rfl ?_
    rw [qQ]
    decreasing_tactic
    refine ⟨_,rfl,.inr ⟨o4',?_⟩⟩
    decreasing_tactic
    refine ifT rfl ⟨⟨_,ks.hh⟩,_,_,rfl,ks.hh,by rw [List.length_map];omega,?_⟩
    obtain ⟨n1,n2⟩:=ks.ne
    refine ⟨⟨_,by rw [bI (Ne.symm n1)];exact ks.hl⟩,by decide,fun p9 hp9=>?_⟩
    obtain ⟨np,hp1⟩:=iL hp9
    have npl:pl ≠ p9:=fun e=>by rw [<- e,ks.hl] at hp1;cases hp1
    refine ⟨_,_,rfl,by rw [bI npl,bI (Ne.symm n1)];exact ks.hl,by rw [List.length_map];omega,?_⟩
    have kp:=ks.push (.tup (.str k0 :: r0)) hp9
    refine ⟨hs ++ [Ln.ev],fs ++ [(p9,[])],_,_,_,_,?_,?_,⟨?_,?_,?_⟩,?_,?_,rfl⟩
    ·rw [List.map_append,List.map_cons,List.map_nil,o1,o3'];exact kp
    ·intro x hx
     rcases List.mem_append.mp hx with hx | hx
     ·exact ho x hx
     ·rw [List.mem_singleton.mp hx];trivial
    ·rw [List.length_append,List.length_append,List.length_singleton,List.length_singleton,hlen]
    ·rw [List.length_append,List.length_singleton];omega
    ·intro f hf
     rcases List.mem_append.mp hf with hf | hf
     ·have:=b2 f hf;omega
     ·rw [List.mem_singleton.mp hf];exact Nat.zero_le _
    ·rw [List.length_append,List.length_singleton]
     generalize hs.length = k at hv ⊢
     cases k<;>exact hv
    ·rw [List.map_append];exact hf
 ·rintro ρ M' ⟨hs,fs,o3,o4,o5,o6,ks,ho,⟨hlen,b1,b2⟩,hv,hf,rfl⟩
  rw [List.length_map,List.drop_length,List.foldl_nil] at hf
  obtain rfl:hs = []:=congrArg Prod.fst hf
  replace hf:fs.map (·.2) = [bG rs]:=congrArg Prod.snd hf
  obtain ⟨f,rfl⟩:∃ f,fs = [f]:=by
   match fs,hlen with
   | [f],_=>exact ⟨f,rfl⟩
  have ef:f.2 = bG rs:=(List.cons.inj hf).1
  decreasing_tactic
  refine ⟨by decide,fun pe hpe=>⟨_,(aW.new hpe _) _ _ ks.hh,aI,ifF rfl ?_⟩⟩
  have ks:=ks.mono (aW.new hpe [])
  refine ⟨_,_,ks.hl,rfl,f.2,ks.it f (by simp),aZ ?_⟩
  rw [ef]
  exact q _ ks.sub
noncomputable def pR:DSp:=fun ds M Q=>∃ q:Rat,ds = [FQ q]/\BQ 110 q/\Q (.str (qt q)) M
noncomputable abbrev lK:Stmt:=top 70
theorem yS:aQ ["number"] ["number"] (aJ lK):=⟨rfl,rfl,rfl,by decide +kernel,rfl,by decide +kernel,by decide +kernel⟩
theorem vX (hF:bX K mg "number_text" lK ["number"]):Has P w K mg base 101 "number_text" ["number"] pR:=by
 refine Has.mkZ hF yS (fun ds M Q ⟨_,z,_⟩=>by rw [z];rfl) fun f cdv A outer s H ds M Q E hr h=>?_
 obtain ⟨x,rfl,bx,q⟩:=h
 refine ⟨_,(aE (aM (eJ (aP (bZ hr) (aH (aB 0) aC) aC) (aIw (aH (aB 0) aC)) (aIv (aH (aB 0) aC) (aH (aB 0) aC))))),?_⟩
 have b1:=vQ bx.1
 have b2:=vQ bx.2
 have l1:=Ty.nt_len b1
 have l2:=Ty.nt_len b2
 unfold qt at q
 decreasing_tactic
 rw [cK]
 by_cases c:x.den = 1
 ·rw [if_pos c] at q
  exact ifT (decide_eq_true (by rw [c];rfl)) ⟨Ty.log_small b1,aZ q⟩
 ·rw [if_neg c] at q
  rw [s47]
  have e1:(Ty.nt x.num ++ Ty.one 47).length<=1000000:=by
   rw [Ty.len_cl,Ty.cl_app,List.length_append];rw [Ty.len_cl] at l1;show _ + 1<=_;omega
  have e2:(Ty.nt x.num ++ Ty.one 47 ++ Ty.nt (x.den:Int)).length<=1000000:=by
   rw [Ty.len_cl,Ty.cl_app,Ty.cl_app,List.length_append,List.length_append];rw [Ty.len_cl] at l1 l2;show _ + 1 + _<=_;omega
  exact ifF (decide_eq_false (by omega)) ⟨Ty.log_small b1,e1,Ty.log_small b2,e2,aZ q⟩
theorem aHd (n:Nat):Str.ofString "again " ++ Ty.nt (n:Int) = lnT (.ag n):=by
 refine Ty.ext ?_
 unfold lnT
 rw [Ty.cl_app,Ty.cl_join]
 show _ = Ty.cl (Str.ofString "again") ++ 32 :: Ty.cl (Ty.nt (n:Int))
 rw [show Ty.cl (Str.ofString "again ") = Ty.cl (Str.ofString "again") ++ [32] by decide +kernel,List.append_assoc];rfl
noncomputable def LS (l:Ln):D:=.str (lnT l)
theorem aBk:∀ xs ys:List Rw,lsS (xs ++ ys) = lsS xs ++ lsS ys
 | [],ys=>by rw [lsS];rfl
 | x :: xs,ys=>by rw [List.cons_append,lsS,lsS,aBk xs ys,List.append_assoc]
theorem aF3 {rs:List Rw} {i:Nat} {r:Rw} (h:rs[i]? = some r):lsS (rs.take (i + 1)) = lsS (rs.take i) ++ lsR r:=by
 rw [eM h,aBk,lsS,lsS,List.append_nil]
theorem aJj {rs:List Rw} {i:Nat} {r:Rw} (h:rs[i]? = some r):∃ ys,lsS rs = lsS (rs.take i) ++ lsR r ++ ys:=by
 refine ⟨lsS (rs.drop (i + 1)),?_⟩
 rw [<- aF3 h,<- aBk,List.take_append_drop]
noncomputable def oH (d:Nat):DSp:=fun ds M Q=>∃ rs:List Rw,ds = [.tup (bG rs)]/\DpS d rs/\(∀ l ∈ lsS rs,lnV l)/\(lsS rs).length<=400/\∀ (p:Addr) (M':DM),aW M M'->M (.l p) = none->M' (.l p) = some ((lsS rs).map LS)->Q (.ref p) M'
noncomputable abbrev nX:Stmt:=top 69
theorem iE:aQ ["rows","lines","row","within"] ["rows"] (aJ nX):=⟨rfl,rfl,rfl,by decide +kernel,rfl,by decide +kernel,by decide +kernel⟩
theorem aAS (hF:bX K mg "lines_of" nX ["rows"]) (bO:Has P w K mg base 101 "rows_within" ["row"] fX) (lT:Has P w K mg base 101 "number_text" ["number"] pR):Has P w K mg base 118 "lines_of" ["rows"] (oH 8):=by
 have all:∀ d,Has P w K mg base (110 + d) "lines_of" ["rows"] (oH d):=fun d=>by
  induction d with
  | zero=>exact (Has.never hF iE 109).imp fun ds M Q ⟨rs,_,z,_⟩=>z
  | succ d kQ =>
   refine Has.mkZ (k:=110 + d) hF iE (fun ds M Q ⟨a,z,_⟩=>by rw [z];rfl) fun f cdv A outer s H ds M Q E hr h=>?_
   obtain ⟨rs,rfl,dp,lv,ln,q⟩:=h
   refine ⟨_,(aF (aO (i:=1) iE.nd (bR aD))
  (aF (iN PassesOwn.never rfl (aB 0) (aV (i:=2) iE.nd) (aF (aO (i:=3) iE.nd (aG bO hr (by omega) (aA (aB 2) aD)))
  (aE (aX (aP wW (aB 3) cZ) (aE (dD (dO (aB 1) (sN aN (aL cU (bR (aA (aH (aB 2) aC) aD)) (wL (⟨rfl,by decide +kernel,by decide +kernel,by decide +kernel,rfl,by decide +kernel⟩:qP ["rows","lines","row","within"] (aJ nX) ["number"] [none] _) rfl (iX (aB 2) (fO aC) kK) (fun _ _ _ _ _=>(aV (i:=0) (show List.Nodup (["number"]:List Str) by decide +kernel))) (fun _ _ _ _ _=>(aG lT hr (by omega) (aA (aB 0) aD))))))))) (aF (dD (dO (aB 1) (eJ (aP (bZ hr) (aH (aB 2) aC) aN) (aHp (aH (aB 2) aC)) (aH (aB 2) aC))))
  (aE (aGy (i:=1) iE.nd (aL cU (aG kQ hr (by omega) (aA (aB 3) aD)) (bR (aA aN aD))))))))))
  (aE (aM (aB 1))))),?_⟩
   decreasing_tactic
   refine ⟨by decide,fun pl hpl=>?_⟩
   refine ⟨fun i ρ M'=>aW M M'/\M' (.l pl) = some ((lsS (rs.take i)).map LS)/\∃ o2 o3,ρ = [some (.tup (bG rs)),some (.ref pl),o2,o3],⟨aW.new hpl _,by rw [List.take_zero,lsS];exact aI,none,none,rfl⟩,fun i ρ M' _ _ a e=>(by cases e),?_,?_⟩
   ·rintro i d1 ρ M1 hd ⟨sb,hl,o2,o3,rfl⟩
    obtain ⟨r,hr',rfl⟩:=fP hd
    have dr:=dp.2 r (List.mem_of_getElem? hr')
    obtain ⟨ys,ey⟩:=aJj hr'
    have l1:(lsS (rs.take i)).length + (lsR r).length<=400:=by rw [ey,List.length_append,List.length_append] at ln;omega
    have vr:∀ l ∈ lsR r,lnV l:=fun l hl=>lv l (by rw [ey];exact List.mem_append_left _ (List.mem_append_right _ hl))
    have nx:=aF3 hr'
    decreasing_tactic
    refine ⟨r,rfl,?_⟩
    cases r with
    | pl p =>
     rw [lsR] at vr l1 nx
     have vp:=vr (.pl p) (by simp)
     have nl:=aAu p
     dsimp only [inR]
     decreasing_tactic
     refine ifT rfl ⟨⟨_,hl⟩,?_⟩
     rw [show rwD (.pl p) = plD p by rw [rwD],pU]
     decreasing_tactic
     rw [qQ]
     decreasing_tactic
     refine ⟨by decide,fun p1 hp1=>?_⟩
     rw [yA]
     have s1:=aW.new hp1 [D.str (wd p)]
     have h1:bC M1 p1 [D.str (wd p)] (.l p1) = some [D.str (wd p)]:=aI
     generalize bC M1 p1 [D.str (wd p)] = M2 at s1 h1 ⊢
     refine ⟨by rw [List.length_map];omega,fun i ys M'=>M' = M2/\ys = ((nu p).take i).map (fun q=>D.str (qt q)),⟨rfl,rfl⟩,fun i ys M' _ _ a e=>(by cases e),?_,?_⟩
     ·rintro i d ys M' hd ⟨rfl,rfl⟩
      rw [List.getElem?_map] at hd
      cases e:(nu p)[i]? with
      | none=>rw [e] at hd;cases hd
      | some x =>
       rw [e] at hd
       cases hd
       decreasing_tactic
       exact ⟨x,rfl,vp x (List.mem_of_getElem? e),rfl,by rw [eM e,List.map_append];rfl⟩
     rintro ys M' _ ⟨rfl,rfl⟩ p2 hp2
     rw [List.length_map,List.take_length]
     have s2:=s1.trans (aW.new hp2 ((nu p).map fun q=>D.str (qt q)))
     obtain ⟨w1,w2⟩:=aBJ (l:=.pl p) vp
     refine ⟨_,_,(aW.new hp2 _) _ _ h1,aI,by rw [List.length_map];show 1 + _<=1000;omega,fun p3 hp3=>⟨lnW (.pl p),?_,?_,_,_,rfl,(s2.trans (aW.new hp3 _)) _ _ hl,by rw [List.length_map];omega,gO (sb.trans (s2.trans (aW.new hp3 _))) hpl,?_,_,_,rfl⟩⟩
     ·rw [aI]
      show some (D.str (wd p) :: (nu p).map fun q=>D.str (qt q)) = some (((wd p) :: (nu p).map qt).map D.str)
      rw [List.map_cons,List.map_map];rfl
     ·have:=yX w2
      rw [s32]
      show _ + _ * 1<=_
      omega
     ·rw [aI,nx,List.map_append,s32];rfl
    | ag n ws =>
     rw [lsR] at vr l1 nx
     rw [List.length_cons,List.length_append,List.length_singleton] at l1
     have vp:n<=12:=vr (.ag n) (by simp)
     have vw:∀ l ∈ lsS ws,lnV l:=fun l hl=>vr l (by simp [hl])
     dsimp only [inR]
     decreasing_tactic
     refine ifF rfl ⟨⟨_,hl⟩,?_⟩
     rw [show rwD (.ag n ws) = .tup [.str "again",.int (n:Int),.tup (bG ws)] by rw [rwD]]
     decreasing_tactic
     rw [aK]
     have n120:((n:Int)).natAbs < 2 ^ 120:=by show n < 2 ^ 120;omega
     refine ifT (by decide) ⟨Ty.log_small n120,?_⟩
     rw [show Str.ofString "again " ++ Str.ofString (toString (n:Int)) = lnT (.ag n) from aHd n]
     have ll:=tH (l:=.ag n) vp
     refine ⟨by omega,_,_,rfl,hl,by rw [List.length_map];omega,?_⟩
     have sb1:aW M (bC M1 pl ((lsS (rs.take i)).map LS ++ [D.str (lnT (.ag n))])):=gO sb hpl
     have hl1:bC M1 pl ((lsS (rs.take i)).map LS ++ [D.str (lnT (.ag n))]) (.l pl) = some ((lsS (rs.take i)).map LS ++ [D.str (lnT (.ag n))]):=aI
     generalize bC M1 pl ((lsS (rs.take i)).map LS ++ [D.str (lnT (.ag n))]) = M2 at sb1 hl1 ⊢
     dsimp only [aAA]
     decreasing_tactic
     refine ⟨ws,rfl,(kN dr).2,vw,by omega,fun p2 M3 s3 hp2 h2=>?_⟩
     decreasing_tactic
     refine ⟨by decide,fun p3 hp3=>?_⟩
     have s3':=s3.trans (aW.new hp3 [D.str "end"])
     refine ⟨_,_,(aW.new hp3 _) _ _ h2,aI,by rw [List.length_map];show _ + 1<=1000;omega,fun p4 hp4=>?_⟩
     have s4:=s3'.trans (aW.new hp4 ((lsS ws).map LS ++ [D.str "end"]))
     dsimp only [xH]
     refine ⟨_,_,s4 _ _ hl1,aI,by rw [List.length_append,List.length_append,List.length_map,List.length_map,List.length_singleton,List.length_singleton];omega,gO (sb1.trans s4) hpl,?_,_,_,rfl⟩
     rw [aI,nx,List.map_append,List.map_cons,List.map_append,List.map_cons,List.map_nil,List.append_assoc]
     rfl
    | kp ws =>
     rw [lsR] at vr l1 nx
     rw [List.length_cons,List.length_append,List.length_singleton] at l1
     have vw:∀ l ∈ lsS ws,lnV l:=fun l hl=>vr l (by simp [hl])
     dsimp only [inR]
     decreasing_tactic
     refine ifF rfl ⟨⟨_,hl⟩,?_⟩
     rw [show rwD (.kp ws) = .tup [.str "keep",.tup (bG ws)] by rw [rwD]]
     decreasing_tactic
     rw [aK]
     refine ifF (by decide) ?_
     rw [show D.str (Str.ofString "keep") = D.str (lnT .kp) from rfl]
     have ll:=tH (l:=.kp) trivial
     refine ⟨_,_,rfl,hl,by rw [List.length_map];omega,?_⟩
     have sb1:aW M (bC M1 pl ((lsS (rs.take i)).map LS ++ [D.str (lnT .kp)])):=gO sb hpl
     have hl1:bC M1 pl ((lsS (rs.take i)).map LS ++ [D.str (lnT .kp)]) (.l pl) = some ((lsS (rs.take i)).map LS ++ [D.str (lnT .kp)]):=aI
     generalize bC M1 pl ((lsS (rs.take i)).map LS ++ [D.str (lnT .kp)]) = M2 at sb1 hl1 ⊢
     dsimp only [aAA]
     decreasing_tactic
     refine ⟨ws,rfl,oE dr,vw,by omega,fun p2 M3 s3 hp2 h2=>?_⟩
     decreasing_tactic
     refine ⟨by decide,fun p3 hp3=>?_⟩
     have s3':=s3.trans (aW.new hp3 [D.str "end"])
     refine ⟨_,_,(aW.new hp3 _) _ _ h2,aI,by rw [List.length_map];show _ + 1<=1000;omega,fun p4 hp4=>?_⟩
     have s4:=s3'.trans (aW.new hp4 ((lsS ws).map LS ++ [D.str "end"]))
     dsimp only [xH]
     refine ⟨_,_,s4 _ _ hl1,aI,by rw [List.length_append,List.length_append,List.length_map,List.length_map,List.length_singleton,List.length_singleton];omega,gO (sb1.trans s4) hpl,?_,_,_,rfl⟩
     rw [aI,nx,List.map_append,List.map_cons,List.map_append,List.map_cons,List.map_nil,List.append_assoc]
     rfl
    | ev ws =>
     rw [lsR] at vr l1 nx
     rw [List.length_cons,List.length_append,List.length_singleton] at l1
     have vw:∀ l ∈ lsS ws,lnV l:=fun l hl=>vr l (by simp [hl])
     dsimp only [inR]
     decreasing_tactic
     refine ifF rfl ⟨⟨_,hl⟩,?_⟩
     rw [show rwD (.ev ws) = .tup [.str "ever",.tup (bG ws)] by rw [rwD]]
     decreasing_tactic
     rw [aK]
     refine ifF (by decide) ?_
     rw [show D.str (Str.ofString "ever") = D.str (lnT .ev) from rfl]
     have ll:=tH (l:=.ev) trivial
     refine ⟨_,_,rfl,hl,by rw [List.length_map];omega,?_⟩
     have sb1:aW M (bC M1 pl ((lsS (rs.take i)).map LS ++ [D.str (lnT .ev)])):=gO sb hpl
     have hl1:bC M1 pl ((lsS (rs.take i)).map LS ++ [D.str (lnT .ev)]) (.l pl) = some ((lsS (rs.take i)).map LS ++ [D.str (lnT .ev)]):=aI
     generalize bC M1 pl ((lsS (rs.take i)).map LS ++ [D.str (lnT .ev)]) = M2 at sb1 hl1 ⊢
     dsimp only [aAA]
     decreasing_tactic
     refine ⟨ws,rfl,mJ dr,vw,by omega,fun p2 M3 s3 hp2 h2=>?_⟩
     decreasing_tactic
     refine ⟨by decide,fun p3 hp3=>?_⟩
     have s3':=s3.trans (aW.new hp3 [D.str "end"])
     refine ⟨_,_,(aW.new hp3 _) _ _ h2,aI,by rw [List.length_map];show _ + 1<=1000;omega,fun p4 hp4=>?_⟩
     have s4:=s3'.trans (aW.new hp4 ((lsS ws).map LS ++ [D.str "end"]))
     dsimp only [xH]
     refine ⟨_,_,s4 _ _ hl1,aI,by rw [List.length_append,List.length_append,List.length_map,List.length_map,List.length_singleton,List.length_singleton];omega,gO (sb1.trans s4) hpl,?_,_,_,rfl⟩
     rw [aI,nx,List.map_append,List.map_cons,List.map_append,List.map_cons,List.map_nil,List.append_assoc]
     rfl
   ·rintro ρ M' ⟨sb,hl,o2,o3,rfl⟩
    rw [cL,List.take_length] at hl
    exact aZ (q pl M' sb hpl hl)
 exact all 8
noncomputable def txt (rs:List Rw):Str:=Builtin.Str.glued (Ty.one 10) ((lsS rs).map lnT)
theorem aOw {p:Pl} (h:plB 100 p):∀ x ∈ nu p,BQ 100 x:=by
 intro x hx
 cases p with
 | go a=>exact List.mem_singleton.mp hx ▸ h
 | skip a=>exact List.mem_singleton.mp hx ▸ h
 | grow a=>exact List.mem_singleton.mp hx ▸ h.1
 | quarter a=>exact List.mem_singleton.mp hx ▸ h.1
 | half a=>exact List.mem_singleton.mp hx ▸ h.1
 | side a b =>
  simp only [nu,List.mem_cons,List.not_mem_nil,or_false] at hx
  rcases hx with rfl | rfl
  ·exact h.1
  ·exact h.2
 | arc a b c d =>
  simp only [nu,List.mem_cons,List.not_mem_nil,or_false] at hx
  obtain ⟨b1,b2,b3,b4,_⟩:=h
  rcases hx with rfl | rfl | rfl | rfl
  ·exact b1
  ·exact b2
  ·exact b3
  ·exact b4
 | _=>cases hx
structure Gd (rs:List Rw):Prop where
 gw:gwS 690 rs
 dp:∀ r ∈ rs,Dp 4 r
 ve:vES false rs
 va:∃ A,alS (FA A) rs
 lt:ltS rs
 hm:hmS rs<=60
mutual
theorem aOe {A:Nat}:∀ r:Rw,alR (FA A) r->ltR r->∀ l ∈ lsR r,lnV l
 | .pl p,h,_,l,hl=>by
  rw [lsR] at hl
  rw [alR] at h
  rw [List.mem_singleton.mp hl]
  exact fun q hq=>(aOw h.2 q hq).mono (by decide)
 | .ag n ws,h,t,l,hl=>by
  rw [lsR] at hl
  rw [alR] at h
  rw [ltR] at t
  rcases List.mem_cons.mp hl with rfl | hl
  ·exact t.1
  ·rcases List.mem_append.mp hl with hl | hl
   ·exact aHc ws h t.2 l hl
   ·rw [List.mem_singleton.mp hl];trivial
 | .kp ws,h,t,l,hl=>by
  rw [lsR] at hl
  rw [alR] at h
  rw [ltR] at t
  rcases List.mem_cons.mp hl with rfl | hl
  ·trivial
  ·rcases List.mem_append.mp hl with hl | hl
   ·exact aHc ws h t l hl
   ·rw [List.mem_singleton.mp hl];trivial
 | .ev ws,h,t,l,hl=>by
  rw [lsR] at hl
  rw [alR] at h
  rw [ltR] at t
  rcases List.mem_cons.mp hl with rfl | hl
  ·trivial
  ·rcases List.mem_append.mp hl with hl | hl
   ·exact aHc ws h t l hl
   ·rw [List.mem_singleton.mp hl];trivial
theorem aHc {A:Nat}:∀ rs:List Rw,alS (FA A) rs->ltS rs->∀ l ∈ lsS rs,lnV l
 | [],_,_,l,hl=>by rw [lsS] at hl;cases hl
 | r :: rs,h,t,l,hl=>by
  rw [lsS] at hl
  rw [alS] at h
  rw [ltS] at t
  rcases List.mem_append.mp hl with hl | hl
  ·exact aOe r h.1 t.1 l hl
  ·exact aHc rs h.2 t.2 l hl
end
mutual
theorem aIj:∀ r:Rw,(lsR r).length<=2 * hmR r
 | .pl p=>by rw [lsR,hmR];show 1<=2;decide
 | .ag n ws=>by rw [lsR,hmR,List.length_cons,List.length_append,List.length_singleton];have:=sT ws;omega
 | .kp ws=>by rw [lsR,hmR,List.length_cons,List.length_append,List.length_singleton];have:=sT ws;omega
 | .ev ws=>by rw [lsR,hmR,List.length_cons,List.length_append,List.length_singleton];have:=sT ws;omega
theorem sT:∀ rs:List Rw,(lsS rs).length<=2 * hmS rs
 | []=>by rw [lsS,hmS];exact Nat.le_refl _
 | r :: rs=>by rw [lsS,hmS,List.length_append];have:=aIj r;have:=sT rs;omega
end
theorem Gd.lv {rs:List Rw} (h:Gd rs):∀ l ∈ lsS rs,lnV l:=let ⟨_,a⟩:=h.va;aHc rs a h.lt
theorem Gd.ln {rs:List Rw} (h:Gd rs):(lsS rs).length<=120:=by have:=sT rs;have:=h.hm;omega
theorem Gd.sum {rs:List Rw} (h:Gd rs):(((lsS rs).map lnT).map (·.length)).sum<=60000:=by
 have:=yX (b:=405) (xs:=(lsS rs).map lnT) fun x hx=>by
  obtain ⟨l,hl,rfl⟩:=List.mem_map.mp hx
  exact tH (h.lv l hl)
 rw [List.length_map] at this
 have:=h.ln
 omega
theorem Gd.len {rs:List Rw} (h:Gd rs):(txt rs).length<=70000:=by
 unfold txt
 rw [size_glued]
 have:=h.sum
 have:=h.ln
 rw [List.length_map]
 show _ + _ * 1<=_
 omega
theorem Gd.d8 {rs:List Rw} (h:Gd rs):DpS 8 rs:=⟨by have:=aA1 rs;have:=h.hm;omega,fun r hr=>kB (d':=7) (h.dp r hr) (by decide)⟩
theorem aGl (ls:List Ln):ls.map LS = (ls.map lnT).map D.str:=by rw [List.map_map];rfl
noncomputable def xE:DSp:=fun ds M Q=>∃ rs:List Rw,ds = [.tup (bG rs)]/\Gd rs/\∀ M',aW M M'->Q (.str (txt rs)) M'
noncomputable abbrev uY:Stmt:=top 68
theorem aDs:aQ ["program"] ["program"] (aJ uY):=⟨rfl,rfl,rfl,by decide +kernel,rfl,by decide +kernel,by decide +kernel⟩
theorem aCs (hF:bX K mg "written" uY ["program"]) (kQ:Has P w K mg base 118 "lines_of" ["rows"] (oH 8)):Has P w K mg base 119 "written" ["program"] xE:=by
 refine Has.mkZ hF aDs (fun ds M Q ⟨_,z,_⟩=>by rw [z];rfl) fun f cdv A outer s H ds M Q E hr h=>?_
 obtain ⟨rs,rfl,gd,q⟩:=h
 refine ⟨_,(aE (aM (sN aN (aG kQ hr (by decide) (aA (aB 0) aD))))),?_⟩
 decreasing_tactic
 refine ⟨rs,rfl,gd.d8,gd.lv,by have:=gd.ln;omega,fun p M' sb hp h1=>?_⟩
 decreasing_tactic
 refine ⟨(lsS rs).map lnT,by rw [h1,aGl],?_,?_⟩
 ·rw [s10,List.length_map]
  have:=gd.sum
  have:=gd.ln
  show _ + _ * 1<=_
  omega
 ·rw [s10]
  exact aZ (q _ sb)
theorem aKx (l:Ln):0 < (lnT l).length:=by
 unfold lnT
 rw [size_glued]
 have:∃ x r,lnW l = x :: r/\0 < x.length:=by
  cases l with
  | pl p =>
   refine ⟨_,_,rfl,?_⟩
   have h:∀ x ∈ [("go":Str),"side","skip","dot","left","right","round","mirror","grow","quarter","half","arc"],0 < x.length:=by decide +kernel
   exact h _ (by cases p<;>dsimp only [wd]<;>decide)
  | ag n=>exact ⟨_,_,rfl,by decide +kernel⟩
  | kp=>exact ⟨_,_,rfl,by decide +kernel⟩
  | ev=>exact ⟨_,_,rfl,by decide +kernel⟩
  | en=>exact ⟨_,_,rfl,by decide +kernel⟩
 obtain ⟨x,r,e,h⟩:=this
 rw [e,List.map_cons,List.sum_cons]
 omega
theorem aJ7 {rs:List Rw} (h:rs ≠ []):(lsS rs).map lnT ≠ []/\txt rs ≠ Str.ofString "":=by
 cases rs with
 | nil=>exact absurd rfl h
 | cons r rs =>
  have:∃ l ls,lsS (r :: rs) = l :: ls:=by
   rw [lsS]
   cases r<;>rw [lsR]<;>exact ⟨_,_,rfl⟩
  obtain ⟨l,ls,e⟩:=this
  refine ⟨by rw [e];simp,fun z=>?_⟩
  have:0 < (txt (r :: rs)).length:=by
   unfold txt
   rw [size_glued,e,List.map_cons,List.map_cons,List.sum_cons]
   have:=aKx l
   omega
  rw [z] at this
  exact absurd this (by decide +kernel)
noncomputable def aD8:DSp:=fun ds M Q=>∃ rs:List Rw,ds = [.str (txt rs)]/\Gd rs/\∀ M',aW M M'->Q (.tup (bG rs)) M'
noncomputable abbrev aC5:Stmt:=top 71
theorem aIY:aQ ["text"] ["text"] (aJ aC5):=⟨rfl,rfl,rfl,by decide +kernel,rfl,by decide +kernel,by decide +kernel⟩
theorem aFS (hF:bX K mg "read" aC5 ["text"]) (uP:Has P w K mg base 105 "rows_of" ["lines"] xK) (nN:Has P w K mg base 129 "program_of" ["rows"] lU):Has P w K mg base 130 "read" ["text"] aD8:=by
 refine Has.mkZ hF aIY (fun ds M Q ⟨_,z,_⟩=>by rw [z];rfl) fun f cdv A outer s H ds M Q E hr h=>?_
 obtain ⟨rs,rfl,gd,q⟩:=h
 refine ⟨_,(aE (aM (aG nN hr (by decide) (aA (eJ (aP (mE hr) (aB 0) aN) (aG uP hr (by decide) (aA (aAo (aB 0) aN) aD)) (aR aD)) aD)))),?_⟩
 have ll:=gd.len
 have ln:=gd.ln
 have fin:∀ M',aW M M'->lU [.tup (bG rs)] M' (Dn Q):=fun M' sb=>by
  obtain ⟨A,va⟩:=gd.va
  obtain ⟨c,hc⟩:=aBX rs 4 false 0 [] gd.ve gd.dp rfl (by decide)
  refine ⟨ofS rs,by rw [aJr],by rw [mX];exact gd.d8,⟨xN rs va gd.lt,zF rs gd.gw⟩,by rw [mX];exact gd.hm,⟨c,hc⟩,?_⟩
  rw [aJr]
  exact aZ (q _ sb)
 decreasing_tactic
 rw [aK]
 by_cases c:rs = []
 ·subst c
  refine ifF (by rw [decide_eq_true (show txt [] = Str.ofString "" by unfold txt;rw [lsS];rfl)];rfl) ?_
  have:=fin M (.refl _)
  rw [bG] at this
  exact ⟨by decide,this⟩
 ·obtain ⟨t1,t2⟩:=aJ7 c
  refine ifT (by rw [decide_eq_false t2];rfl) ⟨10,(lsS rs).map lnT,s10,rfl,t1,fun s hs=>?_,by decide,by omega,fun p hp=>?_⟩
  ·obtain ⟨l,_,rfl⟩:=List.mem_map.mp hs
   exact aHo l
  ·decreasing_tactic
   refine ⟨p,rs,rfl,by rw [aI,List.map_map];rfl,gd.lv,by omega,fun M' sb=>?_⟩
   exact fin M' ((aW.new hp _).trans sb)
noncomputable def hZ:DSp:=fun ds M Q=>(∃ q:Rat,ds = [FQ q]/\BQ 110 q/\Q (.str (qt q)) M) ∨ (∃ n:Nat,ds = [.int (n:Int)]/\n<=12/\Q (.str (Ty.nt (n:Int))) M)
noncomputable abbrev iP:Stmt:=top 91
theorem sB:aQ ["_law_number"] ["_law_number"] (aJ iP):=⟨rfl,rfl,rfl,by decide +kernel,rfl,by decide +kernel,by decide +kernel⟩
theorem qO (hF:bX K mg "_law_number_text" iP ["_law_number"]) (aY:mg "isinstance" = none) (gK:mg "int" = none) (kT:mg "str" = none):Has P w K mg base 101 "_law_number_text" ["_law_number"] hZ:=by
 refine Has.mkZ hF sB (fun ds M Q h=>by rcases h with ⟨_,z,_⟩ | ⟨_,z,_⟩<;>rw [z]<;>rfl) fun f cdv A outer s H ds M Q E hr h=>?_
 refine ⟨_,(aF (aX (cX (fV (aB 0) aY gK)) (aE (aM (cQ aC9 kT (aA (aB 0) aD)))) aT)
  (aE (aM (aL aDB (cQ aC9 kT (aA (aH (aB 0) aC) aD)) (aL aIc (aL aDB aN (cQ aC9 kT (aA (aH (aB 0) aC) aD))) (cQ uQ gK (aA (cS iD (aH (aB 0) aC) aC) aD))))))),?_⟩
 rcases h with ⟨x,rfl,bx,q⟩ | ⟨n,rfl,hn,q⟩
 ·have b1:=vQ bx.1
  have b2:=vQ bx.2
  have l1:=Ty.nt_len b1
  have l2:=Ty.nt_len b2
  have dp:=x.den_pos
  unfold qt at q
  rw [show FQ x = D.tup [.int x.num,.int (x.den:Int)] from rfl]
  decreasing_tactic
  refine .inl ⟨_,_,rfl,rfl,ifF rfl ⟨Ty.log_small b1,Ty.log_small b2,?_,?_⟩⟩
  ·show (Str.ofString "/").length + (Ty.nt (x.den:Int)).length<=1000000
   rw [show (Str.ofString "/").length = 1 by decide +kernel];omega
  decreasing_tactic
  by_cases c:x.den = 1
  ·rw [if_pos c] at q
   have e0:decide ((1:Int) < (x.den:Int)) = false:=decide_eq_false (by rw [c];decide)
   rw [e0]
   refine ⟨.inl rfl,?_,?_⟩
   ·rw [if_neg (by decide)]
    show (Ty.nt x.num).length + 0<=1000000
    omega
   ·rw [if_neg (by decide),Str.append_empty]
    exact aZ q
  ·rw [if_neg c] at q
   have e0:decide ((1:Int) < (x.den:Int)) = true:=decide_eq_true (by omega)
   rw [e0]
   refine ⟨.inr rfl,?_,?_⟩
   ·rw [if_pos (by decide)]
    show (Ty.nt x.num).length + (Str.ofString "/" ++ Ty.nt (x.den:Int)).length<=1000000
    rw [Str.length_append,show (Str.ofString "/").length = 1 by decide +kernel]
    omega
   ·rw [if_pos (by decide),<- Str.append_assoc,s47]
    exact aZ q
 ·have n120:((n:Int)).natAbs < 2 ^ 120:=by show n < 2 ^ 120;omega
  decreasing_tactic
  exact .inl ⟨_,_,rfl,rfl,ifT rfl ⟨Ty.log_small n120,aZ q⟩⟩
noncomputable def hdL:Rw->Ln
 | .pl p=>.pl p
 | .ag n _=>.ag n
 | .kp _=>.kp
 | .ev _=>.ev
noncomputable def mrL:Rw->List Ln
 | .pl _=>[]
 | .ag _ ws=>lsS ws ++ [.en]
 | .kp ws=>lsS ws ++ [.en]
 | .ev ws=>lsS ws ++ [.en]
noncomputable def w0:Rw->Str
 | .pl p=>wd p
 | .ag _ _=>"again"
 | .kp _=>"keep"
 | .ev _=>"ever"
noncomputable def nmD:Rw->List D
 | .pl p=>(nu p).map FQ
 | .ag n _=>[.int (n:Int)]
 | _=>[]
noncomputable def nmT:Rw->List Str
 | .pl p=>(nu p).map qt
 | .ag n _=>[Ty.nt (n:Int)]
 | _=>[]
theorem aJa (r:Rw):lsR r = hdL r :: mrL r:=by cases r<;>rw [lsR]<;>rfl
theorem aMa (r:Rw):lnW (hdL r) = w0 r :: nmT r:=by cases r<;>rfl
noncomputable def rsD:Rw->List D
 | .pl p=>(nu p).map FQ
 | .ag n ws=>[.int (n:Int),.tup (bG ws)]
 | .kp ws=>[.tup (bG ws)]
 | .ev ws=>[.tup (bG ws)]
theorem aI0 (r:Rw):rwD r = .tup (.str (w0 r) :: rsD r):=by
 cases r with
 | pl p=>rw [rwD,pU];rfl
 | ag n ws=>rw [rwD];rfl
 | kp ws=>rw [rwD];rfl
 | ev ws=>rw [rwD];rfl
theorem aLj (r:Rw):(nmD r).length<=4/\(nmT r).length = (nmD r).length:=by
 cases r with
 | pl p=>exact ⟨by show ((nu p).map FQ).length<=4;rw [List.length_map];exact aAu p,by show ((nu p).map qt).length = ((nu p).map FQ).length;rw [List.length_map,List.length_map]⟩
 | ag n ws=>exact ⟨Nat.le_of_ble_eq_true rfl,rfl⟩
 | kp ws=>exact ⟨by show 0<=4;decide,rfl⟩
 | ev ws=>exact ⟨by show 0<=4;decide,rfl⟩
theorem aHy {r:Rw} (v:lnV (hdL r)) {i:Nat} {d:D} (h:(nmD r)[i]? = some d):∃ t,(nmT r)[i]? = some t/\∀ (M:DM) (Q:DQ),Q (.str t) M->hZ [d] M Q:=by
 cases r with
 | pl p =>
  have h:((nu p).map FQ)[i]? = some d:=h
  rw [List.getElem?_map] at h
  cases e:(nu p)[i]? with
  | none=>rw [e] at h;cases h
  | some x =>
   rw [e] at h
   cases h
   refine ⟨qt x,by show ((nu p).map qt)[i]? = _;rw [List.getElem?_map,e];rfl,fun M Q q=>.inl ⟨x,rfl,v x (List.mem_of_getElem? e),q⟩⟩
 | ag n ws =>
  have h:[D.int (n:Int)][i]? = some d:=h
  have i0:i = 0:=by
   have:=(List.getElem?_eq_some_iff.mp h).1
   rw [List.length_singleton] at this
   omega
  subst i0
  cases h
  exact ⟨_,rfl,fun M Q q=>.inr ⟨n,rfl,v,q⟩⟩
 | kp ws=>cases h
 | ev ws=>cases h
noncomputable def mS (d:Nat):DSp:=fun ds M Q=>∃ rs:List Rw,ds = [.tup (bG rs)]/\DpS d rs/\(∀ l ∈ lsS rs,lnV l)/\(lsS rs).length<=400/\∀ (p:Addr) (M':DM),aW M M'->M' (.l p) = some ((lsS rs).map LS)->Q (.ref p) M'
noncomputable abbrev kU:Stmt:=top 92
theorem dZ:aQ ["_law_rows","_law_lines_here","_law_row_here","_law_numbers","_law_more"] ["_law_rows"] (aJ kU):=⟨rfl,rfl,rfl,by decide +kernel,rfl,by decide +kernel,by decide +kernel⟩
theorem aAb (hF:bX K mg "_law_lines" kU ["_law_rows"]) (iU:Has P w K mg base 101 "_law_number_text" ["_law_number"] hZ):Has P w K mg base 118 "_law_lines" ["_law_rows"] (mS 8):=by
 have all:∀ d,Has P w K mg base (110 + d) "_law_lines" ["_law_rows"] (mS d):=fun d=>by
  induction d with
  | zero=>exact (Has.never hF dZ 109).imp fun ds M Q ⟨rs,_,z,_⟩=>z
  | succ d jH =>
   refine Has.mkZ (k:=110 + d) hF dZ (fun ds M Q ⟨a,z,_⟩=>by rw [z];rfl) fun f cdv A outer s H ds M Q E hr h=>?_
   obtain ⟨rs,rfl,dp,lv,ln,q⟩:=h
   refine ⟨_,(aF (aO (i:=1) dZ.nd (bR aD))
  (aF (iN PassesOwn.never rfl (aB 0) (aV (i:=2) dZ.nd) (aF (aO (i:=3) dZ.nd (iX (aB 2) (fO aC) kK))
  (aF (aO (i:=4) dZ.nd (bR aD))
  (gR (aX (aP vT (aH (aB 2) aC) (bR (aA aN (aA aN (aA aN aD)))) rfl) (aF (aO (i:=3) dZ.nd (iX (aB 2) (fO aC) (fO (eL aC))))
  (aE (aO (i:=4) dZ.nd (aL cU (aG jH hr (by omega) (aA (aH (aB 2) (eL aC)) aD)) (bR (aA aN aD)))))) aT)
  (aE (aO (i:=1) dZ.nd (aL cU (aL cU (aB 1) (bR (aA (sN aN (aL cU (bR (aA (aH (aB 2) aC) aD)) (wL (⟨rfl,by decide +kernel,by decide +kernel,by decide +kernel,rfl,by decide +kernel⟩:qP ["_law_rows","_law_lines_here","_law_row_here","_law_numbers","_law_more"] (aJ kU) ["_law_number"] [none] _) rfl (aB 3) (fun _ _ _ _ _=>(aV (i:=0) (show List.Nodup (["_law_number"]:List Str) by decide +kernel))) (fun _ _ _ _ _=>(aG iU hr (by omega) (aA (aB 0) aD)))))) aD))) (aB 4))))))))
  (aE (aM (aB 1))))),?_⟩
   decreasing_tactic
   refine ⟨by decide,fun pl hpl=>?_⟩
   refine ⟨fun i ρ M'=>aW M M'/\∃ p,M' (.l p) = some ((lsS (rs.take i)).map LS)/\∃ o2 o3 o4,ρ = [some (.tup (bG rs)),some (.ref p),o2,o3,o4],⟨aW.new hpl _,pl,by rw [List.take_zero,lsS];exact aI,none,none,none,rfl⟩,fun i ρ M' _ _ a e=>(by cases e),?_,?_⟩
   ·rintro i d1 ρ M1 hd ⟨sb,pl,hl,o2,o3,o4,rfl⟩
    obtain ⟨r,hr',rfl⟩:=fP hd
    have dr:=dp.2 r (List.mem_of_getElem? hr')
    obtain ⟨ys,ey⟩:=aJj hr'
    have l1:(lsS (rs.take i)).length + (lsR r).length<=400:=by rw [ey,List.length_append,List.length_append] at ln;omega
    have vr:∀ l ∈ lsR r,lnV l:=fun l hl=>lv l (by rw [ey];exact List.mem_append_left _ (List.mem_append_right _ hl))
    have nx:=aF3 hr'
    have vh:lnV (hdL r):=vr _ (by rw [aJa];exact List.mem_cons_self ..)
    rw [aJa] at nx l1
    rw [List.length_cons] at l1
    rw [aI0]
    decreasing_tactic
    rw [yA]
    refine ⟨by decide,fun p0 hp0=>?_⟩
    have s0:=aW.new hp0 []
    have h0:bC M1 p0 [] (.l p0) = some []:=aI
    generalize bC M1 p0 [] = M2 at s0 h0 ⊢
    refine ⟨fun ρ M'=>aW M1 M'/\∃ pm,M' (.l pm) = some ((mrL r).map LS)/\ρ = [some (.tup (bG rs)),some (.ref pl),some (.tup (.str (w0 r) :: rsD r)),some (.tup (nmD r)),some (.ref pm)],?_,?_⟩
    ·rw [qQ]
     decreasing_tactic
     refine ⟨by decide,fun p1 hp1=>⟨[("again":Str),"keep","ever"],aI,?_⟩⟩
     have s1:=s0.trans (aW.new hp1 [D.str "again",.str "keep",.str "ever"])
     have h1:=(aW.new hp1 [D.str "again",.str "keep",.str "ever"]) _ _ h0
     generalize bC M2 p1 _ = M3 at s1 h1 ⊢
     cases r with
     | pl p =>
      obtain ⟨n1,n2,n3,_⟩:=tO p
      refine ifF (by show ([("again":Str),"keep","ever"].any fun x=>x == wd p) = false;simp [n1.symm,n2.symm,n3.symm]) ⟨s1,p0,h1,rfl⟩
     | ag n ws =>
      refine ifT (by show ([("again":Str),"keep","ever"].any fun x=>x == "again") = true;decide) ?_
      have lw:(lsS ws).length + 1<=399:=by
       have:(mrL (.ag n ws)).length = (lsS ws).length + 1:=(by show (lsS ws ++ [Ln.en]).length = _;rw [List.length_append];rfl)
       omega
      dsimp only [w0,rsD]
      decreasing_tactic
      refine ⟨ws,rfl,(kN dr).2,(fun l hl=>vr l (by rw [lsR];simp [hl])),by omega,fun p2 M4 s4 h2=>⟨by decide,fun p3 hp3=>?_⟩⟩
      refine ⟨_,_,(aW.new hp3 _) _ _ h2,aI,by rw [List.length_map];show _ + 1<=1000;omega,fun p4 hp4=>⟨s1.trans (s4.trans ((aW.new hp3 _).trans (aW.new hp4 _))),p4,?_,rfl⟩⟩
      rw [aI]
      show _ = some ((lsS ws ++ [Ln.en]).map LS)
      rw [List.map_append];rfl
     | kp ws =>
      refine ifT (by show ([("again":Str),"keep","ever"].any fun x=>x == "keep") = true;decide) ?_
      have lw:(lsS ws).length + 1<=399:=by
       have:(mrL (.kp ws)).length = (lsS ws).length + 1:=(by show (lsS ws ++ [Ln.en]).length = _;rw [List.length_append];rfl)
       omega
      dsimp only [w0,rsD]
      decreasing_tactic
      refine ⟨ws,rfl,oE dr,(fun l hl=>vr l (by rw [lsR];simp [hl])),by omega,fun p2 M4 s4 h2=>⟨by decide,fun p3 hp3=>?_⟩⟩
      refine ⟨_,_,(aW.new hp3 _) _ _ h2,aI,by rw [List.length_map];show _ + 1<=1000;omega,fun p4 hp4=>⟨s1.trans (s4.trans ((aW.new hp3 _).trans (aW.new hp4 _))),p4,?_,rfl⟩⟩
      rw [aI]
      show _ = some ((lsS ws ++ [Ln.en]).map LS)
      rw [List.map_append];rfl
     | ev ws =>
      refine ifT (by show ([("again":Str),"keep","ever"].any fun x=>x == "ever") = true;decide) ?_
      have lw:(lsS ws).length + 1<=399:=by
       have:(mrL (.ev ws)).length = (lsS ws).length + 1:=(by show (lsS ws ++ [Ln.en]).length = _;rw [List.length_append];rfl)
       omega
      dsimp only [w0,rsD]
      decreasing_tactic
      refine ⟨ws,rfl,mJ dr,(fun l hl=>vr l (by rw [lsR];simp [hl])),by omega,fun p2 M4 s4 h2=>⟨by decide,fun p3 hp3=>?_⟩⟩
      refine ⟨_,_,(aW.new hp3 _) _ _ h2,aI,by rw [List.length_map];show _ + 1<=1000;omega,fun p4 hp4=>⟨s1.trans (s4.trans ((aW.new hp3 _).trans (aW.new hp4 _))),p4,?_,rfl⟩⟩
      rw [aI]
      show _ = some ((lsS ws ++ [Ln.en]).map LS)
      rw [List.map_append];rfl
    ·rintro ρ' M3 ⟨s3,pm,hm,rfl⟩
     obtain ⟨n4,nT⟩:=aLj r
     decreasing_tactic
     rw [qQ]
     decreasing_tactic
     refine ⟨by decide,fun p1 hp1=>?_⟩
     have s4:=aW.new hp1 [D.str (w0 r)]
     have h4:bC M3 p1 [D.str (w0 r)] (.l p1) = some [D.str (w0 r)]:=aI
     generalize bC M3 p1 [D.str (w0 r)] = M4 at s4 h4 ⊢
     refine ⟨by omega,fun i ys M'=>M' = M4/\ys = ((nmT r).take i).map D.str,⟨rfl,rfl⟩,fun i ys M' _ _ a e=>(by cases e),?_,?_⟩
     ·rintro i d ys M' hd ⟨rfl,rfl⟩
      obtain ⟨t,ht,call⟩:=aHy vh hd
      decreasing_tactic
      exact call _ _ ⟨rfl,by rw [eM ht,List.map_append];rfl⟩
     rintro ys M' _ ⟨rfl,rfl⟩ p2 hp2
     rw [<- nT,List.take_length]
     have s5:=s4.trans (aW.new hp2 ((nmT r).map D.str))
     obtain ⟨w1,w2⟩:=aBJ vh
     refine ⟨_,_,(aW.new hp2 _) _ _ h4,aI,by rw [List.length_map];show 1 + _<=1000;omega,fun p3 hp3=>⟨lnW (hdL r),?_,?_,?_⟩⟩
     ·rw [aI,aMa];rfl
     ·have:=yX w2
      rw [s32]
      show _ + _ * 1<=_
      omega
     have s6:=s5.trans (aW.new hp3 ([D.str (w0 r)] ++ (nmT r).map D.str))
     generalize bC (bC M' p2 _) p3 _ = M5 at s6 ⊢
     rw [s32]
     refine ⟨by decide,fun p4 hp4=>?_⟩
     have s7:=s6.trans (aW.new hp4 [LS (hdL r)])
     have hl5:=(s3.trans s7) _ _ hl
     refine ⟨_,_,hl5,aI,by rw [List.length_map];show _ + 1<=1000;omega,fun p5 hp5=>?_⟩
     have s8:=s7.trans (aW.new hp5 ((lsS (rs.take i)).map LS ++ [LS (hdL r)]))
     refine ⟨_,_,aI,s8 _ _ hm,by rw [List.length_append,List.length_map,List.length_map];show _ + 1 + _<=1000;omega,fun p6 hp6=>?_⟩
     refine ⟨sb.trans (s3.trans (s8.trans (aW.new hp6 _))),p6,?_,_,_,_,rfl⟩
     rw [aI,nx,List.map_append,List.map_cons,List.append_assoc];rfl
   ·rintro ρ M' ⟨sb,p,hl,o2,o3,o4,rfl⟩
    rw [cL,List.take_length] at hl
    exact aZ (q p M' sb hl)
 exact all 8
noncomputable def tuB:Nat->D->Prop
 | 0,_=>False
 | n + 1,.tup xs=>xs.length<=1000/\∀ x ∈ xs,tuB n x
 | _ + 1,.str _=>True
 | _ + 1,.int _=>True
 | _ + 1,_=>False
theorem aMn (n:Nat) (x:Rat):tuB (n + 2) (FQ x):=⟨by show 2<=1000;decide,fun d hd=>by
 rcases List.mem_cons.mp hd with rfl | hd
 ·exact trivial
 ·rw [List.mem_singleton.mp hd];exact trivial⟩
mutual
theorem aOk:∀ (r:Rw) (d n:Nat),Dp d r->2 * d + 4<=n->tuB n (rwD r)
 | .pl p,d,n,_,l=>by
  obtain ⟨m,rfl⟩:∃ m,n = m + 4:=⟨n - 4,by omega⟩
  rw [rwD,pU]
  refine ⟨by rw [List.length_cons,List.length_map];have:=aAu p;omega,fun x hx=>?_⟩
  rcases List.mem_cons.mp hx with rfl | hx
  ·exact trivial
  ·obtain ⟨q,_,rfl⟩:=List.mem_map.mp hx
   exact aMn (m + 1) q
 | .ag k ws,d,n,h,l=>by
  cases d with
  | zero=>exact h.elim
  | succ d =>
   obtain ⟨m,rfl⟩:∃ m,n = m + 2:=⟨n - 2,by omega⟩
   obtain ⟨_,dw⟩:=kN h
   rw [rwD]
   refine ⟨Nat.le_of_ble_eq_true rfl,fun x hx=>?_⟩
   rcases List.mem_cons.mp hx with rfl | hx
   ·exact trivial
   rcases List.mem_cons.mp hx with rfl | hx
   ·exact trivial
   rw [List.mem_singleton.mp hx]
   exact ⟨by rw [cL];exact dw.1,aF1 ws d m dw.2 (by omega)⟩
 | .kp ws,d,n,h,l=>by
  cases d with
  | zero=>exact h.elim
  | succ d =>
   obtain ⟨m,rfl⟩:∃ m,n = m + 2:=⟨n - 2,by omega⟩
   have dw:=oE h
   rw [rwD]
   refine ⟨Nat.le_of_ble_eq_true rfl,fun x hx=>?_⟩
   rcases List.mem_cons.mp hx with rfl | hx
   ·exact trivial
   rw [List.mem_singleton.mp hx]
   exact ⟨by rw [cL];exact dw.1,aF1 ws d m dw.2 (by omega)⟩
 | .ev ws,d,n,h,l=>by
  cases d with
  | zero=>exact h.elim
  | succ d =>
   obtain ⟨m,rfl⟩:∃ m,n = m + 2:=⟨n - 2,by omega⟩
   have dw:=mJ h
   rw [rwD]
   refine ⟨Nat.le_of_ble_eq_true rfl,fun x hx=>?_⟩
   rcases List.mem_cons.mp hx with rfl | hx
   ·exact trivial
   rw [List.mem_singleton.mp hx]
   exact ⟨by rw [cL];exact dw.1,aF1 ws d m dw.2 (by omega)⟩
theorem aF1:∀ (rs:List Rw) (d n:Nat),(∀ r ∈ rs,Dp d r)->2 * d + 4<=n->∀ x ∈ bG rs,tuB n x
 | [],d,n,_,_,x,hx=>by rw [bG] at hx;cases hx
 | r :: rs,d,n,h,l,x,hx=>by
  rw [bG] at hx
  rcases List.mem_cons.mp hx with rfl | hx
  ·exact aOk r d n (h r (List.mem_cons_self ..)) l
  ·exact aF1 rs d n (fun y hy=>h y (List.mem_cons_of_mem _ hy)) l x hx
end
noncomputable def iW (d:Nat):DSp:=fun ds M Q=>∃ x,ds = [x]/\tuB d x/\∀ M',aW M M'->Q (.bl true) M'
noncomputable abbrev gW:Stmt:=top 93
theorem lZ:aQ ["_law_thing"] ["_law_thing"] (aJ gW):=⟨rfl,rfl,rfl,by decide +kernel,rfl,by decide +kernel,by decide +kernel⟩
theorem sJ (hF:bX K mg "_law_is_tuples" gW ["_law_thing"]) (aY:mg "isinstance" = none) (cI:mg "tuple" = none) (kT:mg "str" = none) (gK:mg "int" = none) (tZ:mg "bool" = none) (tJ:mg "all" = none):Has P w K mg base 124 "_law_is_tuples" ["_law_thing"] (iW 14):=by
 have all:∀ d,Has P w K mg base (110 + d) "_law_is_tuples" ["_law_thing"] (iW d):=fun d=>by
  induction d with
  | zero=>exact (Has.never hF lZ 109).imp fun ds M Q ⟨x,_,z,_⟩=>by cases x<;>exact z
  | succ d fJ =>
   refine Has.mkZ (k:=110 + d) hF lZ (fun ds M Q ⟨a,z,_⟩=>by rw [z];rfl) fun f cdv A outer s H ds M Q E hr h=>?_
   obtain ⟨x,rfl,tb,q⟩:=h
   refine ⟨_,(aF (aX (cX (fV (aB 0) aY cI)) (aE (aM (cD (aCU rfl) tJ (aA (wL (⟨rfl,by decide +kernel,by decide +kernel,by decide +kernel,rfl,by decide +kernel⟩:qP ["_law_thing"] (aJ gW) ["_law_part"] [none] _) rfl (aB 0) (fun _ _ _ _ _=>(aV (i:=0) (show List.Nodup (["_law_part"]:List Str) by decide +kernel))) (fun _ _ _ _ _=>(aG fJ hr (by omega) (aA (aB 0) aD)))) aD)))) aT)
  (aE (aM (eH (aE1 (aB 0) aY kT gK) (eC (qL (fV (aB 0) aY tZ))))))),?_⟩
   cases x with
   | tup xs =>
    decreasing_tactic
    refine .inl ⟨_,_,rfl,rfl,ifT rfl ?_⟩
    refine ⟨tb.1,fun i ys M'=>aW M M'/\ys = List.replicate i (D.bl true),⟨.refl _,rfl⟩,fun i ys M2 _ _ a e=>(by cases e),?_,?_⟩
    ·rintro i d ys M' hd ⟨sb,rfl⟩
     decreasing_tactic
     exact ⟨d,rfl,tb.2 d (List.mem_of_getElem? hd),fun M2 s2=>⟨sb.trans s2,by rw [List.replicate_succ']⟩⟩
    rintro ys M' _ ⟨sb,rfl⟩ p hp
    decreasing_tactic
    refine ⟨List.replicate xs.length true,by rw [aI,List.map_replicate],?_⟩
    rw [show (List.replicate xs.length true).all id = true by simp]
    exact aZ (q _ (sb.trans (aW.new hp _)))
   | str x =>
    decreasing_tactic
    exact .inl ⟨_,_,rfl,rfl,ifF rfl ⟨_,_,rfl,rfl,ifT rfl (.inl ⟨_,_,rfl,rfl,aZ (q _ (.refl _))⟩)⟩⟩
   | int x =>
    decreasing_tactic
    exact .inl ⟨_,_,rfl,rfl,ifF rfl ⟨_,_,rfl,rfl,ifT rfl (.inl ⟨_,_,rfl,rfl,aZ (q _ (.refl _))⟩)⟩⟩
   | _=>exact tb.elim
 exact all 14
noncomputable def sU:DSp:=fun ds M Q=>∃ rs:List Rw,ds = [.tup (bG rs)]/\Gd rs/\∀ M',aW M M'->Q (.bl true) M'
noncomputable abbrev pI:Stmt:=top 94
theorem jW:aQ ["_law_program_here","_law_text","_law_found","_law_back"] ["_law_program_here"] (aJ pI):=⟨rfl,rfl,rfl,by decide +kernel,rfl,by decide +kernel,by decide +kernel⟩
theorem zP (hF:bX K mg "_law_right" pI ["_law_program_here"]) (aY:mg "isinstance" = none) (cI:mg "tuple" = none) (kT:mg "str" = none) (jH:Has P w K mg base 118 "_law_lines" ["_law_rows"] (mS 8)) (uR:Has P w K mg base 119 "written" ["program"] xE) (aDa:Has P w K mg base 130 "read" ["text"] aD8) (fJ:Has P w K mg base 124 "_law_is_tuples" ["_law_thing"] (iW 14)):Has P w K mg base 131 "_law_right" ["_law_program_here"] sU:=by
 refine Has.mkZ hF jW (fun ds M Q ⟨_,z,_⟩=>by rw [z];rfl) fun f cdv A outer s H ds M Q E hr h=>?_
 obtain ⟨rs,rfl,gd,q⟩:=h
 refine ⟨_,(aF (aO (i:=1) jW.nd (sN aN (aG jH hr (by decide) (aA (aB 0) aD))))
  (aF (aO (i:=2) jW.nd (aG uR hr (by decide) (aA (aB 0) aD)))
  (aF (aX (fA (iY (gS (cX (fV (aB 2) aY kT))) (gX (aP (mE hr) (aB 2) (aB 1))))) (aE (aM kI)) aT)
  (aF (aO (i:=3) jW.nd (aG aDa hr (by decide) (aA (aB 1) aD)))
  (aE (aM (eH (fV (aB 3) aY cI) (eH (cS (bZ hr) (aB 3) (aB 0)) (eC (aG fJ hr (by decide) (aA (aB 3) aD))))))))))),?_⟩
 decreasing_tactic
 refine ⟨rs,rfl,gd.d8,gd.lv,by have:=gd.ln;omega,fun p M1 s1 h1=>?_⟩
 decreasing_tactic
 refine ⟨(lsS rs).map lnT,by rw [h1,aGl],?_,?_⟩
 ·rw [s10,List.length_map]
  have:=gd.sum
  have:=gd.ln
  show _ + _ * 1<=_
  omega
 rw [s10]
 refine ⟨rs,rfl,gd,fun M2 s2=>?_⟩
 decreasing_tactic
 refine .inl ⟨_,_,rfl,rfl,ifF rfl ?_⟩
 rw [aK]
 refine ifF (by rw [decide_eq_true (show txt rs = Builtin.Str.glued (Ty.one 10) (List.map lnT (lsS rs)) from rfl)];rfl) ⟨rs,rfl,gd,fun M3 s3=>?_⟩
 decreasing_tactic
 refine .inl ⟨_,_,rfl,rfl,ifT rfl ?_⟩
 refine aGG (xI gd.d8 (by decide)) (ifT rfl ?_)
 refine ⟨_,rfl,⟨by rw [cL];have:=aA1 rs;have:=gd.hm;omega,aF1 rs 4 13 gd.dp (by decide)⟩,fun M4 s4=>aZ (q _ (((s1.trans s2).trans s3).trans s4))⟩
theorem Gd.app {xs ys:List Rw} (h:Gd (xs ++ ys)):Gd xs/\Gd ys:=by
 obtain ⟨A,va⟩:=h.va
 have g:=jE.mp h.gw
 have v:=nG.mp h.ve
 have a:=nS.mp va
 have t:=nL.mp h.lt
 have m:=h.hm
 rw [gH] at m
 exact ⟨⟨g.1,fun r hr=>h.dp r (List.mem_append_left _ hr),v.1,⟨A,a.1⟩,t.1,by omega⟩,⟨g.2,fun r hr=>h.dp r (List.mem_append_right _ hr),v.2,⟨A,a.2⟩,t.2,by omega⟩⟩
theorem Gd.nil:Gd []:=⟨by rw [gwS];trivial,(fun r hr=>by cases hr),by rw [vES];trivial,⟨1,by rw [alS];trivial⟩,by rw [ltS];trivial,by rw [hmS];omega⟩
theorem Gd.one {r:Rw} {rs:List Rw} (h:Gd rs) (hr:r ∈ rs):Gd [r]:=by
 obtain ⟨xs,ys,rfl⟩:=List.append_of_mem hr
 have:=h.app.2
 rw [show r :: ys = [r] ++ ys from rfl] at this
 exact this.app.1
theorem Gd.inner {r:Rw} {ws:List Rw} (h:Gd [r]) (e:(∃ n,r = .ag n ws) ∨ r = .kp ws):Gd ws:=by
 obtain ⟨A,va⟩:=h.va
 have g:=h.gw
 have v:=h.ve
 have t:=h.lt
 have m:=h.hm
 have d:=h.dp r (List.mem_cons_self ..)
 rw [gwS] at g
 rw [vES] at v
 rw [alS] at va
 rw [ltS] at t
 rw [hmS] at m
 rcases e with ⟨n,rfl⟩ | rfl
 ·rw [gwR] at g
  rw [vER] at v
  rw [alR] at va
  rw [ltR] at t
  rw [hmR] at m
  exact ⟨g.1.2,fun x hx=>kB (d':=4) ((kN d).2.2 x hx) (by decide),v.1.2,⟨A,va.1⟩,t.1.2,by omega⟩
 ·rw [gwR] at g
  rw [vER] at v
  rw [alR] at va
  rw [ltR] at t
  rw [hmR] at m
  exact ⟨g.1.2,fun x hx=>kB (d':=4) ((oE d).2 x hx) (by decide),v.1,⟨A,va.1⟩,t.1,by omega⟩
theorem aLY (rs:List Rw) (k:Nat):Dd.cutD (bG rs) (some (k:Int)) none = bG (rs.drop k):=by
 unfold Dd.cutD
 rw [HT.sIx_nat,HT.sIx_none,cL]
 rw [eG,eG,List.map_drop,List.take_of_length_le (by rw [List.length_drop,List.length_map];omega)]
 rcases Nat.le_total k rs.length with c | c
 ·rw [Nat.min_eq_left c]
 ·rw [Nat.min_eq_right c,List.drop_of_length_le (by rw [List.length_map];exact Nat.le_refl _),List.drop_of_length_le (by rw [List.length_map];exact c)]
theorem aHF (rs:List Rw):Dd.cutD (bG rs) none (some 1) = bG (rs.take 1):=by
 unfold Dd.cutD
 rw [show (1:Int) = ((1:Nat):Int) from rfl,HT.sIx_nat,HT.sIx_none,List.drop_zero,Nat.sub_zero,eG,eG,List.map_take,List.length_map]
 rcases Nat.le_total 1 rs.length with c | c
 ·rw [Nat.min_eq_left c]
 ·rw [Nat.min_eq_right c,List.take_of_length_le (by rw [List.length_map];exact Nat.le_refl _),List.take_of_length_le (by rw [List.length_map];exact c)]
theorem Gd.drop {rs:List Rw} (h:Gd rs) (k:Nat):Gd (rs.drop k):=by
 rw [<- List.take_append_drop k rs] at h;exact h.app.2
theorem Gd.take {rs:List Rw} (h:Gd rs) (k:Nat):Gd (rs.take k):=by
 rw [<- List.take_append_drop k rs] at h;exact h.app.1
theorem aBV:∀ {L:List D},(∀ d ∈ L,∃ c,d = .int c)->∃ cs:List Int,L = cs.map D.int
 | [],_=>⟨[],rfl⟩
 | d :: L,h=>by
  obtain ⟨c,rfl⟩:=h d (List.mem_cons_self ..)
  obtain ⟨cs,e⟩:=aBV fun x hx=>h x (List.mem_cons_of_mem _ hx)
  exact ⟨c :: cs,by rw [e];rfl⟩
theorem aIG (ns:List Int) (lo hi:Option Int):∃ cs:List Int,Dd.cutD (ns.map D.int) lo hi = cs.map D.int/\cs.length<=ns.length:=by
 obtain ⟨cs,e⟩:=aBV (L:=Dd.cutD (ns.map D.int) lo hi) fun d hd=>by
  obtain ⟨c,_,e⟩:=List.mem_map.mp (aIE hd)
  exact ⟨c,e.symm⟩
 have l:(Dd.cutD (ns.map D.int) lo hi).length<=ns.length:=by
  unfold Dd.cutD
  rw [List.length_take,List.length_drop,List.length_map]
  omega
 rw [e,List.length_map] at l
 exact ⟨cs,e,l⟩
theorem aKd (ns:List Int):∃ cs:List Int,Dd.cutD (ns.map D.int) none (some 36) = cs.map D.int/\cs.length<=36:=by
 obtain ⟨cs,e,_⟩:=aIG ns none (some 36)
 have l:(Dd.cutD (ns.map D.int) none (some 36)).length<=36:=by
  unfold Dd.cutD
  rw [show (36:Int) = ((36:Nat):Int) from rfl,HT.sIx_nat,List.length_take]
  omega
 rw [e,List.length_map] at l
 exact ⟨cs,e,l⟩
noncomputable def sp_law:DSp:=fun ds M Q=>∃ ns:List Int,ds = [.fz (ns.map D.int)]/\ns.length<=63/\∀ M',Q (.bl true) M'
noncomputable abbrev qW:Stmt:=top 95
theorem aBn:aQ ["_law_script","_law_program_here","_law_some","_law_row_here"] ["_law_script"] (aJ qW):=⟨rfl,rfl,rfl,by decide +kernel,rfl,by decide +kernel,by decide +kernel⟩
theorem aIq {f0:Addr} {fd0:FuncData} (hF:L2.Fun K "law" "law" qW f0 fd0) (eD:mg "len" = none) (tJ:mg "all" = none) (lG:Has P w K mg base 121 "_law_program" ["_law_cells"] pS) (qE:Has P w K mg base 131 "_law_right" ["_law_program_here"] sU) :
  jJ P w K mg base CX0 151 f0 fd0 ["_law_script"] (vG K sp_law):=by
 refine Fun.okZ hF aBn (fun ds M Q ⟨ns,e,_⟩=>by rw [e];rfl) fun cdv A outer s H ds M Q E hr h=>?_
 obtain ⟨ns,rfl,hl,fin⟩:=h
 refine ⟨_,(aF (aO (i:=1) aBn.nd (aG lG hr (by decide) (aA (aAs (aB 0) kK (fO aC)) aD)))
  (gR (aO (i:=2) aBn.nd (bR (aA (aB 1) (aA (aR aD) (aA (iX (aB 1) (fO (aL dH (cD jO eD (aA (aB 0) aD)) aC)) kK) (aA (iX (aB 1) kK (fO aC)) aD))))))
  (aF (iN PassesOwn.never rfl (aB 1) (aV (i:=3) aBn.nd) (aE (aX (aP vT (aH (aB 3) aC) (bR (aA aN (aA aN aD))) rfl) (aE (dD (dO (aB 2) (aH (aB 3) (eL aC))))) aT)))
  (aE (aM (cD (aCU rfl) tJ (aA (aDG (⟨rfl,by decide +kernel,by decide +kernel,by decide +kernel,rfl,by decide +kernel⟩:qP ["_law_script","_law_program_here","_law_some","_law_row_here"] (aJ qW) ["_law_rows"] [none] _) rfl (aB 2) (fun _ _ _ _ _=>(aV (i:=0) (show List.Nodup (["_law_rows"]:List Str) by decide +kernel))) (fun _ _ _ _ _=>(aG qE hr (by decide) (aA (aB 0) aD)))) aD))))))),?_⟩
 decreasing_tactic
 intro p0 hp0
 obtain ⟨cs,ec,lc⟩:=aKd ns
 rw [ec]
 refine ⟨p0,cs,rfl,aI,lc,fun rs A M2 a0 a1 dp lr dn gw al lt sub=>?_⟩
 have gd:Gd rs:=⟨gw,dp,lt.2.2,⟨A,al⟩,lt.1,by omega⟩
 clear sub a0 a1 hp0 ec lc
 decreasing_tactic
 have e2:(((ns.map D.int).length:Nat):Int).fdiv 2 = ((ns.length / 2:Nat):Int):=by
  rw [List.length_map,Int.fdiv_eq_ediv_of_nonneg _ (by decide)];rfl
 refine ⟨fun ρ M'=>∃ (p:Addr) (L:List (List Rw)),M' (.l p) = some (L.map fun x=>D.tup (bG x))/\L.length<=4/\(∀ x ∈ L,Gd x)/\ρ = [some (.fz (ns.map D.int)),some (.tup (bG rs)),some (.ref p),none],⟨by decide,⟨by decide,by decide⟩,by decide,fun p hp=>?_⟩,?_⟩
 ·refine ⟨p,[rs,[],rs.drop (ns.length / 2),rs.take 1],?_,by show 4<=4;decide,fun x hx=>?_,rfl⟩
  ·rw [aI,e2,aLY,aHF,List.map_cons,List.map_cons,List.map_cons,List.map_cons,List.map_nil,bG]
  ·simp only [List.mem_cons,List.not_mem_nil,or_false] at hx
   rcases hx with rfl | rfl | rfl | rfl
   ·exact gd
   ·exact .nil
   ·exact gd.drop _
   ·exact gd.take _
 rintro ρ M3 ⟨p,L,hp,lL,gL,rfl⟩
 decreasing_tactic
 refine ⟨fun i ρ M'=>∃ L:List (List Rw),M' (.l p) = some (L.map fun x=>D.tup (bG x))/\L.length<=4 + i/\(∀ x ∈ L,Gd x)/\∃ o3,ρ = [some (.fz (ns.map D.int)),some (.tup (bG rs)),some (.ref p),o3],⟨L,hp,lL,gL,_,rfl⟩,fun i ρ M' _ _ a e=>(by cases e),?_,?_⟩
 ·rintro i d ρ M4 hd ⟨L,hp,lL,gL,o3,rfl⟩
  obtain ⟨r,hr',rfl⟩:=fP hd
  have li:=(List.getElem?_eq_some_iff.mp hr').1
  have g1:=gd.one (List.mem_of_getElem? hr')
  rw [aI0]
  decreasing_tactic
  rw [qQ]
  decreasing_tactic
  refine ⟨by decide,fun p1 hp1=>⟨[("again":Str),"keep"],aI,?_⟩⟩
  have h1:=(aW.new hp1 [D.str "again",.str "keep"]) _ _ hp
  generalize bC M4 p1 _ = M5 at h1 ⊢
  have snoc:∀ ws,Gd ws->(L.map fun x=>D.tup (bG x)) ++ [D.tup (bG ws)] = ((L ++ [ws]).map fun x=>D.tup (bG x)):=fun ws _=>by rw [List.map_append];rfl
  have all2:∀ ws,Gd ws->∀ x ∈ L ++ [ws],Gd x:=fun ws gw x hx=>by
   rcases List.mem_append.mp hx with hx | hx
   ·exact gL x hx
   ·rw [List.mem_singleton.mp hx];exact gw
  cases r with
  | pl q =>
   obtain ⟨n1,n2,n3,_⟩:=tO q
   exact ifF (by show ([("again":Str),"keep"].any fun x=>x == wd q) = false;simp [n1.symm,n2.symm]) ⟨L,h1,by omega,gL,_,rfl⟩
  | ag n ws =>
   have gw:=g1.inner (.inl ⟨n,rfl⟩)
   refine ifT (by show ([("again":Str),"keep"].any fun x=>x == "again") = true;decide) ?_
   dsimp only [w0,rsD]
   decreasing_tactic
   refine ⟨⟨_,h1⟩,_,_,rfl,h1,by rw [List.length_map];omega,L ++ [ws],by rw [aI,snoc ws gw],by rw [List.length_append];show L.length + 1<=_;omega,all2 ws gw,_,rfl⟩
  | kp ws =>
   have gw:=g1.inner (.inr rfl)
   refine ifT (by show ([("again":Str),"keep"].any fun x=>x == "keep") = true;decide) ?_
   dsimp only [w0,rsD]
   decreasing_tactic
   refine ⟨⟨_,h1⟩,_,_,rfl,h1,by rw [List.length_map];omega,L ++ [ws],by rw [aI,snoc ws gw],by rw [List.length_append];show L.length + 1<=_;omega,all2 ws gw,_,rfl⟩
  | ev ws=>exact ifF (by show ([("again":Str),"keep"].any fun x=>x == "ever") = false;decide) ⟨L,h1,by omega,gL,_,rfl⟩
 ·rintro ρ M4 ⟨L,hp,lL,gL,o3,rfl⟩
  rw [cL] at lL
  decreasing_tactic
  refine ⟨_,hp,?_⟩
  refine ⟨by rw [List.length_map];omega,fun i ys M'=>aW M4 M'/\ys = List.replicate i (D.bl true),⟨.refl _,rfl⟩,fun i ys M2 _ hi a e=>(by cases e;exact hi.1 _ _ hp),?_,?_⟩
  ·rintro i d ys M' hd ⟨sb,rfl⟩
   rw [List.getElem?_map] at hd
   cases e:L[i]? with
   | none=>rw [e] at hd;cases hd
   | some x =>
    rw [e] at hd
    cases hd
    decreasing_tactic
    exact ⟨x,rfl,gL x (List.mem_of_getElem? e),fun M2 s2=>⟨sb.trans s2,by rw [List.replicate_succ']⟩⟩
  rintro ys M' _ ⟨sb,rfl⟩ pa hpa
  decreasing_tactic
  refine ⟨List.replicate (L.map fun x=>D.tup (bG x)).length true,by rw [aI,List.map_replicate],?_⟩
  rw [show (List.replicate (L.map fun x=>D.tup (bG x)).length true).all id = true by simp]
  exact aZ (fin _)
theorem law_here (ns:List Int) (hl:ns.length<=63) (M:DM):sp_law [.fz (ns.map D.int)] M fun d _=>d = .bl true:=⟨ns,rfl,hl,fun _=>rfl⟩
end
noncomputable def aJ0:Stmt->Stmt
 | .ClassDef _ _ _ body _ _ _ _ _ _ _=>body.getD 0 (.Pass ⟨0,0,0,0⟩)
 | s=>s
noncomputable abbrev tR:Stmt:=aJ0 (top 3)
theorem zV:aQ ["self","row"] ["self","row"] (aJ tR):=⟨rfl,rfl,rfl,by decide +kernel,rfl,by decide +kernel,by decide +kernel⟩
theorem all_mk {l:PySem.W.OpenLaw} {w:World} {K:PySem.W.Frag} {h:Heap} {mg:Str->Option Value} {fa f0 f1 f2 f3 f4 f5 f6 f7 f8 f9 f10 f11 f12 f13 f14 f15 f16 f17 f18 f19 f20 f21 f22 f23 f24 f25 f26 f27 f28 f29 f30 f31 f32 f33 f34 f35 f36 f37 f38 f39 f40 f41 f42 f43 f44 f45 f46 f47 f48 f49 f50 f51 f52 f53 f54 f55 f56 f57 f58 f59 f60 f61 f62 f63 f64 f65 f66 f67 f68 f69:Addr} (X:K.In h) (G:h.Ns mainGlobals mg) (hfa:mg "law" = some (.ref fa))
  {od69 an69:Option Addr} {sl69:Array (Option Value)} {oc69 kV69 dc69 pm69 cd69 ct69:Value}
  (b0:FK K "greatest_divisor" f0 hX)
  (b1:FK K "plus" f1 aC2)
  (b2:FK K "times" f2 wM)
  (b3:FK K "below" f3 aBe)
  (b4:FK K "on_one_bottom" f4 jM)
  (b5:FK K "sign" f5 aCY)
  (b6:FK K "scaled_far" f6 nR)
  (b7:FK K "farther" f7 tX)
  (b8:FK K "first" f8 aAZ)
  (b9:FK K "_law_ratio" f9 lC)
  (b10:FK K "_law_plus" f10 rK)
  (b11:FK K "_law_times" f11 kY)
  (b12:FK K "_law_drawn" f12 pY)
  (b13:FK K "_law_done" f13 rQ)
  (b14:FK K "_law_draws" f14 oK)
  (b15:FK K "_law_size" f15 nM)
  (b16:FK K "_law_is_endless" f16 gG)
  (b17:FK K "_law_close" f17 pK)
  (b18:FK K "at_place" f18 rO)
  (b19:FK K "side_deed" f19 pT)
  (b20:FK K "go_deed" f20 uI)
  (b21:FK K "skip_deed" f21 oV)
  (b22:FK K "dot_deed" f22 rP)
  (b23:FK K "left_deed" f23 oJ)
  (b24:FK K "round_deed" f24 nH)
  (b25:FK K "right_deed" f25 nF)
  (b26:FK K "mirror_deed" f26 lH)
  (b27:FK K "grow_deed" f27 pE)
  (b28:FK K "quarter_deed" f28 kM)
  (b29:FK K "half_deed" f29 pA)
  (b30:FK K "arc_deed" f30 rZ)
  (b31:FK K "deed_of" f31 uE)
  (b32:FK K "rows_within" f32 jF)
  (b33:FK K "how_many_done" f33 jR)
  (b34:FK K "_law_row" f34 uU)
  (b35:FK K "_law_bow" f35 uM)
  (b36:FK K "_law_plain" f36 qC)
  (b37:FK K "_law_program" f37 jD)
  (b38:FK K "how_many_rows" f38 jK)
  (b39:FK K "not_too_long" f39 iR)
  (b40:FK K "may_grow" f40 rN)
  (b41:FK K "is_whole" f41 rJ)
  (b42:FK K "is_reduced" f42 mT)
  (b43:FK K "is_fraction" f43 lI)
  (b44:FK K "numbers_behind" f44 jC)
  (b45:FK K "is_worded" f45 oW)
  (b46:FK K "is_bend" f46 uS)
  (b47:FK K "is_plain_row" f47 iT)
  (b48:FK K "is_block" f48 rH)
  (b49:FK K "has_room" f49 rD)
  (b50:FK K "draws" f50 aBs)
  (b51:FK K "raised_whole" f51 kH)
  (b52:FK K "raised" f52 wQ)
  (b53:FK K "move_size" f53 pV)
  (b54:FK K "can_go_on" f54 pX)
  (b55:FK K "look_at_rows" f55 iM)
  (b56:FK K "program_of" f56 jY)
  (b57:FK K "whole_of" f57 rX)
  (b58:FK K "fraction_of" f58 lP)
  (b59:FK K "head_of" f59 lX)
  (b60:FK K "rows_of" f60 tT)
  (b61:FK K "number_text" f61 lK)
  (b62:FK K "lines_of" f62 nX)
  (b63:FK K "written" f63 uY)
  (b64:FK K "read" f64 aC5)
  (b65:FK K "_law_number_text" f65 iP)
  (b66:FK K "_law_lines" f66 kU)
  (b67:FK K "_law_is_tuples" f67 gW)
  (b68:FK K "_law_right" f68 pI)
  (a69:PySem.W.nsIn K mainGlobals "law" = some (some (.ref f69))) (l69:K.lookup f69 = some ⟨oc69,od69,.func (PySem.W.fnOf "law" "law" (nC qW) (eT qW) (aJ qW) .none kV69 dc69 pm69 an69 cd69 ct69),sl69⟩) (c69:PySem.W.codeIn K cd69 "law" = true) (k69:PySem.W.keepIn K (.ref f69) = true)
  (z_abs:PySem.W.nsIn K mainGlobals "abs" = some none)
  (z_all:PySem.W.nsIn K mainGlobals "all" = some none)
  (z_bool:PySem.W.nsIn K mainGlobals "bool" = some none)
  (z_enumerate:PySem.W.nsIn K mainGlobals "enumerate" = some none)
  (z_int:PySem.W.nsIn K mainGlobals "int" = some none)
  (z_isinstance:PySem.W.nsIn K mainGlobals "isinstance" = some none)
  (z_len:PySem.W.nsIn K mainGlobals "len" = some none)
  (z_min:PySem.W.nsIn K mainGlobals "min" = some none)
  (z_range:PySem.W.nsIn K mainGlobals "range" = some none)
  (z_str:PySem.W.nsIn K mainGlobals "str" = some none)
  (z_tuple:PySem.W.nsIn K mainGlobals "tuple" = some none)
  {GNUMBERS:Addr} {esGNUMBERS:Array DictEntry} {epGNUMBERS:Nat} (at_NUMBERS:PySem.W.nsIn K mainGlobals "NUMBERS" = some (some (.ref GNUMBERS))) (am_NUMBERS:(GNUMBERS == sysModules) = false) (lt_NUMBERS:K.lookup GNUMBERS = some ⟨.type "dict",none,.dict esGNUMBERS epGNUMBERS,#[]⟩) (kt_NUMBERS:PySem.W.KeysLit w.params esGNUMBERS.toList)
  {tk_NUMBERS_go:Tok} (et_NUMBERS_go:PySem.W.nsIn K GNUMBERS "go" = some (some (.int 1 tk_NUMBERS_go)))
  {tk_NUMBERS_skip:Tok} (et_NUMBERS_skip:PySem.W.nsIn K GNUMBERS "skip" = some (some (.int 1 tk_NUMBERS_skip)))
  {tk_NUMBERS_side:Tok} (et_NUMBERS_side:PySem.W.nsIn K GNUMBERS "side" = some (some (.int 2 tk_NUMBERS_side)))
  {tk_NUMBERS_dot:Tok} (et_NUMBERS_dot:PySem.W.nsIn K GNUMBERS "dot" = some (some (.int 0 tk_NUMBERS_dot)))
  {tk_NUMBERS_left:Tok} (et_NUMBERS_left:PySem.W.nsIn K GNUMBERS "left" = some (some (.int 0 tk_NUMBERS_left)))
  {tk_NUMBERS_right:Tok} (et_NUMBERS_right:PySem.W.nsIn K GNUMBERS "right" = some (some (.int 0 tk_NUMBERS_right)))
  {tk_NUMBERS_round:Tok} (et_NUMBERS_round:PySem.W.nsIn K GNUMBERS "round" = some (some (.int 0 tk_NUMBERS_round)))
  {tk_NUMBERS_mirror:Tok} (et_NUMBERS_mirror:PySem.W.nsIn K GNUMBERS "mirror" = some (some (.int 0 tk_NUMBERS_mirror)))
  {tk_NUMBERS_grow:Tok} (et_NUMBERS_grow:PySem.W.nsIn K GNUMBERS "grow" = some (some (.int 1 tk_NUMBERS_grow)))
  {tk_NUMBERS_quarter:Tok} (et_NUMBERS_quarter:PySem.W.nsIn K GNUMBERS "quarter" = some (some (.int 1 tk_NUMBERS_quarter)))
  {tk_NUMBERS_half:Tok} (et_NUMBERS_half:PySem.W.nsIn K GNUMBERS "half" = some (some (.int 1 tk_NUMBERS_half)))
  {tk_NUMBERS_arc:Tok} (et_NUMBERS_arc:PySem.W.nsIn K GNUMBERS "arc" = some (some (.int 4 tk_NUMBERS_arc)))
  (en_NUMBERS_0:PySem.W.nsIn K GNUMBERS "again" = some none)
  (en_NUMBERS_1:PySem.W.nsIn K GNUMBERS "keep" = some none)
  (en_NUMBERS_2:PySem.W.nsIn K GNUMBERS "ever" = some none)
  (en_NUMBERS_3:PySem.W.nsIn K GNUMBERS "none" = some none)
  (en_NUMBERS_4:PySem.W.nsIn K GNUMBERS "end" = some none)
  {GDEEDS:Addr} {esGDEEDS:Array DictEntry} {epGDEEDS:Nat} (at_DEEDS:PySem.W.nsIn K mainGlobals "DEEDS" = some (some (.ref GDEEDS))) (lt_DEEDS:K.lookup GDEEDS = some ⟨.type "dict",none,.dict esGDEEDS epGDEEDS,#[]⟩) (kt_DEEDS:PySem.W.KeysLit w.params esGDEEDS.toList)
  (et_DEEDS_go:PySem.W.nsIn K GDEEDS "go" = some (some (.ref f20)))
  (et_DEEDS_skip:PySem.W.nsIn K GDEEDS "skip" = some (some (.ref f21)))
  (et_DEEDS_side:PySem.W.nsIn K GDEEDS "side" = some (some (.ref f19)))
  (et_DEEDS_dot:PySem.W.nsIn K GDEEDS "dot" = some (some (.ref f22)))
  (et_DEEDS_left:PySem.W.nsIn K GDEEDS "left" = some (some (.ref f23)))
  (et_DEEDS_right:PySem.W.nsIn K GDEEDS "right" = some (some (.ref f25)))
  (et_DEEDS_round:PySem.W.nsIn K GDEEDS "round" = some (some (.ref f24)))
  (et_DEEDS_mirror:PySem.W.nsIn K GDEEDS "mirror" = some (some (.ref f26)))
  (et_DEEDS_grow:PySem.W.nsIn K GDEEDS "grow" = some (some (.ref f27)))
  (et_DEEDS_quarter:PySem.W.nsIn K GDEEDS "quarter" = some (some (.ref f28)))
  (et_DEEDS_half:PySem.W.nsIn K GDEEDS "half" = some (some (.ref f29)))
  (et_DEEDS_arc:PySem.W.nsIn K GDEEDS "arc" = some (some (.ref f30)))
  {GLEAST_CHANGE:Addr} {odGLEAST_CHANGE:Option Addr} {nGLEAST_CHANGE:Nat} {slGLEAST_CHANGE:Array (Option Value)} {tGLEAST_CHANGE_0:Tok} {tGLEAST_CHANGE_1:Tok}
  (ag_LEAST_CHANGE:PySem.W.nsIn K mainGlobals "LEAST_CHANGE" = some (some (.ref GLEAST_CHANGE)))
  (lGLEAST_CHANGE:K.lookup GLEAST_CHANGE = some ⟨.type "tuple",odGLEAST_CHANGE,.seq #[.int 3 tGLEAST_CHANGE_0,.int 4 tGLEAST_CHANGE_1] nGLEAST_CHANGE,slGLEAST_CHANGE⟩)
  {GMIDDLE:Addr} {odGMIDDLE:Option Addr} {nGMIDDLE:Nat} {slGMIDDLE:Array (Option Value)}
  {GMIDDLE_0:Addr} {odGMIDDLE_0:Option Addr} {nGMIDDLE_0:Nat} {slGMIDDLE_0:Array (Option Value)} {tGMIDDLE_0_0:Tok} {tGMIDDLE_0_1:Tok}
  {GMIDDLE_1:Addr} {odGMIDDLE_1:Option Addr} {nGMIDDLE_1:Nat} {slGMIDDLE_1:Array (Option Value)} {tGMIDDLE_1_0:Tok} {tGMIDDLE_1_1:Tok}
  (ag_MIDDLE:PySem.W.nsIn K mainGlobals "MIDDLE" = some (some (.ref GMIDDLE)))
  (lGMIDDLE:K.lookup GMIDDLE = some ⟨.type "tuple",odGMIDDLE,.seq #[.ref GMIDDLE_0,.ref GMIDDLE_1] nGMIDDLE,slGMIDDLE⟩)
  (lGMIDDLE_0:K.lookup GMIDDLE_0 = some ⟨.type "tuple",odGMIDDLE_0,.seq #[.int 0 tGMIDDLE_0_0,.int 1 tGMIDDLE_0_1] nGMIDDLE_0,slGMIDDLE_0⟩)
  (lGMIDDLE_1:K.lookup GMIDDLE_1 = some ⟨.type "tuple",odGMIDDLE_1,.seq #[.int 0 tGMIDDLE_1_0,.int 1 tGMIDDLE_1_1] nGMIDDLE_1,slGMIDDLE_1⟩)
  {tGMOST_AGAIN:Tok} (ag_MOST_AGAIN:PySem.W.nsIn K mainGlobals "MOST_AGAIN" = some (some (.int 12 tGMOST_AGAIN)))
  {tGMOST_BLOCKS:Tok} (ag_MOST_BLOCKS:PySem.W.nsIn K mainGlobals "MOST_BLOCKS" = some (some (.int 4 tGMOST_BLOCKS)))
  {tGMOST_IN_A_ROUND:Tok} (ag_MOST_IN_A_ROUND:PySem.W.nsIn K mainGlobals "MOST_IN_A_ROUND" = some (some (.int 300 tGMOST_IN_A_ROUND)))
  {tGMOST_IN_GROW:Tok} (ag_MOST_IN_GROW:PySem.W.nsIn K mainGlobals "MOST_IN_GROW" = some (some (.int 12 tGMOST_IN_GROW)))
  {tGMOST_ROWS:Tok} (ag_MOST_ROWS:PySem.W.nsIn K mainGlobals "MOST_ROWS" = some (some (.int 60 tGMOST_ROWS)))
  {GNOTHING:Addr} {odGNOTHING:Option Addr} {nGNOTHING:Nat} {slGNOTHING:Array (Option Value)} {tGNOTHING_0:Tok} {tGNOTHING_1:Tok}
  (ag_NOTHING:PySem.W.nsIn K mainGlobals "NOTHING" = some (some (.ref GNOTHING)))
  (lGNOTHING:K.lookup GNOTHING = some ⟨.type "tuple",odGNOTHING,.seq #[.int 0 tGNOTHING_0,.int 1 tGNOTHING_1] nGNOTHING,slGNOTHING⟩)
  {GONE:Addr} {odGONE:Option Addr} {nGONE:Nat} {slGONE:Array (Option Value)} {tGONE_0:Tok} {tGONE_1:Tok}
  (ag_ONE:PySem.W.nsIn K mainGlobals "ONE" = some (some (.ref GONE)))
  (lGONE:K.lookup GONE = some ⟨.type "tuple",odGONE,.seq #[.int 1 tGONE_0,.int 1 tGONE_1] nGONE,slGONE⟩)
  {C_NoRow:Addr}
  (ac_NoRow:PySem.W.nsIn K mainGlobals "NoRow" = some (some (.ref C_NoRow))) (kc_NoRow:PySem.W.keepIn K (.ref C_NoRow) = true)
  (ob_NoRow:∃ M nm qn N bs hdct sn sub ab col dd k0 k1 k2 k3 k5,K.lookup C_NoRow = some (excClassObj nm qn C_NoRow N bs (.ref M :: bmV) hdct sn sub ab col dd k0 k1 k2 k3 k5 "ValueError.__new__")/\PySem.W.excIn K M bmV "ValueError.__new__" = true/\∃ cdM,PySem.W.clsIn K M = some cdM/\cdM.mro = .ref M :: bmV)
  (in_NoRow:∃ fI fd,PySem.W.findIn K (.ref C_NoRow) "__init__" = some (some (.ref fI))/\PySem.W.typeIn K (.ref fI) = some (.type "function")/\L2.Fun K "__init__" "NoRow.__init__" tR fI fd)
  (fa_NoRow:PySem.W.findIn K (.ref C_NoRow) "__setattr__" = some (some (.builtin "object.__setattr__"))) (fc_NoRow:∃ cd,PySem.W.clsIn K C_NoRow = some cd/\aH9 cd.mro = true/\cd.hasDict = true) (fm_NoRow:PySem.W.mroIn K C_NoRow (.type "object") = some true) (fn_NoRow:PySem.W.findIn K (.ref C_NoRow) "row" = some none)
  {C_TooMuch:Addr}
  (ac_TooMuch:PySem.W.nsIn K mainGlobals "TooMuch" = some (some (.ref C_TooMuch))) (xc_TooMuch:PySem.W.excIn K C_TooMuch bmV "ValueError.__new__" = true)
 :∃ fd:FuncData,(∀ (s:Shared) (v:Value),BindsTo s fd ⟨[v],[]⟩ [("_law_script",v)])/\∀ base:Heap,K.In base->base.Ns mainGlobals mg->jJ l.prog w K mg base CX0 151 fa fd ["_law_script"] (vG K sp_law):=by
 have e:=hfa.symm.trans (PySem.W.mg_of X G a69)
 cases e
 have H0:=b0.has X G (ps:=["one","other"]) fun _ _ _ _ _ _ us hl=>by obtain ⟨_,_,rfl⟩:=us2 hl;rfl
 have H1:=b1.has X G (ps:=["one","other"]) fun _ _ _ _ _ _ us hl=>by obtain ⟨_,_,rfl⟩:=us2 hl;rfl
 have H2:=b2.has X G (ps:=["one","other"]) fun _ _ _ _ _ _ us hl=>by obtain ⟨_,_,rfl⟩:=us2 hl;rfl
 have H3:=b3.has X G (ps:=["one","other"]) fun _ _ _ _ _ _ us hl=>by obtain ⟨_,_,rfl⟩:=us2 hl;rfl
 have H4:=b4.has X G (ps:=["p"]) fun _ _ _ _ _ _ us hl=>by obtain ⟨_,rfl⟩:=us1 hl;rfl
 have H5:=b5.has X G (ps:=["number"]) fun _ _ _ _ _ _ us hl=>by obtain ⟨_,rfl⟩:=us1 hl;rfl
 have H6:=b6.has X G (ps:=["c","p"]) fun _ _ _ _ _ _ us hl=>by obtain ⟨_,_,rfl⟩:=us2 hl;rfl
 have H7:=b7.has X G (ps:=["c","p","q"]) fun _ _ _ _ _ _ us hl=>by obtain ⟨_,_,_,rfl⟩:=us3 hl;rfl
 have H8:=b8.has X G (ps:=[]) fun _ _ _ _ _ _ us hl=>by obtain rfl:=us0 hl;rfl
 have H9:=b9.has X G (ps:=["_law_top","_law_bottom"]) fun _ _ _ _ _ _ us hl=>by obtain ⟨_,_,rfl⟩:=us2 hl;rfl
 have H10:=b10.has X G (ps:=["_law_one","_law_other"]) fun _ _ _ _ _ _ us hl=>by obtain ⟨_,_,rfl⟩:=us2 hl;rfl
 have H11:=b11.has X G (ps:=["_law_one","_law_other"]) fun _ _ _ _ _ _ us hl=>by obtain ⟨_,_,rfl⟩:=us2 hl;rfl
 have H12:=b12.has X G (ps:=["_law_one","_law_other"]) fun _ _ _ _ _ _ us hl=>by obtain ⟨_,_,rfl⟩:=us2 hl;rfl
 have H13:=b13.has X G (ps:=["_law_rows"]) fun _ _ _ _ _ _ us hl=>by obtain ⟨_,rfl⟩:=us1 hl;rfl
 have H14:=b14.has X G (ps:=["_law_rows"]) fun _ _ _ _ _ _ us hl=>by obtain ⟨_,rfl⟩:=us1 hl;rfl
 have H15:=b15.has X G (ps:=["_law_rows"]) fun _ _ _ _ _ _ us hl=>by obtain ⟨_,rfl⟩:=us1 hl;rfl
 have H16:=b16.has X G (ps:=["_law_rows"]) fun _ _ _ _ _ _ us hl=>by obtain ⟨_,rfl⟩:=us1 hl;rfl
 have H17:=b17.has X G (ps:=["_law_stack"]) fun _ _ _ _ _ _ us hl=>by obtain ⟨_,rfl⟩:=us1 hl;rfl
 have H18:=b18.has X G (ps:=["place","turns"]) fun _ _ _ _ _ _ us hl=>by obtain ⟨_,_,rfl⟩:=us2 hl;rfl
 have H19:=b19.has X G (ps:=["row"]) fun _ _ _ _ _ _ us hl=>by obtain ⟨_,rfl⟩:=us1 hl;rfl
 have H20:=b20.has X G (ps:=["row"]) fun _ _ _ _ _ _ us hl=>by obtain ⟨_,rfl⟩:=us1 hl;rfl
 have H21:=b21.has X G (ps:=["row"]) fun _ _ _ _ _ _ us hl=>by obtain ⟨_,rfl⟩:=us1 hl;rfl
 have H22:=b22.has X G (ps:=["row"]) fun _ _ _ _ _ _ us hl=>by obtain ⟨_,rfl⟩:=us1 hl;rfl
 have H23:=b23.has X G (ps:=["row"]) fun _ _ _ _ _ _ us hl=>by obtain ⟨_,rfl⟩:=us1 hl;rfl
 have H24:=b24.has X G (ps:=["row"]) fun _ _ _ _ _ _ us hl=>by obtain ⟨_,rfl⟩:=us1 hl;rfl
 have H25:=b25.has X G (ps:=["row"]) fun _ _ _ _ _ _ us hl=>by obtain ⟨_,rfl⟩:=us1 hl;rfl
 have H26:=b26.has X G (ps:=["row"]) fun _ _ _ _ _ _ us hl=>by obtain ⟨_,rfl⟩:=us1 hl;rfl
 have H27:=b27.has X G (ps:=["row"]) fun _ _ _ _ _ _ us hl=>by obtain ⟨_,rfl⟩:=us1 hl;rfl
 have H28:=b28.has X G (ps:=["row"]) fun _ _ _ _ _ _ us hl=>by obtain ⟨_,rfl⟩:=us1 hl;rfl
 have H29:=b29.has X G (ps:=["row"]) fun _ _ _ _ _ _ us hl=>by obtain ⟨_,rfl⟩:=us1 hl;rfl
 have H30:=b30.has X G (ps:=["row"]) fun _ _ _ _ _ _ us hl=>by obtain ⟨_,rfl⟩:=us1 hl;rfl
 have H31:=b31.has X G (ps:=["row"]) fun _ _ _ _ _ _ us hl=>by obtain ⟨_,rfl⟩:=us1 hl;rfl
 have H32:=b32.has X G (ps:=["row"]) fun _ _ _ _ _ _ us hl=>by obtain ⟨_,rfl⟩:=us1 hl;rfl
 have H33:=b33.has X G (ps:=["rows"]) fun _ _ _ _ _ _ us hl=>by obtain ⟨_,rfl⟩:=us1 hl;rfl
 have H34:=b34.has X G (ps:=["_law_cell","_law_many"]) fun _ _ _ _ _ _ us hl=>by obtain ⟨_,_,rfl⟩:=us2 hl;rfl
 have H35:=b35.has X G (ps:=["_law_row_here"]) fun _ _ _ _ _ _ us hl=>by obtain ⟨_,rfl⟩:=us1 hl;rfl
 have H36:=b36.has X G (ps:=["_law_row_here"]) fun _ _ _ _ _ _ us hl=>by obtain ⟨_,rfl⟩:=us1 hl;rfl
 have H37:=b37.has X G (ps:=["_law_cells"]) fun _ _ _ _ _ _ us hl=>by obtain ⟨_,rfl⟩:=us1 hl;rfl
 have H38:=b38.has X G (ps:=["rows"]) fun _ _ _ _ _ _ us hl=>by obtain ⟨_,rfl⟩:=us1 hl;rfl
 have H39:=b39.has X G (ps:=["program"]) fun _ _ _ _ _ _ us hl=>by obtain ⟨_,rfl⟩:=us1 hl;rfl
 have H40:=b40.has X G (ps:=["number"]) fun _ _ _ _ _ _ us hl=>by obtain ⟨_,rfl⟩:=us1 hl;rfl
 have H41:=b41.has X G (ps:=["thing"]) fun _ _ _ _ _ _ us hl=>by obtain ⟨_,rfl⟩:=us1 hl;rfl
 have H42:=b42.has X G (ps:=["top","bottom"]) fun _ _ _ _ _ _ us hl=>by obtain ⟨_,_,rfl⟩:=us2 hl;rfl
 have H43:=b43.has X G (ps:=["thing"]) fun _ _ _ _ _ _ us hl=>by obtain ⟨_,rfl⟩:=us1 hl;rfl
 have H44:=b44.has X G (ps:=["word"]) fun _ _ _ _ _ _ us hl=>by obtain ⟨_,rfl⟩:=us1 hl;rfl
 have H45:=b45.has X G (ps:=["thing"]) fun _ _ _ _ _ _ us hl=>by obtain ⟨_,rfl⟩:=us1 hl;rfl
 have H46:=b46.has X G (ps:=["row"]) fun _ _ _ _ _ _ us hl=>by obtain ⟨_,rfl⟩:=us1 hl;rfl
 have H47:=b47.has X G (ps:=["thing"]) fun _ _ _ _ _ _ us hl=>by obtain ⟨_,rfl⟩:=us1 hl;rfl
 have H48:=b48.has X G (ps:=["thing"]) fun _ _ _ _ _ _ us hl=>by obtain ⟨_,rfl⟩:=us1 hl;rfl
 have H49:=b49.has X G (ps:=["block","around"]) fun _ _ _ _ _ _ us hl=>by obtain ⟨_,_,rfl⟩:=us2 hl;rfl
 have H50:=b50.has X G (ps:=["rows"]) fun _ _ _ _ _ _ us hl=>by obtain ⟨_,rfl⟩:=us1 hl;rfl
 have H51:=b51.has X G (ps:=["number","n"]) fun _ _ _ _ _ _ us hl=>by obtain ⟨_,_,rfl⟩:=us2 hl;rfl
 have H52:=b52.has X G (ps:=["number","n"]) fun _ _ _ _ _ _ us hl=>by obtain ⟨_,_,rfl⟩:=us2 hl;rfl
 have H53:=b53.has X G (ps:=["rows"]) fun _ _ _ _ _ _ us hl=>by obtain ⟨_,rfl⟩:=us1 hl;rfl
 have H54:=b54.has X G (ps:=["rows"]) fun _ _ _ _ _ _ us hl=>by obtain ⟨_,rfl⟩:=us1 hl;rfl
 have H55:=b55.has X G (ps:=["rows","number","around"]) fun _ _ _ _ _ _ us hl=>by obtain ⟨_,_,_,rfl⟩:=us3 hl;rfl
 have H56:=b56.has X G (ps:=["rows"]) fun _ _ _ _ _ _ us hl=>by obtain ⟨_,rfl⟩:=us1 hl;rfl
 have H57:=b57.has X G (ps:=["text"]) fun _ _ _ _ _ _ us hl=>by obtain ⟨_,rfl⟩:=us1 hl;rfl
 have H58:=b58.has X G (ps:=["text"]) fun _ _ _ _ _ _ us hl=>by obtain ⟨_,rfl⟩:=us1 hl;rfl
 have H59:=b59.has X G (ps:=["text"]) fun _ _ _ _ _ _ us hl=>by obtain ⟨_,rfl⟩:=us1 hl;rfl
 have H60:=b60.has X G (ps:=["lines"]) fun _ _ _ _ _ _ us hl=>by obtain ⟨_,rfl⟩:=us1 hl;rfl
 have H61:=b61.has X G (ps:=["number"]) fun _ _ _ _ _ _ us hl=>by obtain ⟨_,rfl⟩:=us1 hl;rfl
 have H62:=b62.has X G (ps:=["rows"]) fun _ _ _ _ _ _ us hl=>by obtain ⟨_,rfl⟩:=us1 hl;rfl
 have H63:=b63.has X G (ps:=["program"]) fun _ _ _ _ _ _ us hl=>by obtain ⟨_,rfl⟩:=us1 hl;rfl
 have H64:=b64.has X G (ps:=["text"]) fun _ _ _ _ _ _ us hl=>by obtain ⟨_,rfl⟩:=us1 hl;rfl
 have H65:=b65.has X G (ps:=["_law_number"]) fun _ _ _ _ _ _ us hl=>by obtain ⟨_,rfl⟩:=us1 hl;rfl
 have H66:=b66.has X G (ps:=["_law_rows"]) fun _ _ _ _ _ _ us hl=>by obtain ⟨_,rfl⟩:=us1 hl;rfl
 have H67:=b67.has X G (ps:=["_law_thing"]) fun _ _ _ _ _ _ us hl=>by obtain ⟨_,rfl⟩:=us1 hl;rfl
 have H68:=b68.has X G (ps:=["_law_program_here"]) fun _ _ _ _ _ _ us hl=>by obtain ⟨_,rfl⟩:=us1 hl;rfl
 have F69:=fun_mk (st:=qW) l69 c69 k69
 have mC:=PySem.W.mg_none_of X G z_abs
 have tJ:=PySem.W.mg_none_of X G z_all
 have tZ:=PySem.W.mg_none_of X G z_bool
 have pZ:=PySem.W.mg_none_of X G z_enumerate
 have gK:=PySem.W.mg_none_of X G z_int
 have aY:=PySem.W.mg_none_of X G z_isinstance
 have eD:=PySem.W.mg_none_of X G z_len
 have aE3:=PySem.W.mg_none_of X G z_min
 have jV:=PySem.W.mg_none_of X G z_range
 have kT:=PySem.W.mg_none_of X G z_str
 have cI:=PySem.W.mg_none_of X G z_tuple
 have aBm:aHE w K mg "DEEDS" [("go","go_deed"),("skip","skip_deed"),("side","side_deed"),("dot","dot_deed"),("left","left_deed"),("right","right_deed"),("round","round_deed"),("mirror","mirror_deed"),("grow","grow_deed"),("quarter","quarter_deed"),("half","half_deed"),("arc","arc_deed")]:=⟨_,_,_,PySem.W.mg_of X G at_DEEDS,lt_DEEDS,kt_DEEDS,fun k n e=>by
  by_cases c_go:k = "go"
  ·subst c_go;cases e;exact ⟨_,et_DEEDS_go,PySem.W.mg_of X G b20.1⟩
  by_cases c_skip:k = "skip"
  ·subst c_skip;cases e;exact ⟨_,et_DEEDS_skip,PySem.W.mg_of X G b21.1⟩
  by_cases c_side:k = "side"
  ·subst c_side;cases e;exact ⟨_,et_DEEDS_side,PySem.W.mg_of X G b19.1⟩
  by_cases c_dot:k = "dot"
  ·subst c_dot;cases e;exact ⟨_,et_DEEDS_dot,PySem.W.mg_of X G b22.1⟩
  by_cases c_left:k = "left"
  ·subst c_left;cases e;exact ⟨_,et_DEEDS_left,PySem.W.mg_of X G b23.1⟩
  by_cases c_right:k = "right"
  ·subst c_right;cases e;exact ⟨_,et_DEEDS_right,PySem.W.mg_of X G b25.1⟩
  by_cases c_round:k = "round"
  ·subst c_round;cases e;exact ⟨_,et_DEEDS_round,PySem.W.mg_of X G b24.1⟩
  by_cases c_mirror:k = "mirror"
  ·subst c_mirror;cases e;exact ⟨_,et_DEEDS_mirror,PySem.W.mg_of X G b26.1⟩
  by_cases c_grow:k = "grow"
  ·subst c_grow;cases e;exact ⟨_,et_DEEDS_grow,PySem.W.mg_of X G b27.1⟩
  by_cases c_quarter:k = "quarter"
  ·subst c_quarter;cases e;exact ⟨_,et_DEEDS_quarter,PySem.W.mg_of X G b28.1⟩
  by_cases c_half:k = "half"
  ·subst c_half;cases e;exact ⟨_,et_DEEDS_half,PySem.W.mg_of X G b29.1⟩
  by_cases c_arc:k = "arc"
  ·subst c_arc;cases e;exact ⟨_,et_DEEDS_arc,PySem.W.mg_of X G b30.1⟩
  simp only [List.lookup,beq_eq_false_iff_ne.mpr c_go,beq_eq_false_iff_ne.mpr c_skip,beq_eq_false_iff_ne.mpr c_side,beq_eq_false_iff_ne.mpr c_dot,beq_eq_false_iff_ne.mpr c_left,beq_eq_false_iff_ne.mpr c_right,beq_eq_false_iff_ne.mpr c_round,beq_eq_false_iff_ne.mpr c_mirror,beq_eq_false_iff_ne.mpr c_grow,beq_eq_false_iff_ne.mpr c_quarter,beq_eq_false_iff_ne.mpr c_half,beq_eq_false_iff_ne.mpr c_arc] at e;cases e⟩
 have vA:aDO w K mg "NUMBERS" aE8 aG0:=by
  refine ⟨_,_,_,PySem.W.mg_of X G at_NUMBERS,am_NUMBERS,lt_NUMBERS,kt_NUMBERS,?_,?_⟩
  ·intro k n e
   unfold aE8 at e
   by_cases c_go:k = "go"
   ·subst c_go;cases e;exact ⟨_,et_NUMBERS_go⟩
   by_cases c_skip:k = "skip"
   ·subst c_skip;cases e;exact ⟨_,et_NUMBERS_skip⟩
   by_cases c_side:k = "side"
   ·subst c_side;cases e;exact ⟨_,et_NUMBERS_side⟩
   by_cases c_dot:k = "dot"
   ·subst c_dot;cases e;exact ⟨_,et_NUMBERS_dot⟩
   by_cases c_left:k = "left"
   ·subst c_left;cases e;exact ⟨_,et_NUMBERS_left⟩
   by_cases c_right:k = "right"
   ·subst c_right;cases e;exact ⟨_,et_NUMBERS_right⟩
   by_cases c_round:k = "round"
   ·subst c_round;cases e;exact ⟨_,et_NUMBERS_round⟩
   by_cases c_mirror:k = "mirror"
   ·subst c_mirror;cases e;exact ⟨_,et_NUMBERS_mirror⟩
   by_cases c_grow:k = "grow"
   ·subst c_grow;cases e;exact ⟨_,et_NUMBERS_grow⟩
   by_cases c_quarter:k = "quarter"
   ·subst c_quarter;cases e;exact ⟨_,et_NUMBERS_quarter⟩
   by_cases c_half:k = "half"
   ·subst c_half;cases e;exact ⟨_,et_NUMBERS_half⟩
   by_cases c_arc:k = "arc"
   ·subst c_arc;cases e;exact ⟨_,et_NUMBERS_arc⟩
   simp only [List.lookup,beq_eq_false_iff_ne.mpr c_go,beq_eq_false_iff_ne.mpr c_skip,beq_eq_false_iff_ne.mpr c_side,beq_eq_false_iff_ne.mpr c_dot,beq_eq_false_iff_ne.mpr c_left,beq_eq_false_iff_ne.mpr c_right,beq_eq_false_iff_ne.mpr c_round,beq_eq_false_iff_ne.mpr c_mirror,beq_eq_false_iff_ne.mpr c_grow,beq_eq_false_iff_ne.mpr c_quarter,beq_eq_false_iff_ne.mpr c_half,beq_eq_false_iff_ne.mpr c_arc] at e;cases e
  ·intro k hk
   unfold aG0 at hk
   simp only [List.mem_cons,List.not_mem_nil,or_false] at hk
   rcases hk with rfl | rfl | rfl | rfl | rfl
   ·exact en_NUMBERS_0
   ·exact en_NUMBERS_1
   ·exact en_NUMBERS_2
   ·exact en_NUMBERS_3
   ·exact en_NUMBERS_4
 have f_NoRow:aEF K C_NoRow "row":=⟨fa_NoRow,fc_NoRow,fm_NoRow,fn_NoRow⟩
 have uF:aEh K mg "TooMuch" C_TooMuch:=⟨PySem.W.mg_of X G ac_TooMuch,xc_TooMuch⟩
 have kJ:fC K mg "LEAST_CHANGE" (.tup [.int 3,.int 4]):=⟨_,.ref GLEAST_CHANGE,PySem.W.mg_of X G ag_LEAST_CHANGE,rfl,fun H=>(cG (xs:=[.int (3),.int (4)]) (.inr ⟨_,_,_,lGLEAST_CHANGE,rfl,rfl,by show (2:Nat)<=sizeLine;decide,(.cons ⟨_,rfl⟩ (.cons ⟨_,rfl⟩ .nil))⟩) (bH bT (bH bT cP)))⟩
 have bF:fC K mg "MIDDLE" tM:=⟨_,.ref GMIDDLE,PySem.W.mg_of X G ag_MIDDLE,rfl,fun H=>(cG (xs:=[.ref GMIDDLE_0,.ref GMIDDLE_1]) (.inr ⟨_,_,_,lGMIDDLE,rfl,rfl,by show (2:Nat)<=sizeLine;decide,(.cons rfl (.cons rfl .nil))⟩) (bH (cG (xs:=[.int (0),.int (1)]) (.inr ⟨_,_,_,lGMIDDLE_0,rfl,rfl,by show (2:Nat)<=sizeLine;decide,(.cons ⟨_,rfl⟩ (.cons ⟨_,rfl⟩ .nil))⟩) (bH bT (bH bT cP))) (bH (cG (xs:=[.int (0),.int (1)]) (.inr ⟨_,_,_,lGMIDDLE_1,rfl,rfl,by show (2:Nat)<=sizeLine;decide,(.cons ⟨_,rfl⟩ (.cons ⟨_,rfl⟩ .nil))⟩) (bH bT (bH bT cP))) cP)))⟩
 have nO:fC K mg "MOST_AGAIN" (.int 12):=⟨_,.int 12,PySem.W.mg_of X G ag_MOST_AGAIN,⟨_,rfl⟩,fun H=>bT⟩
 have lW:fC K mg "MOST_BLOCKS" (.int 4):=⟨_,.int 4,PySem.W.mg_of X G ag_MOST_BLOCKS,⟨_,rfl⟩,fun H=>bT⟩
 have iS:fC K mg "MOST_IN_A_ROUND" (.int 300):=⟨_,.int 300,PySem.W.mg_of X G ag_MOST_IN_A_ROUND,⟨_,rfl⟩,fun H=>bT⟩
 have iG:fC K mg "MOST_IN_GROW" (.int 12):=⟨_,.int 12,PySem.W.mg_of X G ag_MOST_IN_GROW,⟨_,rfl⟩,fun H=>bT⟩
 have iB:fC K mg "MOST_ROWS" (.int 60):=⟨_,.int 60,PySem.W.mg_of X G ag_MOST_ROWS,⟨_,rfl⟩,fun H=>bT⟩
 have dN:fC K mg "NOTHING" aCM:=⟨_,.ref GNOTHING,PySem.W.mg_of X G ag_NOTHING,rfl,fun H=>(cG (xs:=[.int (0),.int (1)]) (.inr ⟨_,_,_,lGNOTHING,rfl,rfl,by show (2:Nat)<=sizeLine;decide,(.cons ⟨_,rfl⟩ (.cons ⟨_,rfl⟩ .nil))⟩) (bH bT (bH bT cP)))⟩
 have kR:fC K mg "ONE" aDf:=⟨_,.ref GONE,PySem.W.mg_of X G ag_ONE,rfl,fun H=>(cG (xs:=[.int (1),.int (1)]) (.inr ⟨_,_,_,lGONE,rfl,rfl,by show (2:Nat)<=sizeLine;decide,(.cons ⟨_,rfl⟩ (.cons ⟨_,rfl⟩ .nil))⟩) (bH bT (bH bT cP)))⟩
 refine ⟨PySem.W.fnOf "law" "law" (nC qW) (eT qW) (aJ qW) .none kV69 dc69 pm69 an69 cd69 ct69,fun s v=>.of_eq rfl,fun base _ _=>?_⟩
 have nQ:sM l.prog w K mg base "NoRow" C_NoRow "row":=by
  obtain ⟨fI,fdI,i1,i2,FI⟩:=in_NoRow
  exact ⟨PySem.W.mg_of X G ac_NoRow,kc_NoRow,ob_NoRow,fI,fdI,"self","row",i1,i2,aHZ FI zV f_NoRow rfl (by first | exact Or.inl rfl | exact Or.inr (Or.inl rfl) | exact Or.inr (Or.inr rfl)) (by first | exact Or.inl rfl | exact Or.inr (Or.inl rfl) | exact Or.inr (Or.inr rfl)) (by decide) (by decide) (by decide) (by decide) (fun _=>rfl) 0,FI.binds (ps:=["self","row"]) fun _ _ _ _ _ _ us hl=>by obtain ⟨_,_,rfl⟩:=us2 hl;rfl⟩
 have bB:=oG (P:=l.prog) (w:=w) (base:=base) H0 mC
 have aCX:=aFq (P:=l.prog) (w:=w) (base:=base) H1 bB
 have h_times:=aEN (P:=l.prog) (w:=w) (base:=base) H2 bB
 have w_times:=aEZ (P:=l.prog) (w:=w) (base:=base) H2 bB
 have aAN:=aEJ (P:=l.prog) (w:=w) (base:=base) H3
 have gY:=tG (P:=l.prog) (w:=w) (base:=base) H4
 have aCZ:=aGx (P:=l.prog) (w:=w) (base:=base) H5
 have kA:=yZ (P:=l.prog) (w:=w) (base:=base) H6 gY
 have uZ:=aCw (P:=l.prog) (w:=w) (base:=base) H7 kA aCZ
 have aAO:=aE0 (P:=l.prog) (w:=w) (base:=base) H8 bF kR
 have bV:=aAi (P:=l.prog) (w:=w) (base:=base) H9 mC
 have w_law_ratio:=aAa (P:=l.prog) (w:=w) (base:=base) H9 mC
 have jA:=aBE (P:=l.prog) (w:=w) (base:=base) H10 bV
 have cE:=zQ (P:=l.prog) (w:=w) (base:=base) H11 bV
 have w_law_times:=zU (P:=l.prog) (w:=w) (base:=base) H11 w_law_ratio
 have eZ:=aAj (P:=l.prog) (w:=w) (base:=base) H12 bV
 have cW:=aBr (P:=l.prog) (w:=w) (base:=base) H13
 have dM:=zZ (P:=l.prog) (w:=w) (base:=base) H14
 have fG:=aA7 (P:=l.prog) (w:=w) (base:=base) H15 jV cE
 have w_law_size:=aAQ (P:=l.prog) (w:=w) (base:=base) H15 jV w_law_times
 have gI:=rS (P:=l.prog) (w:=w) (base:=base) H16 cW fG dM
 have w_law_is_endless:=sA (P:=l.prog) (w:=w) (base:=base) H16 cW w_law_size dM
 have lF:=zI (P:=l.prog) (w:=w) (base:=base) H17 gK cI cW gI dM
 have bK:=aBz (P:=l.prog) (w:=w) (base:=base) H18 kR
 have iF:=aAd (P:=l.prog) (w:=w) (base:=base) H19 bF bK
 have uT:=aCn (P:=l.prog) (w:=w) (base:=base) H20 dN iF
 have qB:=zS (P:=l.prog) (w:=w) (base:=base) H21 dN bK
 have sC:=aBv (P:=l.prog) (w:=w) (base:=base) H22 bF aAO
 have oQ:=zT (P:=l.prog) (w:=w) (base:=base) H23 bF bK
 have mW:=wX (P:=l.prog) (w:=w) (base:=base) H24 bF bK
 have nP:=wZ (P:=l.prog) (w:=w) (base:=base) H25 bF bK
 have lQ:=wB (P:=l.prog) (w:=w) (base:=base) H26 bF kR
 have pG:=zW (P:=l.prog) (w:=w) (base:=base) H27 bF
 have kP:=uG (P:=l.prog) (w:=w) (base:=base) H28 bF dN bK
 have pW:=zR (P:=l.prog) (w:=w) (base:=base) H29 bF dN aCX bK
 have rG:=aBx (P:=l.prog) (w:=w) (base:=base) H30 bF bK
 have tW:=aB2 (P:=l.prog) (w:=w) (base:=base) H31 aBm uT iF qB sC oQ mW nP lQ pG kP pW rG
 have bO:=wD (P:=l.prog) (w:=w) (base:=base) H32
 have w_rows_within:=wF (P:=l.prog) (w:=w) (base:=base) H32
 have fK:=sF (P:=l.prog) (w:=w) (base:=base) H33 bO
 have tY:=aCB (P:=l.prog) (w:=w) (base:=base) H34 mC jV
 have uO:=aCL (P:=l.prog) (w:=w) (base:=base) H35 eZ bV jA cE aE3
 have pN:=zY (P:=l.prog) (w:=w) (base:=base) H36 gK eZ bV uO
 have lG:=vV (P:=l.prog) (w:=w) (base:=base) H37 eD cI tY pN lF cW
 have dB:=tD (P:=l.prog) (w:=w) (base:=base) H38 eD bO
 have eY:=uJ (P:=l.prog) (w:=w) (base:=base) H39 iB dB
 have x_not_too_long:=uB (P:=l.prog) (w:=w) (base:=base) H39 uF iB dB
 have rB:=aA3 (P:=l.prog) (w:=w) (base:=base) H40 iG
 have hE:=aBo (P:=l.prog) (w:=w) (base:=base) H41 aY gK tZ
 have fZ:=xF (P:=l.prog) (w:=w) (base:=base) H42 bB
 have lO:=wE (P:=l.prog) (w:=w) (base:=base) H43 aY cI eD hE fZ
 have cN:=rW (P:=l.prog) (w:=w) (base:=base) H44 vA
 have iA:=zN (P:=l.prog) (w:=w) (base:=base) H45 aY cI kT eD
 have uA:=aCI (P:=l.prog) (w:=w) (base:=base) H46 bF uZ
 have eF:=vC (P:=l.prog) (w:=w) (base:=base) H47 eD tJ iA cN lO rB uA
 have hG:=aA9 (P:=l.prog) (w:=w) (base:=base) H48 aY cI eD nO iA hE
 have hJ:=aBO (P:=l.prog) (w:=w) (base:=base) H49 eD lW
 have sV:=aEY (P:=l.prog) (w:=w) (base:=base) H50 bO tW
 have eU:=uC (P:=l.prog) (w:=w) (base:=base) H51
 have yL:=aCT (P:=l.prog) (w:=w) (base:=base) H52 eU
 have jI:=zL (P:=l.prog) (w:=w) (base:=base) H53 kR w_times yL
 have fW:=aAf (P:=l.prog) (w:=w) (base:=base) H54 iS kR kJ fK sV jI aAN
 have cT:=mI (P:=l.prog) (w:=w) (base:=base) H55 eF hG hJ w_rows_within fW 8 (by decide)
 have fU:=uX (P:=l.prog) (w:=w) (base:=base) H55 nQ eF hG hJ w_rows_within fW 8 (by decide)
 have nN:=xZ (P:=l.prog) (w:=w) (base:=base) H56 cT eY
 have x_program_of:=yI (P:=l.prog) (w:=w) (base:=base) H56 nQ fU cT eY
 have hW:=aA2 (P:=l.prog) (w:=w) (base:=base) H57 gK
 have lM:=wA (P:=l.prog) (w:=w) (base:=base) H58 hW fZ
 have uL:=aB8 (P:=l.prog) (w:=w) (base:=base) H59 cI eD hW lM cN
 have uP:=aCi (P:=l.prog) (w:=w) (base:=base) H60 pZ cI eD uL cN
 have lT:=vX (P:=l.prog) (w:=w) (base:=base) H61
 have kQ:=aAS (P:=l.prog) (w:=w) (base:=base) H62 bO lT
 have uR:=aCs (P:=l.prog) (w:=w) (base:=base) H63 kQ
 have aDa:=aFS (P:=l.prog) (w:=w) (base:=base) H64 uP nN
 have iU:=qO (P:=l.prog) (w:=w) (base:=base) H65 aY gK kT
 have jH:=aAb (P:=l.prog) (w:=w) (base:=base) H66 iU
 have fJ:=sJ (P:=l.prog) (w:=w) (base:=base) H67 aY cI kT gK tZ tJ
 have qE:=zP (P:=l.prog) (w:=w) (base:=base) H68 aY cI kT jH uR aDa fJ
 exact aIq (P:=l.prog) (w:=w) (base:=base) F69 eD tJ lG qE
end Lw
def PySem.W.Fast.tw10625484563506892992:Unit:=()
def PySem.W.Fast.tw8081839211444217669:Unit:=()
def PySem.W.Fast.tw13237778576353885575:Unit:=()
def PySem.W.Fast.tw8346537342554103560:Unit:=()
def PySem.W.Fast.tw6092348390986511593:Unit:=()
def PySem.W.Fast.tw4761571952860977513:Unit:=()
def PySem.W.Fast.tw2214521045401063337:Unit:=()
def PySem.W.Fast.tw16389556543331219018:Unit:=()
def PySem.W.Fast.tw16345096288372630218:Unit:=()
def PySem.W.Fast.tw8984096017837818508:Unit:=()
def PySem.W.Fast.tw15386588706677809645:Unit:=()
def PySem.W.Fast.tw8359219272742945487:Unit:=()
def PySem.W.Fast.tw8569539492764662768:Unit:=()
def PySem.W.Fast.tw13885960964048954833:Unit:=()
def PySem.W.Fast.tw5549274833593449297:Unit:=()
def PySem.W.Fast.tw1564299393740988530:Unit:=()
def PySem.W.Fast.tw12077043769453636119:Unit:=()
def PySem.W.Fast.tw5597222760622836695:Unit:=()
def PySem.W.Fast.tw15337100980296449912:Unit:=()
def PySem.W.Fast.tw3104113053954891097:Unit:=()
def PySem.W.Fast.tw10220119801818369530:Unit:=()
def PySem.W.Fast.tw17896822194591372250:Unit:=()
def PySem.W.Fast.tw12204187900377678011:Unit:=()
def PySem.W.Fast.tw17554328999309532860:Unit:=()
def PySem.W.Fast.tw12143005416913715101:Unit:=()
def PySem.W.Fast.tw13760452564419501503:Unit:=()
def PySem.W.Fast.tw17525754244087496351:Unit:=()
def PySem.W.Fast.tw4005568413026394261:Unit:=()
def PySem.W.Fast.tw16465132493669207482:Unit:=()
def PySem.W.Fast.tw12931890387636862165:Unit:=()
def PySem.W.Fast.tw6551567296555177284:Unit:=()
def PySem.W.Fast.tw12144496603067346694:Unit:=()
def PySem.W.Fast.tw4947193598383318684:Unit:=()
def PySem.W.Fast.tw2963943650457633884:Unit:=()
def PySem.W.Fast.tw5999283049821609014:Unit:=()
def PySem.W.Fast.tw15027629701623497625:Unit:=()
def PySem.W.Fast.tw16389121617461264149:Unit:=()
def PySem.W.Fast.tw6260962976811854436:Unit:=()
def PySem.W.Fast.tw7975019790795074956:Unit:=()
def PySem.W.Fast.tw12489225132153529140:Unit:=()
def PySem.W.Fast.tw7768454657711821301:Unit:=()
def PySem.W.Fast.tw6265437791668903455:Unit:=()
def PySem.W.Fast.tw7505095019669327536:Unit:=()
def PySem.W.Fast.tw5697087733237142218:Unit:=()
def PySem.W.Fast.tw5754183944007083943:Unit:=()
def PySem.W.Fast.tw5919771269430744916:Unit:=()
def PySem.W.Fast.tw15494411440794552312:Unit:=()
def PySem.W.Fast.tw5481736972436030284:Unit:=()
def PySem.W.Fast.tw15372657656620582257:Unit:=()
def PySem.W.Fast.tw17645229065163703701:Unit:=()
def PySem.W.Fast.tw2199463939112877092:Unit:=()
def PySem.W.Fast.tw10445976161336840760:Unit:=()
def PySem.W.Fast.tw4272970441482753767:Unit:=()
def PySem.W.Fast.tw1375428126538392208:Unit:=()
def PySem.W.Fast.tw3781092810233402998:Unit:=()
def PySem.W.Fast.tw10103202367282238160:Unit:=()
def PySem.W.Fast.tw1464613137709118479:Unit:=()
def PySem.W.Fast.tw5489859898415117165:Unit:=()
def PySem.W.Fast.tw9357172376338359738:Unit:=()
def PySem.W.Fast.tw2302495148012630430:Unit:=()
def PySem.W.Fast.tw7115272551110586882:Unit:=()
def PySem.W.Fast.tw14741695841310346009:Unit:=()
def PySem.W.Fast.tw9027492519420381225:Unit:=()
def PySem.W.Fast.tw14342033587995947561:Unit:=()
def PySem.W.Fast.tw14894911196152761254:Unit:=()
def PySem.W.Fast.tw1828013438182131324:Unit:=()
def PySem.W.Fast.tw147745574332770591:Unit:=()
def PySem.W.Fast.tw11015666027360254626:Unit:=()
def PySem.W.Fast.tw2749547260454648149:Unit:=()
def PySem.W.Fast.tw16166876668122858966:Unit:=()
def PySem.W.Fast.tw17741234176680533857:Unit:=()
def PySem.W.Fast.tw9159805050738911254:Unit:=()
def PySem.W.Fast.tw10967635580050265153:Unit:=()
def PySem.W.Fast.tw3897132326328289805:Unit:=()
def PySem.W.Fast.tw6849311577691846898:Unit:=()
def PySem.W.Fast.tw15940869779656578096:Unit:=()
def PySem.W.Fast.tw15431322771728519763:Unit:=()
def PySem.W.Fast.tw10911059785005930725:Unit:=()
def PySem.W.Fast.tw8841551922556472548:Unit:=()
def PySem.W.Fast.tw4389021397088099587:Unit:=()
def PySem.W.Fast.tw5771656529993134294:Unit:=()
def PySem.W.Fast.tw12724492936167995646:Unit:=()
def PySem.W.Fast.tw4064954433569896041:Unit:=()
def PySem.W.Fast.tw13030385060275750062:Unit:=()
def PySem.W.Fast.tw15627875546570568407:Unit:=()
def PySem.W.Fast.tw15077529994296526615:Unit:=()
def PySem.W.Fast.tw3717183200228352139:Unit:=()
open PySem PySem.W PyProof.Rows
set_option maxRecDepth 100000 in
set_option maxHeartbeats 0 in
theorem PySem.Challenge.cw_arcmill_k24_programs_written_holds : PySem.Challenge.rw_arcmill_k24_programs_written.Holds := by
 w_on;o_law;k_head;(case hw=>w_witness2)
 k_fill
 refine Dd.walk_ofD (l:=PySem.Challenge.rw_arcmill_k24_programs_written) (n:=63) (k:=151) (x:="_law_script") (sp:=Lw.sp_law) rfl (by decide) rfl ⟨rfl,by decide,by decide⟩ (fun w h Y=>PySem.W.kIn_of Y) ?F Lw.law_here
 case F =>
  intro w mg fa h KX G hmg
  refine' Lw.all_mk KX G hmg ?b0 ?b1 ?b2 ?b3 ?b4 ?b5 ?b6 ?b7 ?b8 ?b9 ?b10 ?b11 ?b12 ?b13 ?b14 ?b15 ?b16 ?b17 ?b18 ?b19 ?b20 ?b21 ?b22 ?b23 ?b24 ?b25 ?b26 ?b27 ?b28 ?b29 ?b30 ?b31 ?b32 ?b33 ?b34 ?b35 ?b36 ?b37 ?b38 ?b39 ?b40 ?b41 ?b42 ?b43 ?b44 ?b45 ?b46 ?b47 ?b48 ?b49 ?b50 ?b51 ?b52 ?b53 ?b54 ?b55 ?b56 ?b57 ?b58 ?b59 ?b60 ?b61 ?b62 ?b63 ?b64 ?b65 ?b66 ?b67 ?b68 ?a69 ?l69 ?c69 ?k69 ?z_abs ?z_all ?z_bool ?z_enumerate ?z_int ?z_isinstance ?z_len ?z_min ?z_range ?z_str ?z_tuple ?at_NUMBERS ?am_NUMBERS ?lt_NUMBERS ?kt_NUMBERS ?et_NUMBERS_go ?et_NUMBERS_skip ?et_NUMBERS_side ?et_NUMBERS_dot ?et_NUMBERS_left ?et_NUMBERS_right ?et_NUMBERS_round ?et_NUMBERS_mirror ?et_NUMBERS_grow ?et_NUMBERS_quarter ?et_NUMBERS_half ?et_NUMBERS_arc ?en_NUMBERS_0 ?en_NUMBERS_1 ?en_NUMBERS_2 ?en_NUMBERS_3 ?en_NUMBERS_4 ?at_DEEDS ?lt_DEEDS ?kt_DEEDS ?et_DEEDS_go ?et_DEEDS_skip ?et_DEEDS_side ?et_DEEDS_dot ?et_DEEDS_left ?et_DEEDS_right ?et_DEEDS_round ?et_DEEDS_mirror ?et_DEEDS_grow ?et_DEEDS_quarter ?et_DEEDS_half ?et_DEEDS_arc ?ag_LEAST_CHANGE ?lGLEAST_CHANGE ?ag_MIDDLE ?lGMIDDLE ?lGMIDDLE_0 ?lGMIDDLE_1 ?ag_MOST_AGAIN ?ag_MOST_BLOCKS ?ag_MOST_IN_A_ROUND ?ag_MOST_IN_GROW ?ag_MOST_ROWS ?ag_NOTHING ?lGNOTHING ?ag_ONE ?lGONE ?ac_NoRow ?kc_NoRow ?ob_NoRow ?in_NoRow ?fa_NoRow ?fc_NoRow ?fm_NoRow ?fn_NoRow ?ac_TooMuch ?xc_TooMuch
  (case b0 | b1 | b2 | b3 | b4 | b5 | b6 | b7 | b8 | b9 | b10 | b11 | b12 | b13 | b14 | b15 | b16 | b17 | b18 | b19 | b20 | b21 | b22 | b23 | b24 | b25 | b26 | b27 | b28 | b29 | b30 | b31 | b32 | b33 | b34 | b35 | b36 | b37 | b38 | b39 | b40 | b41 | b42 | b43 | b44 | b45 | b46 | b47 | b48 | b49 | b50 | b51 | b52 | b53 | b54 | b55 | b56 | b57 | b58 | b59 | b60 | b61 | b62 | b63 | b64 | b65 | b66 | b67 | b68 =>exact ⟨by k_is,_,L2.fun_mk (by k_is) (by k_is) (by k_is)⟩)
  (case a69 | l69 | c69 | k69 | z_abs | z_all | z_bool | z_enumerate | z_int | z_isinstance | z_len | z_min | z_range | z_str | z_tuple | at_NUMBERS =>k_is)
  (case am_NUMBERS=>decide)
  (case lt_NUMBERS=>k_is)
  (case kt_NUMBERS=>k_keys)
  (case et_NUMBERS_go | et_NUMBERS_skip | et_NUMBERS_side | et_NUMBERS_dot | et_NUMBERS_left | et_NUMBERS_right | et_NUMBERS_round | et_NUMBERS_mirror | et_NUMBERS_grow | et_NUMBERS_quarter | et_NUMBERS_half | et_NUMBERS_arc | en_NUMBERS_0 | en_NUMBERS_1 | en_NUMBERS_2 | en_NUMBERS_3 | en_NUMBERS_4 | at_DEEDS | lt_DEEDS =>k_is)
  (case kt_DEEDS=>k_keys)
  (case et_DEEDS_go | et_DEEDS_skip | et_DEEDS_side | et_DEEDS_dot | et_DEEDS_left | et_DEEDS_right | et_DEEDS_round | et_DEEDS_mirror | et_DEEDS_grow | et_DEEDS_quarter | et_DEEDS_half | et_DEEDS_arc | ag_LEAST_CHANGE | lGLEAST_CHANGE | ag_MIDDLE | lGMIDDLE | lGMIDDLE_0 | lGMIDDLE_1 | ag_MOST_AGAIN | ag_MOST_BLOCKS | ag_MOST_IN_A_ROUND | ag_MOST_IN_GROW | ag_MOST_ROWS | ag_NOTHING | lGNOTHING | ag_ONE | lGONE | ac_NoRow | kc_NoRow =>k_is)
  (case ob_NoRow=>exact ⟨_,_,_,_,_,_,_,_,_,_,_,_,_,_,_,_,by k_is,by (unfold Dd.bmV;k_exc),_,by k_is,rfl⟩)
  (case in_NoRow=>exact ⟨_,_,by k_is,by k_is,L2.fun_mk (by k_is) (by k_is) (by k_is)⟩)
  (case fa_NoRow=>k_is)
  (case fc_NoRow=>exact ⟨_,by k_is,rfl,rfl⟩)
  (case fm_NoRow | fn_NoRow | ac_TooMuch =>k_is)
  (case xc_TooMuch=>unfold Dd.bmV;k_exc)
