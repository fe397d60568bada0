import PyProof.Rows.All
import Wide.All
import OpenK.AllK
import Wide.FinOn
import Lean
import PyProof.EqAt
import PyProof.EqKinds
import PyProof.TupleCall
import PyProof.NeKinds
import PyProof.IsRules
import PyProof.CompFree
import KE.LcSums
import PyProof.FactsAll.range_1
import PyProof.SeqRoads2
import KE.KRevSl
import PyProof.ZipIter
import PyProof.TupleIter
import PyProof.FitsBits
import PyProof.NoPylong
import KE.IntBitsLaws
import PyProof.CompMap
import PyProof.AutoSeq1
import PyProof.SeqInW
import KE.KDictList
import PyProof.Rows.TupDisplay
import KE.KSortTup
import PyProof.ListMulRoad
import PyProof.Rows.SumAny
import PySem.Challenge.RW_arcmill_k21_programs_by_form
set_option Elab.async false
set_option linter.all false
set_option bootstrap.genMatcherCode false
set_option maxRecDepth 100000
namespace L2
open PySem PySem.Spec PyProof.Rows
noncomputable abbrev Key:=Sum Int Str
noncomputable def aHE:Key->Value->Bool
 | .inl k,v=>Value.isInt k v
 | .inr x,v=>Value.isStrOf x v
noncomputable def aMF (w:World):Key->Int
 | .inl k=>hashInt k
 | .inr x=>hashStr w x
theorem eO:∀ {k:Key} {v:Value},aHE k v = true->(∃ i t,k = Sum.inl i/\v = Value.int i t) ∨ (∃ x t,k = Sum.inr x/\v = Value.str x t)
 | .inl i,v,h=>by
  obtain ⟨t,e⟩:=Value.isInt_shape (k:=i) (v:=v) h
  exact .inl ⟨i,t,rfl,e⟩
 | .inr x,v,h=>by
  obtain ⟨t,e⟩:=Value.isStrOf_shape (x:=x) (v:=v) h
  exact .inr ⟨x,t,rfl,e⟩
theorem aIf (a b:Int):decide ((Sum.inl a:Key) = Sum.inl b) = (a == b):=by
 by_cases e:a = b
 ·subst e;simp
 ·have h:¬ (Sum.inl a:Key) = Sum.inl b:=fun q=>e (Sum.inl.inj q)
  rw [decide_eq_false h]
  exact (beq_eq_false_iff_ne.mpr e).symm
theorem aKn (a b:Str):decide ((Sum.inr a:Key) = Sum.inr b) = decide (a = b):=by
 by_cases e:a = b
 ·subst e;simp
 ·have h:¬ (Sum.inr a:Key) = Sum.inr b:=fun q=>e (Sum.inr.inj q)
  rw [decide_eq_false h,decide_eq_false e]
theorem aHX (a:Int) (b:Str):decide ((Sum.inl a:Key) = Sum.inr b) = false:=decide_eq_false (fun q=>nomatch q)
theorem aJd (a:Str) (b:Int):decide ((Sum.inr a:Key) = Sum.inl b) = false:=decide_eq_false (fun q=>nomatch q)
noncomputable def aDi (prog:Program) (w:World):PySem.KeyKind prog w Key where
 is:=aHE
 hash:=aMF w
 inj:=fun v a b ha hb=>by
  rcases eO ha with ⟨i,t,rfl,rfl⟩ | ⟨x,t,rfl,rfl⟩
  ·rcases eO hb with ⟨j,u,rfl,e⟩ | ⟨y,u,rfl,e⟩
   ·injection e with e1 _;rw [e1]
   ·exact nomatch e
  ·rcases eO hb with ⟨j,u,rfl,e⟩ | ⟨y,u,rfl,e⟩
   ·exact nomatch e
   ·injection e with e1 _;rw [e1]
 byValue:=fun k v h=>by
  rcases eO h with ⟨i,t,rfl,rfl⟩ | ⟨x,t,rfl,rfl⟩<;>rfl
 pyHash:=fun hv h=>by
  rcases eO hv with ⟨i,t,rfl,rfl⟩ | ⟨x,t,rfl,rfl⟩
  ·exact wpAny_pyHash_int h
  ·exact wpAny_pyHash_str h
 eqBool:=fun hu hv h=>by
  rcases eO hu with ⟨i,t,rfl,rfl⟩ | ⟨x,t,rfl,rfl⟩
  ·rcases eO hv with ⟨j,u,rfl,rfl⟩ | ⟨y,u,rfl,rfl⟩
   ·rw [aIf] at h;exact wpAny_eqBool_int h
   ·rw [aHX] at h;exact SeqAt.EqAt.int_str i t y u _ _ _ _ h
  ·rcases eO hv with ⟨j,u,rfl,rfl⟩ | ⟨y,u,rfl,rfl⟩
   ·rw [aJd] at h;exact SeqAt.EqAt.str_int x t j u _ _ _ _ h
   ·rw [aKn] at h;exact wpAny_eqBool_str h
 «strs»:=fun k x t v h=>by
  rcases eO h with ⟨i,u,rfl,e⟩ | ⟨y,u,rfl,e⟩
  ·exact nomatch e
  ·injection e with e1 _
   subst e1
   cases v<;>rfl
end L2
namespace L2
open PySem PySem.Spec PyProof.Rows
inductive V where
 | non | bl (b:Bool) | int (i:Int) | str (x:Str) | byt (b:Array UInt8) | flt (b:UInt64) | ref (a:Addr) | ty (n:String)
 deriving DecidableEq
noncomputable def cM:V->Value->Prop
 | .non,u=>u = Value.none
 | .bl b,u=>u = Value.bool b
 | .int i,u=>∃ t,u = Value.int i t
 | .str x,u=>∃ t,u = Value.str x t
 | .byt b,u=>∃ t,u = Value.bytes b t
 | .flt b,u=>∃ t,u = Value.float b t
 | .ref a,u=>u = Value.ref a
 | .ty n,u=>u = Value.type n
noncomputable abbrev cD:List V->List Value->Prop:=Paired cM
theorem cD.length {xs:List V} {us:List Value} (r:cD xs us):xs.length = us.length:=Paired.length r
theorem cD.get:∀ {xs:List V} {us:List Value} {i:Nat} {x:V},cD xs us->xs[i]? = some x->∃ u,us[i]? = some u/\cM x u
 | _,_,_,_,.nil,e=>by simp at e
 | _,_,0,_,.cons r _,e=>by simp at e;subst e;exact ⟨_,rfl,r⟩
 | _,_,i + 1,x,.cons _ t,e=>by
  obtain ⟨u,h1,h2⟩:=cD.get (i:=i) (x:=x) t (by simpa using e)
  exact ⟨u,by simpa using h1,h2⟩
theorem cD.append:∀ {xs ys:List V} {us ws:List Value},cD xs us->cD ys ws->cD (xs ++ ys) (us ++ ws)
 | _,_,_,_,.nil,s=>s
 | _,_,_,_,.cons r t,s=>.cons r (cD.append t s)
theorem cD.take:∀ {xs:List V} {us:List Value} (n:Nat),cD xs us->cD (xs.take n) (us.take n)
 | _,_,0,_=>.nil
 | _,_,_ + 1,.nil=>.nil
 | _,_,n + 1,.cons r t=>.cons r (cD.take n t)
theorem cD.drop:∀ {xs:List V} {us:List Value} (n:Nat),cD xs us->cD (xs.drop n) (us.drop n)
 | _,_,0,r=>r
 | _,_,_ + 1,.nil=>.nil
 | _,_,n + 1,.cons _ t=>cD.drop n t
noncomputable def aG7:Option V->Option Value->Prop
 | some v,some u=>cM v u
 | none,none=>True
 | _,_=>False
noncomputable def KV {κ:Type}:List (κ × V)->List (κ × Value)->Prop:=Paired fun (p:κ × V) (q:κ × Value)=>p.1 = q.1/\cM p.2 q.2
noncomputable def kV:Key->V
 | .inl i=>.int i
 | .inr x=>.str x
inductive HO where
  | lst (xs:List V)
  | tup (xs:List V)
  | dK (kvs:List (Key × V)) | dT (kvs:List (List Key × V))
  | set (S:Int->Bool) (n:Nat)
  | ins (C dx:Addr) (fs:List (Str × V))
  | own (x:Addr)
  | xd (fs:List (Str × V))
  | met (f x:Addr)
  | rng (lo hi:Int)
  | frz (o:Obj) (u:HO)
  | tbl (ps:Array Value)
  | ext (φ:Heap->Prop)
noncomputable abbrev Hp:=Addr->Option HO
noncomputable def upd (H:Hp) (a:Addr) (o:HO):Hp:=fun b=>if b = a then some o else H b
theorem eN {H:Hp} {a:Addr} {o:HO}:upd H a o a = some o:=by unfold upd;rw [if_pos rfl]
theorem bO {H:Hp} {a b:Addr} {o:HO} (h:b ≠ a):upd H a o b = H b:=by unfold upd;rw [if_neg h]
theorem yM {H:Hp} {a b:Addr} {o u:HO} (h:H a = some o) (h':H b = some u) (d:o ≠ u):a ≠ b:=by
 intro e;subst e;rw [h] at h';exact d (Option.some.inj h')
theorem cG {H:Hp} {a b:Addr} {o:HO} (h:H a = some o) (h':H b = none):a ≠ b:=by
 intro e;subst e;rw [h] at h';cases h'
section
variable (P:Program) (w:World)
noncomputable def fN (H:Hp) (h:Heap) (a:Addr):HO->Prop
 | .lst xs=>xs.length<=sizeLine/\∃ (its:List Value) (n:Nat),cD xs its/\h.get? a = some { cls:=.type "list",data:=.seq its.toArray n }
 | .tup xs=>xs.length<=sizeLine/\∃ its:List Value,cD xs its/\IsTup h a its.toArray
 | .dK kvs=>kvs.length<=sizeLine/\(a == sysModules) = false/\∃ vs,KV kvs vs/\h.DictOf (aDi P w) a vs
 | .dT kvs=>kvs.length<=sizeLine/\(a == sysModules) = false/\∃ xs:List (List Key × Addr × Value),
   Paired (fun (p:List Key × V) (q:List Key × Addr × Value)=>p.1 = q.1/\H q.2.1 = some (.tup (p.1.map kV))/\cM p.2 q.2.2) kvs xs /\
   ∃ o es ep,h.get? a = some o/\o.ExactDict/\o.data = .dict es ep/\es.toList = xs.map (entryOfKey (tupleKind (aDi P w)))/\(xs.map (·.1)).Nodup
 | .set S n=>h.SetOf (intKind P w) a S n
 | .ins C dx fs=>H dx = some (.own a)/\fs.length<=1000/\dx ≠ a/\h.get? a = some (PySem.W.instObj C dx) /\
   ∃ mA,h.Ns1 dx mA/\(∀ f,aG7 (fs.lookup f) (mA f))/\PySem.Within mA (fs.map (·.1))
 | .own _=>∃ o,h.get? a = some o
 | .xd fs=>∃ mA,h.Ns1 a mA/\∀ f,aG7 (fs.lookup f) (mA f)
 | .rng lo hi=>∃ t u v,h.get? a = some { cls:=.type "range",data:=.fields #[.int lo t,.int hi u,.int 1 v] }
 | .frz o u=>h.get? a = some o/\fN H h a u
 | .tbl ps=>h.get? a = some { cls:=.none,data:=.fields ps }
 | .met f x=>h.get? a = some (PySem.W.methodObj (.ref f) (.ref x))
 | .ext φ=>φ h/\(∃ o,h.get? a = some o)/\∀ h1 h2:Heap,φ h1->(∀ o,h1.get? a = some o->h2.get? a = some o)->φ h2
noncomputable def HOk (H:Hp) (h:Heap):Prop:=∀ a o,H a = some o->fN P w H h a o
end
section
variable {P:Program} {w:World} {H H':Hp} {h h':Heap} {a:Addr} {o:HO}
theorem fN.lt (x:fN P w H h a o):a < h.objs.size:=by
 cases o with
 | lst xs=>obtain ⟨_,_,_,_,e⟩:=x;exact Heap.lt_size e
 | tup xs=>obtain ⟨_,_,_,p⟩:=x;exact p.lt
 | dK kvs=>obtain ⟨_,_,_,_,o,_,_,e,_⟩:=x;exact Heap.lt_size e
 | dT kvs=>obtain ⟨_,_,_,_,o,_,_,e,_⟩:=x;exact Heap.lt_size e
 | set S n=>obtain ⟨o,_,_,_,e,_⟩:=x;exact Heap.lt_size e
 | ins C dx fs=>obtain ⟨_,_,_,e,_⟩:=x;exact Heap.lt_size e
 | own y=>obtain ⟨_,e⟩:=x;exact Heap.lt_size e
 | xd fs=>obtain ⟨_,⟨_,_,_,e,_⟩,_⟩:=x;exact Heap.lt_size e
 | rng lo hi=>obtain ⟨_,_,_,e⟩:=x;exact Heap.lt_size e
 | frz ob u=>obtain ⟨e,_⟩:=x;exact Heap.lt_size e
 | tbl ps=>exact Heap.lt_size (show h.get? a = some _ from x)
 | met f y=>exact Heap.lt_size (show h.get? a = some _ from x)
 | ext φ=>obtain ⟨_,⟨_,e⟩,_⟩:=x;exact Heap.lt_size e
theorem Paired.mapP {α β:Type} {F G:α->β->Prop}:∀ {l₁:List α} {l₂:List β},Paired F l₁ l₂->(∀ a b,F a b->G a b)->Paired G l₁ l₂
 | _,_,.nil,_=>.nil
 | _,_,.cons r t,f=>.cons (f _ _ r) (Paired.mapP t f)
theorem fN.stay (x:fN P w H h a o) (k:∀ b u,(b = a ∨ H b = some (.own a))->h.get? b = some u->h'.get? b = some u)
  (ho:∀ b,H b = some (.own a)->H' b = some (.own a)) (ht:∀ b xs,H b = some (.tup xs)->H' b = some (.tup xs)):fN P w H' h' a o:=by
 induction o with
 | lst xs=>obtain ⟨z,its,n,r,e⟩:=x;exact ⟨z,its,n,r,k _ _ (.inl rfl) e⟩
 | tup xs=>obtain ⟨z,its,r,ob,e,c⟩:=x;exact ⟨z,its,r,ob,k _ _ (.inl rfl) e,c⟩
 | dK kvs=>obtain ⟨z,y,vs,r,ob,es,ep,e,c⟩:=x;exact ⟨z,y,vs,r,ob,es,ep,k _ _ (.inl rfl) e,c⟩
 | dT kvs =>
  obtain ⟨z,y,xs,r,ob,es,ep,e,c⟩:=x
  exact ⟨z,y,xs,Paired.mapP r fun p q z=>⟨z.1,ht _ _ z.2.1,z.2.2⟩,ob,es,ep,k _ _ (.inl rfl) e,c⟩
 | set S n=>obtain ⟨ob,es,ep,t,e,c⟩:=x;exact ⟨ob,es,ep,t,k _ _ (.inl rfl) e,c⟩
 | ins C dx fs =>
  obtain ⟨d,z,ne,e,mA,⟨od,es,ep,e2,c⟩,r⟩:=x
  exact ⟨ho _ d,z,ne,k _ _ (.inl rfl) e,mA,⟨od,es,ep,k _ _ (.inr d) e2,c⟩,r⟩
 | own y=>obtain ⟨ob,e⟩:=x;exact ⟨ob,k _ _ (.inl rfl) e⟩
 | xd fs=>obtain ⟨mA,⟨od,es,ep,e,c⟩,r⟩:=x;exact ⟨mA,⟨od,es,ep,k _ _ (.inl rfl) e,c⟩,r⟩
 | rng lo hi=>obtain ⟨t,u,v,e⟩:=x;exact ⟨t,u,v,k _ _ (.inl rfl) e⟩
 | frz ob u ih=>obtain ⟨e,q⟩:=x;exact ⟨k _ _ (.inl rfl) e,ih q⟩
 | tbl ps =>
  have e:h.get? a = some { cls:=.none,data:=.fields ps }:=x
  show h'.get? a = some { cls:=.none,data:=.fields ps }
  exact k a _ (.inl rfl) e
 | met f y =>
  have e:h.get? a = some (PySem.W.methodObj (.ref f) (.ref y)):=x
  show h'.get? a = some (PySem.W.methodObj (.ref f) (.ref y))
  exact k a _ (.inl rfl) e
 | ext φ=>obtain ⟨p,⟨o,e⟩,st⟩:=x;exact ⟨st _ _ p fun o q=>k _ _ (.inl rfl) q,⟨o,k _ _ (.inl rfl) e⟩,st⟩
theorem HOk.lt (x:HOk P w H h) (e:H a = some o):a < h.objs.size:=(x a o e).lt
theorem HOk.fresh (x:HOk P w H h) (e:h.objs.size<=a):H a = none:=by
 cases q:H a with
 | none=>rfl
 | some u=>exact absurd (Nat.lt_of_lt_of_le (x.lt q) e) (Nat.lt_irrefl _)
theorem HOk.kept (x:HOk P w H h) (k:∀ b u,h.get? b = some u->h'.get? b = some u):HOk P w H h':=fun a o e =>
 (x a o e).stay (fun b u _ q=>k b u q) (fun _ q=>q) fun _ _ q=>q
theorem HOk.laid (x:HOk P w H h) (k:∀ b u,h.get? b = some u->h'.get? b = some u) (hp:h.objs.size<=a) (new:fN P w (upd H a o) h' a o):HOk P w (upd H a o) h':=fun b u e=>by
 have hn:=x.fresh hp
 by_cases hb:b = a
 ·subst hb;rw [eN] at e;cases e;exact new
 ·rw [bO hb] at e
  exact (x b u e).stay (fun c v _ q=>k c v q) (fun c q=>by rw [bO (cG q hn)];exact q) fun c xs q=>by rw [bO (cG q hn)];exact q
end
noncomputable def Rd (H:Hp) (a:Addr) (u:HO):Prop:=H a = some u ∨ ∃ o,H a = some (.frz o u)
theorem Rd.ok {P:Program} {w:World} {H:Hp} {h:Heap} {a:Addr} {u:HO} (r:Rd H a u) (x:HOk P w H h):fN P w H h a u:=by
 rcases r with r | ⟨o,r⟩
 ·exact x a u r
 ·obtain ⟨_,q⟩:=x a _ r
  exact q
noncomputable def Mut:Option HO->Prop
 | some (.lst _)=>True
 | some (.dK _)=>True
 | some (.dT _)=>True
 | some (.set _ _)=>True
 | some (.ins _ _ _)=>True
 | some (.ext _)=>True
 | _=>False
section
variable {P:Program} {w:World} {H:Hp} {h h':Heap} {x e:Addr} {o':HO}
theorem HOk.write (ok:HOk P w H h) (mu:Mut (H x)) (he:e = x ∨ H e = some (.own x)) (k:∀ b u,b ≠ e->h.get? b = some u->h'.get? b = some u) (heo:∃ u,h'.get? e = some u)
  (new:fN P w (upd H x o') h' x o'):HOk P w (upd H x o') h':=fun b u q=>by
 have nown:∀ c y,H c = some (.own y)->c ≠ x:=fun c y r z=>by subst z;rw [r] at mu;exact mu
 have ntup:∀ c xs,H c = some (.tup xs)->c ≠ x:=fun c xs r z=>by subst z;rw [r] at mu;exact mu
 by_cases hb:b = x
 ·subst hb;rw [eN] at q;cases q;exact new
 ·rw [bO hb] at q
  by_cases hbe:b = e
  ·have q':H b = some (.own x):=by
    rcases he with z | z
    ·exact absurd (hbe.trans z) hb
    ·rw [hbe];exact z
   rw [q] at q';cases q'
   obtain ⟨v,hv⟩:=heo
   exact ⟨v,by rw [hbe];exact hv⟩
  ·refine (ok b u q).stay (fun c v hc r=>k c v ?_ r) (fun c r=>by rw [bO (nown c b r)];exact r) fun c xs r=>by rw [bO (ntup c xs r)];exact r
   rcases hc with rfl | hc
   ·exact hbe
   ·rintro rfl
    rcases he with z | z
    ·exact nown c b hc z
    ·rw [hc] at z;cases z;exact hb rfl
end
structure Un (fs ex:List Addr) (H H':Hp) (h h':Heap):Prop where
 keep:∀ b o,h.get? b = some o->H b = none->b ∉ fs->b ∉ ex->h'.get? b = some o
 slot:∀ b o,h.get? b = some o->H b = none->b ∈ fs->b ∉ ex->∃ sl,h'.get? b = some { o with slots:=sl }
 free:∀ b o,h.get? b = some o->H b = none->b ∉ ex->H' b = none
 there:∀ b o,h.get? b = some o->b ∉ ex->∃ o',h'.get? b = some o'
 tups:∀ b xs,H b = some (.tup xs)->H' b = some (.tup xs)
 frzs:∀ b o u,H b = some (.frz o u)->H' b = some (.frz o u)
 tbls:∀ b ps,H b = some (.tbl ps)->∃ more,H' b = some (.tbl (ps ++ more))
section
variable {fs fs' ex ex':List Addr} {H H1 H2:Hp} {h h1 h2 h':Heap} {a x e:Addr} {o:HO}
theorem Un.any (u:Un fs ex H H1 h h1) {b:Addr} {ob:Obj} (q:h.get? b = some ob) (n:H b = none) (hx:b ∉ ex):∃ sl,h1.get? b = some { ob with slots:=sl }:=by
 by_cases hb:b ∈ fs
 ·exact u.slot b ob q n hb hx
 ·exact ⟨ob.slots,u.keep b ob q n hb hx⟩
theorem Un.trans (a:Un fs ex H H1 h h1) (b:Un fs ex H1 H2 h1 h2):Un fs ex H H2 h h2 where
 keep:=fun c ob q n hc hx=>b.keep c ob (a.keep c ob q n hc hx) (a.free c ob q n hx) hc hx
 slot:=fun c ob q n hc hx=>by
  obtain ⟨sl,e1⟩:=a.slot c ob q n hc hx
  obtain ⟨sl',e2⟩:=b.slot c _ e1 (a.free c ob q n hx) hc hx
  exact ⟨sl',e2⟩
 free:=fun c ob q n hx=>by
  obtain ⟨o',e1⟩:=a.there c ob q hx
  exact b.free c o' e1 (a.free c ob q n hx) hx
 there:=fun c ob q hx=>by
  obtain ⟨o',e1⟩:=a.there c ob q hx
  exact b.there c o' e1 hx
 tups:=fun c xs q=>b.tups c xs (a.tups c xs q)
 frzs:=fun c ob xs q=>b.frzs c ob xs (a.frzs c ob xs q)
 tbls:=fun c ps q=>by
  obtain ⟨m1,e1⟩:=a.tbls c ps q
  obtain ⟨m2,e2⟩:=b.tbls c _ e1
  exact ⟨m1 ++ m2,by rw [e2,Array.append_assoc]⟩
theorem Un.kept (k:∀ b u,h.get? b = some u->h'.get? b = some u):Un fs ex H H h h' :=
 ⟨fun b ob q _ _ _=>k b ob q,fun b ob q _ _ _=>⟨ob.slots,k b ob q⟩,fun _ _ _ n _=>n,fun b ob q _=>⟨ob,k b ob q⟩,fun _ _ q=>q,fun _ _ _ q=>q,fun _ ps q=>⟨#[],by rw [q];simp⟩⟩
theorem Un.refl:Un fs ex H H h h:=Un.kept fun _ _ q=>q
theorem Un.laid (k:∀ b u,h.get? b = some u->h'.get? b = some u) (hp:h.objs.size<=a) (hn:H a = none):Un fs ex H (upd H a o) h h' where
 keep:=fun b u q _ _ _=>k b u q
 slot:=fun b u q _ _ _=>⟨u.slots,k b u q⟩
 free:=fun b u q n _=>by rw [bO (Nat.ne_of_lt (Nat.lt_of_lt_of_le (Heap.lt_size q) hp))];exact n
 there:=fun b u q _=>⟨u,k b u q⟩
 tups:=fun b xs q=>by rw [bO (cG q hn)];exact q
 frzs:=fun b u xs q=>by rw [bO (cG q hn)];exact q
 tbls:=fun b ps q=>⟨#[],by rw [bO (cG q hn),q];simp⟩
theorem Un.write (mu:Mut (H x)) (he:e = x ∨ H e = some (.own x)) (k:∀ b u,b ≠ e->h.get? b = some u->h'.get? b = some u) (heo:∃ u,h'.get? e = some u):Un fs ex H (upd H x o) h h':=by
 have hx:∀ b,H b = none->b ≠ x:=fun b n z=>by subst z;rw [n] at mu;exact mu
 have hb:∀ b,H b = none->b ≠ e:=fun b n z=>by
  subst z
  rcases he with r | r
  ·exact hx b n r
  ·rw [n] at r;cases r
 have hm:∀ b u,H b = some u->¬ Mut (some u)->b ≠ x:=fun b u q nm z=>by subst z;rw [q] at mu;exact nm mu
 refine ⟨fun b u q n _ _=>k b u (hb b n) q,fun b u q n _ _=>⟨u.slots,k b u (hb b n) q⟩,fun b u q n _=>by rw [bO (hx b n)];exact n,fun b u q _=>?_,
  fun b xs q=>by rw [bO (hm b _ q fun z=>z)];exact q,fun b u xs q=>by rw [bO (hm b _ q fun z=>z)];exact q,fun b ps q=>⟨#[],by rw [bO (hm b _ q fun z=>z),q];simp⟩⟩
 by_cases hbe:b = e
 ·subst hbe;exact heo
 ·exact ⟨u,k b u hbe q⟩
end
noncomputable def trk (h:Heap) (H:Hp):List Addr:=(List.range h.objs.size).filter fun a=>(H a).isSome
noncomputable def aA2 (h:Heap) (H:Hp):Heap:=PySem.W.hideAll h (trk h H)
theorem aDZ (h:Heap) (H:Hp):(aA2 h H).objs.size = h.objs.size:=PySem.W.hideAll_size _ _
theorem aFw {h:Heap} {H:Hp} {b:Addr} {o:Obj} (e:h.get? b = some o) (n:H b = none):(aA2 h H).get? b = some o :=
 PySem.W.hideAll_get _ e fun hm=>by
  have q:(H b).isSome = true:=(List.mem_filter.mp hm).2
  rw [n] at q;simp at q
theorem aGA {h:Heap} {H:Hp} {b:Addr} {o:Obj} (e:(aA2 h H).get? b = some o):h.get? b = some o/\H b = none:=by
 have e':h.get? b = some o:=PySem.W.of_hideAll (trk h H) e
 refine ⟨e',?_⟩
 cases q:H b with
 | none=>rfl
 | some x =>
  have hm:b ∈ trk h H:=List.mem_filter.mpr ⟨List.mem_range.mpr (Heap.lt_size e'),by simp [q]⟩
  have z:(aA2 h H).get? b = none:=PySem.W.hideAll_none (trk h H) hm
  rw [z] at e;cases e
noncomputable def aHm (g h:Heap) (L:Addr):List (Addr × Obj):=(List.range h.objs.size).filterMap fun a=>if a = L ∨ (g.get? a).isSome = true then none else (h.get? a).map fun o=>(a,o)
noncomputable def cR (g h:Heap) (L d:Addr):List (Addr × Obj):=(aHm g h L).filter fun p=>decide (p.1 ≠ d)
end L2
namespace L2
open PySem PySem.Spec PyProof.Rows
structure Mod (K:PySem.W.Frag) (mg:Str->Option Value) (base:Heap):Prop where
 kin:K.In base
 glob:base.Ns mainGlobals mg
 blt:∃ mb,base.Ns builtinsNs mb/\∀ x:Str,x ≠ "__name__"->mb x = bootBuiltins x
 nolimit:base.NoLimit
structure Cx where
 prog:Program
 w:World
 K:PySem.W.Frag
 mg:Str->Option Value
 base:Heap
 A:Around
 N:List Str
 s₀:Shared
 H₀:Hp
 env:Env
 outer:List Env
 stack:List Env
 ex:List Addr
 fn:Str->Bool
 calm:Bool
 pn:List (Addr × Obj)
 xe:Value->Shared->Prop
noncomputable def frs (l:List Env):List Addr:=l.filterMap (·.frame)
noncomputable abbrev Cx.fs (X:Cx):List Addr:=frs X.outer
noncomputable def Vis (sc:Scope) (x:Str):Prop:=sc.names.lookup x = some .local ∨ sc.names.lookup x = some .cell ∨ sc.names.lookup x = some .free
noncomputable def Loc (sc:Scope) (x:Str):Prop:=sc.names.lookup x = some .local ∨ sc.names.lookup x = some .cell
noncomputable def aLo (env:Env) (h:Heap) (m:Str->Option Value) (x:Str) (u:Value):Prop :=
 (env.kindOf x = some .local/\m x = some u) ∨ ((env.kindOf x = some .cell ∨ env.kindOf x = some .free)/\∃ c,env.cells.lookup x = some c/\h.IsCell c (some u))
structure Cx.Ok (X:Cx):Prop where
 mod:Mod X.K X.mg X.base
 kind:X.env.scope.kind = .function
 glob:X.env.globals = mainGlobals
 blt:X.env.builtins = builtinsNs
 above:X.s₀.heap.objs.size<=X.env.locals
 inj:∀ x y c,X.env.cells.lookup x = some c->X.env.cells.lookup y = some c->x = y
 has:∀ x,(X.env.kindOf x = some .cell ∨ X.env.kindOf x = some .free)->∃ c,X.env.cells.lookup x = some c
 cab:∀ x c,X.fn x = true->X.env.cells.lookup x = some c->X.s₀.heap.objs.size<=c
 hd:X.calm = true->X.A.handled = none
 frames:X.A.frames = some X.stack
 stk:X.stack = X.outer ∨ (X.stack = X.env :: X.outer/\X.env.frame = some X.env.locals)
 exf:∀ b ∈ X.ex,b ≠ X.env.locals/\∀ x c,X.env.cells.lookup x = some c->c ≠ b
 bs:∀ b o,X.base.get? b = some o->X.s₀.heap.get? b = some o/\X.H₀ b = none
 bsz:X.base.objs.size<=X.s₀.heap.objs.size
 noex:∀ b o,X.base.get? b = some o->b ∉ X.ex
 exfs:∀ b ∈ X.ex,b ∉ X.fs
 funs:X.s₀.heap.FunFrames X.base X.outer
 frf:∀ b ∈ X.fs,X.H₀ b = none
structure Inv (X:Cx) (pins:List (Addr × Obj)) (σ:List (Option V)) (H:Hp) (s:Shared):Prop where
 ok:X.Ok
 os:s.os = X.s₀.os
 bare:AllBare s.gens
 base:Un X.fs X.ex X.H₀ H X.s₀.heap s.heap
 loc:∃ m,s.heap.Ns X.env.locals m/\∀ (i:Nat) (x:Str) (v:V),X.N[i]? = some x->σ[i]? = some (some v)->Vis X.env.scope x->∃ u,cM v u/\aLo X.env s.heap m x u
 cell:∀ x c,X.env.cells.lookup x = some c->∃ v,s.heap.IsCell c v
 free:H X.env.locals = none
 freeC:∀ x c,X.env.cells.lookup x = some c->H c = none
 pin:∀ p ∈ X.pn ++ pins,s.heap.get? p.1 = some p.2/\H p.1 = none/\p.1 ≠ X.env.locals/\p.1 ∉ X.fs/\∀ v,p.2.data ≠ .cell v
 hok:HOk X.prog X.w H s.heap
 len:σ.length = X.N.length
section
variable {X:Cx} {pins:List (Addr × Obj)} {σ:List (Option V)} {H H':Hp} {s:Shared} {h':Heap}
theorem Cx.Ok.nofr (ok:X.Ok) {b:Addr} {o:Obj} (e:X.base.get? b = some o):b ∉ X.fs:=fun hb=>by
 have:=(ok.funs.mem hb).1
 rw [e] at this;cases this
theorem Inv.bs (I:Inv X pins σ H s):∀ b o,X.base.get? b = some o->s.heap.get? b = some o/\H b = none:=fun b o e =>
 ⟨I.base.keep b o (I.ok.bs b o e).1 (I.ok.bs b o e).2 (I.ok.nofr e) (I.ok.noex b o e),I.base.free b o (I.ok.bs b o e).1 (I.ok.bs b o e).2 (I.ok.noex b o e)⟩
theorem Inv.bk (I:Inv X pins σ H s):∀ b o,X.base.get? b = some o->s.heap.get? b = some o:=fun b o e=>(I.bs b o e).1
theorem Inv.mod (I:Inv X pins σ H s):Mod X.K X.mg X.base:=I.ok.mod
theorem Inv.kIn (I:Inv X pins σ H s):X.K.In s.heap:=I.ok.mod.kin.keeps I.bk
theorem Inv.lt (I:Inv X pins σ H s):X.env.locals < s.heap.objs.size:=let ⟨_,hn,_⟩:=I.loc;hn.lt
theorem Inv.sz (I:Inv X pins σ H s):X.s₀.heap.objs.size<=s.heap.objs.size:=Nat.le_trans I.ok.above (Nat.le_of_lt I.lt)
theorem Inv.nofs (I:Inv X pins σ H s) {a:Addr} (h:s.heap.objs.size<=a):a ∉ X.fs:=fun hb=>by
 obtain ⟨_,o,ho,_⟩:=I.ok.funs.mem hb
 exact absurd (Nat.lt_of_lt_of_le (Heap.lt_size ho) (Nat.le_trans I.sz h)) (Nat.lt_irrefl _)
theorem Inv.cne (I:Inv X pins σ H s):∀ x c,X.env.cells.lookup x = some c->c ≠ X.env.locals:=fun x c e z=>by
 obtain ⟨v,o,ho,hd⟩:=I.cell x c e
 obtain ⟨m,⟨o',es,ep,ho',hd',_⟩,_⟩:=I.loc
 rw [z,ho'] at ho;cases ho;rw [hd'] at hd;cases hd
theorem Inv.funs (I:Inv X pins σ H s):s.heap.FunFrames X.base X.outer:=by
 have all:∀ (l:List Env),(∀ b ∈ frs l,b ∈ X.fs)->X.s₀.heap.FunFrames X.base l->s.heap.FunFrames X.base l:=by
  intro l
  induction l with
  | nil=>intro _ _;trivial
  | cons env r ih =>
   intro hs hl
   obtain ⟨hk,⟨L,o,hf,hn,ho,hd⟩,hr⟩:=hl
   have hL:L ∈ X.fs:=hs L (by unfold frs;rw [List.filterMap_cons,hf];exact List.mem_cons_self)
   obtain ⟨sl,e⟩:=I.base.slot L o ho (I.ok.frf L hL) hL fun z=>I.ok.exfs L z hL
   exact ⟨hk,⟨L,_,hf,hn,e,hd⟩,ih (fun b hb=>hs b (by unfold frs;rw [List.filterMap_cons,hf];exact List.mem_cons_of_mem _ hb)) hr⟩
 exact all X.outer (fun _ hb=>hb) I.ok.funs
theorem Inv.stack (I:Inv X pins σ H s):s.heap.FunFrames X.base X.stack:=by
 rcases I.ok.stk with e | ⟨e,hf⟩
 ·rw [e];exact I.funs
 ·rw [e]
  obtain ⟨m,hn,_⟩:=I.loc
  refine .cons (by rw [I.ok.kind];decide) hf hn ?_ I.funs
  exact Heap.get?_none_of_le (Nat.le_trans I.ok.bsz I.ok.above)
theorem Inv.stkSub (I:Inv X pins σ H s):∀ b ∈ frs X.stack,b ∈ X.env.locals :: X.fs:=fun b hb=>by
 rcases I.ok.stk with e | ⟨e,hf⟩
 ·rw [e] at hb;exact List.mem_cons_of_mem _ hb
 ·rw [e] at hb
  unfold frs at hb
  rw [List.filterMap_cons,hf] at hb
  exact hb
theorem Inv.stkFree (I:Inv X pins σ H s):∀ b ∈ frs X.stack,H b = none:=fun b hb=>by
 rcases List.mem_cons.mp (I.stkSub b hb) with e | hb
 ·rw [e];exact I.free
 ·obtain ⟨_,o,ho,_⟩:=I.ok.funs.mem hb
  exact I.base.free b o ho (I.ok.frf b hb) fun z=>I.ok.exfs b z hb
theorem Inv.step {g':Array GenState} {t':Nat} {d':Drawn} {ch:List Addr} (I:Inv X pins σ H s)
  (hch:∀ b ∈ ch,(b ∈ X.ex ∨ X.s₀.heap.objs.size<=b)/\b ≠ X.env.locals/\(∀ x c,X.env.cells.lookup x = some c->c ≠ b)/\∀ p ∈ X.pn ++ pins,p.1 ≠ b)
  (keep:∀ b o,b ≠ X.env.locals->b ∉ X.fs->b ∉ ch->s.heap.get? b = some o->H b = none->h'.get? b = some o)
  (slot:∀ b o,b ≠ X.env.locals->b ∈ X.fs->b ∉ ch->s.heap.get? b = some o->H b = none->∃ sl,h'.get? b = some { o with slots:=sl }) (free:∀ b o,b ∉ ch->s.heap.get? b = some o->H b = none->H' b = none)
  (there:∀ b o,b ∉ ch->s.heap.get? b = some o->∃ o',h'.get? b = some o')
  (tups:∀ b xs,H b = some (.tup xs)->H' b = some (.tup xs)) (frzs:∀ b o u,H b = some (.frz o u)->H' b = some (.frz o u)) (tbls:∀ b ps,H b = some (.tbl ps)->∃ more,H' b = some (.tbl (ps ++ more)))
  (ns:∀ m,s.heap.Ns X.env.locals m->h'.Ns X.env.locals m) (hok:HOk X.prog X.w H' h') (hg:AllBare g') :
  Inv X pins σ H' { s with heap:=h',gens:=g',drawn:=d',toks:=t' }:=by
 have neL:∀ b o,X.s₀.heap.get? b = some o->b ≠ X.env.locals:=fun b o e=>Nat.ne_of_lt (Nat.lt_of_lt_of_le (Heap.lt_size e) I.ok.above)
 have neC:∀ b o,X.s₀.heap.get? b = some o->b ∉ X.ex->b ∉ ch:=fun b o e hx hb=>by
  rcases (hch b hb).1 with z | z
  ·exact hx z
  ·exact absurd (Nat.lt_of_lt_of_le (Heap.lt_size e) z) (Nat.lt_irrefl _)
 have cellK:∀ x c,X.env.cells.lookup x = some c->∀ v,s.heap.IsCell c v->h'.IsCell c v:=fun x c e v ⟨o,ho,hd⟩=>by
  have nch:c ∉ ch:=fun z=>(hch c z).2.2.1 x c e rfl
  by_cases hc:c ∈ X.fs
  ·obtain ⟨sl,q⟩:=slot c o (I.cne x c e) hc nch ho (I.freeC x c e)
   exact ⟨_,q,hd⟩
  ·exact ⟨o,keep c o (I.cne x c e) hc nch ho (I.freeC x c e),hd⟩
 refine ⟨I.ok,I.os,hg,⟨fun b o e n hb hx=>?_,fun b o e n hb hx=>?_,fun b o e n hx=>?_,fun b o e hx=>?_,fun b xs e=>tups b xs (I.base.tups b xs e),fun b o xs e=>frzs b o xs (I.base.frzs b o xs e),fun b ps e=>?_⟩,?_,fun x c e=>?_,?_,fun x c e=>?_,fun p hp=>?_,hok,I.len⟩
 ·exact keep b o (neL b o e) hb (neC b o e hx) (I.base.keep b o e n hb hx) (I.base.free b o e n hx)
 ·obtain ⟨sl,e1⟩:=I.base.slot b o e n hb hx
  obtain ⟨sl',e2⟩:=slot b _ (neL b o e) hb (neC b o e hx) e1 (I.base.free b o e n hx)
  exact ⟨sl',e2⟩
 ·obtain ⟨o',e1⟩:=I.base.there b o e hx
  exact free b o' (neC b o e hx) e1 (I.base.free b o e n hx)
 ·obtain ⟨o',e1⟩:=I.base.there b o e hx
  exact there b o' (neC b o e hx) e1
 ·obtain ⟨m1,e1⟩:=I.base.tbls b ps e
  obtain ⟨m2,e2⟩:=tbls b _ e1
  exact ⟨m1 ++ m2,by rw [e2,Array.append_assoc]⟩
 ·obtain ⟨m,hn,hl⟩:=I.loc
  refine ⟨m,ns m hn,fun i x v e1 e2 e3=>?_⟩
  obtain ⟨u,r,l⟩:=hl i x v e1 e2 e3
  refine ⟨u,r,?_⟩
  rcases l with l | ⟨k,c,e,z⟩
  ·exact .inl l
  ·exact .inr ⟨k,c,e,cellK x c e _ z⟩
 ·obtain ⟨v,z⟩:=I.cell x c e
  exact ⟨v,cellK x c e v z⟩
 ·obtain ⟨m,⟨o,_,_,ho,_⟩,_⟩:=I.loc
  exact free _ o (fun z=>(hch _ z).2.1 rfl) ho I.free
 ·obtain ⟨v,o,ho,hd⟩:=I.cell x c e
  exact free c o (fun z=>(hch c z).2.2.1 x c e rfl) ho (I.freeC x c e)
 ·obtain ⟨e,n,ne,nf,d⟩:=I.pin p hp
  have nch:p.1 ∉ ch:=fun z=>(hch p.1 z).2.2.2 p hp rfl
  exact ⟨keep p.1 p.2 ne nf nch e n,free p.1 p.2 nch e n,ne,nf,d⟩
theorem Inv.un {t':Nat} (I:Inv X pins σ H s) (u:Un X.fs [] H H' s.heap h') (hok:HOk X.prog X.w H' h'):Inv X pins σ H' { s with heap:=h',toks:=t' }:=by
 obtain ⟨m,⟨o,es,ep,ho,r⟩,_⟩:=id I.loc
 obtain ⟨sl,hL⟩:=u.any ho I.free (by simp)
 exact I.step (g':=s.gens) (d':=s.drawn) (ch:=[]) (fun _ z=>nomatch z) (fun b o _ hb _ e n=>u.keep b o e n hb (by simp)) (fun b o _ hb _ e n=>u.slot b o e n hb (by simp)) (fun b o _ e n=>u.free b o e n (by simp)) (fun b o _ e=>u.there b o e (by simp)) u.tups u.frzs u.tbls (fun m' hm=>by
  obtain ⟨o',es',ep',ho',r'⟩:=hm
  rw [ho] at ho';cases ho'
  exact ⟨_,es',ep',hL,r'⟩) hok I.bare
theorem Inv.call {g':Array GenState} {t':Nat} {d':Drawn} {ch:List Addr} (I:Inv X pins σ H s) (u:Un (frs X.stack) ch H H' s.heap h') (hok:HOk X.prog X.w H' h') (hg:AllBare g')
  (hch:∀ b ∈ ch,(b ∈ X.ex ∨ X.s₀.heap.objs.size<=b)/\b ≠ X.env.locals/\(∀ x c,X.env.cells.lookup x = some c->c ≠ b)/\∀ p ∈ X.pn ++ pins,p.1 ≠ b) :
  Inv X pins σ H' { s with heap:=h',gens:=g',drawn:=d',toks:=t' }:=by
 obtain ⟨m,⟨o,es,ep,ho,r⟩,_⟩:=id I.loc
 obtain ⟨sl,hL⟩:=u.any ho I.free fun z=>(hch _ z).2.1 rfl
 exact I.step (ch:=ch) hch (fun b o hL hb hc e n=>u.keep b o e n (fun z=>(List.mem_cons.mp (I.stkSub b z)).elim hL hb) hc) (fun b o _ _ hc e n=>u.any e n hc) (fun b o hc e n=>u.free b o e n hc) (fun b o hc e=>u.there b o e hc) u.tups u.frzs u.tbls (fun m' hm=>by
  obtain ⟨o',es',ep',ho',r'⟩:=hm
  rw [ho] at ho';cases ho'
  exact ⟨_,es',ep',hL,r'⟩) hok hg
theorem Inv.turned {t':Nat} {it:Addr} (I:Inv X pins σ H s) (k:∀ b o,b ≠ it->s.heap.get? b = some o->h'.get? b = some o) (hn:H it = none) (hL:it ≠ X.env.locals)
  (h1:it ∈ X.ex ∨ X.s₀.heap.objs.size<=it) (h2:∀ x c,X.env.cells.lookup x = some c->c ≠ it) (h3:∀ p ∈ X.pn ++ pins,p.1 ≠ it):Inv X pins σ H { s with heap:=h',toks:=t' }:=by
 have nit:∀ b u,H b = some u->b ≠ it:=fun b u e z=>by rw [z,hn] at e;cases e
 refine I.step (g':=s.gens) (d':=s.drawn) (ch:=[it]) (fun b hb=>?_) (fun b o _ _ hc e _=>k b o (fun z=>hc (by simp [z])) e) (fun b o _ _ hc e _=>⟨o.slots,k b o (fun z=>hc (by simp [z])) e⟩) (fun _ _ _ _ n=>n)
  (fun b o hc e=>⟨o,k b o (fun z=>hc (by simp [z])) e⟩) (fun _ _ e=>e) (fun _ _ _ e=>e) (fun b ps e=>⟨#[],by rw [e];simp⟩) (fun m hm=>?_) (fun b u e=>?_) I.bare
 ·have e:b = it:=by simpa using hb
  subst e
  exact ⟨h1,hL,h2,h3⟩
 ·obtain ⟨o,es,ep,ho,r⟩:=hm
  exact ⟨o,es,ep,k _ o (Ne.symm hL) ho,r⟩
 ·refine (I.hok b u e).stay (fun c v hc q=>k c v ?_ q) (fun _ q=>q) fun _ _ q=>q
  rcases hc with z | z
  ·rw [z];exact nit b u e
  ·exact nit c _ z
theorem Inv.tok (I:Inv X pins σ H s) (t:Nat):Inv X pins σ H { s with toks:=t }:=I.un (h':=s.heap) (t':=t) Un.refl I.hok
theorem Inv.kept {t':Nat} (I:Inv X pins σ H s) (k:∀ b u,s.heap.get? b = some u->h'.get? b = some u):Inv X pins σ H { s with heap:=h',toks:=t' }:=I.un (Un.kept k) (I.hok.kept k)
theorem Inv.laid {a:Addr} {o:HO} {t':Nat} (I:Inv X pins σ H s) (k:∀ b u,s.heap.get? b = some u->h'.get? b = some u) (hp:s.heap.objs.size<=a) (new:fN X.prog X.w (upd H a o) h' a o) :
  Inv X pins σ (upd H a o) { s with heap:=h',toks:=t' }:=I.un (Un.laid k hp (I.hok.fresh hp)) (I.hok.laid k hp new)
theorem Inv.write {x e:Addr} {o:HO} {t':Nat} (I:Inv X pins σ H s) (mu:Mut (H x)) (he:e = x ∨ H e = some (.own x)) (k:∀ b u,b ≠ e->s.heap.get? b = some u->h'.get? b = some u) (heo:∃ u,h'.get? e = some u)
  (new:fN X.prog X.w (upd H x o) h' x o):Inv X pins σ (upd H x o) { s with heap:=h',toks:=t' }:=I.un (Un.write mu he k heo) (I.hok.write mu he k heo new)
theorem Inv.pins_of {pins':List (Addr × Obj)} (I:Inv X pins σ H s) (h:∀ p ∈ pins',s.heap.get? p.1 = some p.2/\H p.1 = none/\p.1 ≠ X.env.locals/\p.1 ∉ X.fs/\∀ v,p.2.data ≠ .cell v):Inv X pins' σ H s :=
 ⟨I.ok,I.os,I.bare,I.base,I.loc,I.cell,I.free,I.freeC,fun p hp=>(List.mem_append.mp hp).elim (fun z=>I.pin p (List.mem_append_left _ z)) (h p),I.hok,I.len⟩
theorem yC {N:List Str} (hN:N.Nodup) {i j:Nat} {x:Str} (a:N[i]? = some x) (b:N[j]? = some x):i = j:=by
 obtain ⟨h1,e1⟩:=List.getElem?_eq_some_iff.mp a
 obtain ⟨h2,e2⟩:=List.getElem?_eq_some_iff.mp b
 exact (List.getElem_inj hN).mp (e1.trans e2.symm)
theorem aAc {M:Model} {A:Around} {E:Value->Shared->Prop} {i:Nat} {x:Str} {v:V} {u:Value} {Q:Unit->Shared->Prop} (I:Inv X pins σ H s) (hN:X.N.Nodup) (hi:X.N[i]? = some x) (hx:Loc X.env.scope x) (r:cM v u)
  (h:∀ s',Inv X pins (σ.set i (some v)) H s'->(∃ a,Heap.SameBut a s.heap s'.heap/\(a = X.env.locals ∨ X.env.cells.lookup x = some a))->Q () s') (hf:X.fn x = true ∨ X.env.scope.names.lookup x = some .local:=by first | exact .inl rfl | exact .inr rfl | assumption):wpAny M A (storeName X.env x u) Q E s:=by
 obtain ⟨m,hn,hl⟩:=id I.loc
 have hcls:(X.env.scope.kind == .class || (X.env.scope.kind == .module && X.env.locals != X.env.globals)) = false:=by rw [I.ok.kind];rfl
 have hiσ:i < σ.length:=by rw [I.len];exact (List.getElem?_eq_some_iff.mp hi).1
 have cne:=I.cne
 have tracked:∀ {a:Addr} {h':Heap},(∃ o,s.heap.get? a = some o/\H a = none)->Heap.SameBut a s.heap h'->HOk X.prog X.w H h':=fun {a h'} ha hs b ob e=>by
  obtain ⟨_,_,hfree⟩:=ha
  refine (I.hok b ob e).stay (fun c w' hc q=>(hs.2 c ?_).trans q) (fun _ q=>q) fun _ _ q=>q
  rintro rfl
  rcases hc with rfl | hc
  ·rw [hfree] at e;cases e
  ·rw [hfree] at hc;cases hc
 rcases hx with hk | hk
 ·refine wpAny_storeName_local hk hn (fun h' hn' hs=>?_) hcls
  obtain ⟨oL,_,_,hoL,_⟩:=id hn
  refine h _ ⟨I.ok,I.os,I.bare,⟨fun b o e n hb hx=>?_,fun b o e n hb hx=>?_,I.base.free,fun b o e hx=>?_,I.base.tups,I.base.frzs,I.base.tbls⟩,⟨_,hn',fun j y v' e1 e2 e3=>?_⟩,fun y c e=>?_,I.free,I.freeC,fun p hp=>?_,tracked ⟨oL,hoL,I.free⟩ hs,by simpa using I.len⟩ ⟨_,hs,.inl rfl⟩
  ·exact (hs.2 b (Nat.ne_of_lt (Nat.lt_of_lt_of_le (Heap.lt_size e) I.ok.above))).trans (I.base.keep b o e n hb hx)
  ·obtain ⟨sl,e1⟩:=I.base.slot b o e n hb hx
   exact ⟨sl,(hs.2 b (Nat.ne_of_lt (Nat.lt_of_lt_of_le (Heap.lt_size e) I.ok.above))).trans e1⟩
  ·obtain ⟨o',e1⟩:=I.base.there b o e hx
   exact ⟨o',(hs.2 b (Nat.ne_of_lt (Nat.lt_of_lt_of_le (Heap.lt_size e) I.ok.above))).trans e1⟩
  ·by_cases hj:j = i
   ·subst hj
    rw [hi] at e1;cases e1
    rw [List.getElem?_set_self hiσ] at e2
    cases e2
    exact ⟨u,r,.inl ⟨hk,by simp⟩⟩
   ·rw [List.getElem?_set_ne (Ne.symm hj)] at e2
    obtain ⟨u',r',q⟩:=hl j y v' e1 e2 e3
    refine ⟨u',r',?_⟩
    rcases q with ⟨k,e⟩ | ⟨k,c,e,z⟩
    ·refine .inl ⟨k,?_⟩
     have:y ≠ x:=fun e=>hj (yC hN e1 (e ▸ hi))
     simp [this,e]
    ·exact .inr ⟨k,c,e,z.sameBut hs (cne y c e)⟩
  ·obtain ⟨w',z⟩:=I.cell y c e
   exact ⟨w',z.sameBut hs (cne y c e)⟩
  ·obtain ⟨e,n,ne,nf,d⟩:=I.pin p hp
   exact ⟨(hs.2 p.1 ne).trans e,n,ne,nf,d⟩
 ·have hfn:X.fn x = true:=by
   rcases hf with z | z
   ·exact z
   ·rw [z] at hk;cases hk
  obtain ⟨c,hc⟩:=I.ok.has x (.inl hk)
  obtain ⟨w',z⟩:=I.cell x c hc
  refine wpAny_storeName_cell I.ok.kind hk hc z (fun h' hc' hs=>?_)
  obtain ⟨oc,hoc,hocd⟩:=id z
  refine h { s with heap:=h' } ⟨I.ok,I.os,I.bare,⟨fun b o e n hb hx=>?_,fun b o e n hb hx=>?_,I.base.free,fun b o e hx=>?_,I.base.tups,I.base.frzs,I.base.tbls⟩,⟨m,hn.sameBut hs (Ne.symm (cne x c hc)),fun j y v' e1 e2 e3=>?_⟩,fun y c' e=>?_,I.free,I.freeC,fun p hp=>?_,tracked ⟨oc,hoc,I.freeC x c hc⟩ hs,by simpa using I.len⟩ ⟨c,hs,.inr hc⟩
  ·exact (hs.2 b (Nat.ne_of_lt (Nat.lt_of_lt_of_le (Heap.lt_size e) (I.ok.cab x c hfn hc)))).trans (I.base.keep b o e n hb hx)
  ·obtain ⟨sl,e1⟩:=I.base.slot b o e n hb hx
   exact ⟨sl,(hs.2 b (Nat.ne_of_lt (Nat.lt_of_lt_of_le (Heap.lt_size e) (I.ok.cab x c hfn hc)))).trans e1⟩
  ·obtain ⟨o',e1⟩:=I.base.there b o e hx
   exact ⟨o',(hs.2 b (Nat.ne_of_lt (Nat.lt_of_lt_of_le (Heap.lt_size e) (I.ok.cab x c hfn hc)))).trans e1⟩
  ·by_cases hj:j = i
   ·subst hj
    rw [hi] at e1;cases e1
    rw [List.getElem?_set_self hiσ] at e2
    cases e2
    exact ⟨u,r,.inr ⟨.inl hk,c,hc,hc'⟩⟩
   ·rw [List.getElem?_set_ne (Ne.symm hj)] at e2
    obtain ⟨u',r',q⟩:=hl j y v' e1 e2 e3
    refine ⟨u',r',?_⟩
    rcases q with q | ⟨k,c',e,z'⟩
    ·exact .inl q
    ·refine .inr ⟨k,c',e,z'.sameBut hs ?_⟩
     rintro rfl
     exact hj (yC hN e1 (I.ok.inj _ _ _ e hc ▸ hi))
  ·by_cases hcc:c' = c
   ·subst hcc;exact ⟨_,hc'⟩
   ·obtain ⟨w2,z2⟩:=I.cell y c' e
    exact ⟨w2,z2.sameBut hs hcc⟩
  ·obtain ⟨e,n,ne,nf,d⟩:=I.pin p hp
   refine ⟨(hs.2 p.1 ?_).trans e,n,ne,nf,d⟩
   intro q
   rw [q,hoc] at e
   have q':oc = p.2:=Option.some.inj e
   exact d w' (by rw [<- q'];exact hocd)
theorem mL {M:Model} {A:Around} {E:Value->Shared->Prop} {i:Nat} {x:Str} {v:V} {u:Value} {Q:Unit->Shared->Prop} (I:Inv X pins σ H s) (hN:X.N.Nodup) (hi:X.N[i]? = some x) (hx:Loc X.env.scope x) (r:cM v u)
  (h:∀ s',Inv X pins (σ.set i (some v)) H s'->Q () s') (hf:X.fn x = true ∨ X.env.scope.names.lookup x = some .local:=by first | exact .inl rfl | exact .inr rfl | assumption):wpAny M A (storeName X.env x u) Q E s :=
 aAc I hN hi hx r (fun s' I' _=>h s' I') hf
theorem Inv.call' {s':Shared} {ch:List Addr} (I:Inv X pins σ H s) (ho:s'.os = s.os) (u:Un (frs X.stack) ch H H' s.heap s'.heap) (hok:HOk X.prog X.w H' s'.heap) (hg:AllBare s'.gens)
  (hch:∀ b ∈ ch,(b ∈ X.ex ∨ X.s₀.heap.objs.size<=b)/\b ≠ X.env.locals/\(∀ x c,X.env.cells.lookup x = some c->c ≠ b)/\∀ p ∈ X.pn ++ pins,p.1 ≠ b):Inv X pins σ H' s':=by
 obtain ⟨h',g',d',t',o'⟩:=s'
 have e:o' = s.os:=ho
 subst e
 exact I.call (g':=g') (t':=t') (d':=d') u hok hg hch
end
noncomputable abbrev XK:=Value->Option Addr->Hp->Prop
noncomputable abbrev St:=List (Option V)
noncomputable abbrev VK:=V->Hp->Prop
noncomputable abbrev TE:=St->Hp->VK->Prop
noncomputable abbrev TT:=St->Hp->(Bool->Hp->Prop)->Prop
noncomputable abbrev TA:=St->Hp->(List V->Hp->Prop)->Prop
structure sR where
 nx:St->Hp->Prop
 rt:VK
 bk:St->Hp->Prop:=fun _ _=>False
 ct:St->Hp->Prop:=fun _ _=>False
noncomputable abbrev TS:=sR->St->Hp->Prop
noncomputable def EP (X:Cx) (pins:List (Addr × Obj)) (σ:St) (Q:VK) (u:Value) (s':Shared):Prop:=∃ v H',Inv X pins σ H' s'/\cM v u/\Q v H'
noncomputable def TP (X:Cx) (pins:List (Addr × Obj)) (σ:St) (Q:Bool->Hp->Prop) (b:Bool) (s':Shared):Prop:=∃ H',Inv X pins σ H' s'/\Q b H'
noncomputable def AP (X:Cx) (pins:List (Addr × Obj)) (σ:St) (Q:List V->Hp->Prop) (us:List Value) (s':Shared):Prop:=∃ vs H',Inv X pins σ H' s'/\cD vs us/\Q vs H'
noncomputable def SP (X:Cx) (pins:List (Addr × Obj)) (D:sR) (f:Flow) (s':Shared):Prop :=
 match f with
 | .next=>∃ σ' H',Inv X pins σ' H' s'/\D.nx σ' H'
 | .brk=>∃ σ' H',Inv X pins σ' H' s'/\D.bk σ' H'
 | .cont=>∃ σ' H',Inv X pins σ' H' s'/\D.ct σ' H'
 | .ret u=>∃ v σ' H',Inv X pins σ' H' s'/\cM v u/\D.rt v H'
noncomputable def PE (X:Cx) (e:Expr) (t:TE):Prop :=
 ∀ (pins:List (Addr × Obj)) (s:Shared) (σ:St) (H:Hp) (Q:VK),Inv X pins σ H s->t σ H Q->wpAny (model X.prog X.w) X.A (eval e X.env) (EP X pins σ Q) X.xe s
noncomputable def PT (X:Cx) (e:Expr) (t:TT):Prop :=
 ∀ (pins:List (Addr × Obj)) (s:Shared) (σ:St) (H:Hp) (Q:Bool->Hp->Prop),Inv X pins σ H s->t σ H Q->wpAny (model X.prog X.w) X.A (isTrue e X.env (eval e X.env)) (TP X pins σ Q) X.xe s
noncomputable def PW (X:Cx) (e:Expr) (t:TT):Prop :=
 ∀ (whole:Sem Value) (pins:List (Addr × Obj)) (s:Shared) (σ:St) (H:Hp) (Q:Bool->Hp->Prop),Inv X pins σ H s->t σ H Q->wpAny (model X.prog X.w) X.A (isTrue e X.env whole) (TP X pins σ Q) X.xe s
theorem PW.pt {X:Cx} {e:Expr} {t:TT} (h:PW X e t):PT X e t:=h _
noncomputable def PA (X:Cx) (es:List Expr) (t:TA):Prop :=
 ∀ (pos:Pos) (pins:List (Addr × Obj)) (s:Shared) (σ:St) (H:Hp) (Q:List V->Hp->Prop),Inv X pins σ H s->t σ H Q->wpAny (model X.prog X.w) X.A (spliced (backTo pos (starEach es X.env))) (AP X pins σ Q) X.xe s
noncomputable def PS (X:Cx) (st:Stmt) (t:TS):Prop :=
 ∀ (pins:List (Addr × Obj)) (s:Shared) (σ:St) (H:Hp) (D:sR),Inv X pins σ H s->t D σ H->wpAny (model X.prog X.w) X.A (exec st X.env) (SP X pins D) X.xe s
noncomputable def PSs (X:Cx) (st:List Stmt) (t:TS):Prop :=
 ∀ (pins:List (Addr × Obj)) (s:Shared) (σ:St) (H:Hp) (D:sR),Inv X pins σ H s->t D σ H->wpAny (model X.prog X.w) X.A (execs st X.env) (SP X pins D) X.xe s
theorem thn {α:Type} {t:Sem α} {Q Q':α->Shared->Prop} {M:Model} {A:Around} {E:Value->Shared->Prop} {s:Shared} (h:wpAny M A t Q E s) (hQ:∀ a s,Q a s->Q' a s):wpAny M A t Q' E s:=wpAny_mono h hQ fun _ _ x=>x
end L2
namespace L2
open PySem PySem.Spec PyProof.Rows
section
variable {X:Cx}
noncomputable def aLf (i:Nat):TE:=fun σ H Q=>∃ v,σ[i]? = some (some v)/\Q v H
noncomputable def tC (v:V):TE:=fun _ H Q=>Q v H
theorem xF {i:Nat} {x:Str} {pos:Pos} (hN:X.N[i]? = some x) (hv:Vis X.env.scope x) (hd:(x == ("__debug__":Str)) = false:=by decide) (hcd:(x == ("__classdict__":Str)) = false:=by decide):PE X (.Name x pos) (aLf i):=by
 intro pins s σ H Q I h
 obtain ⟨v,e,h⟩:=h
 obtain ⟨m,hn,hl⟩:=I.loc
 obtain ⟨u,r,l⟩:=hl i x v hN e hv
 have fin:EP X pins σ Q u s:=⟨v,H,I,r,h⟩
 rcases l with ⟨hk,hm⟩ | ⟨hk,c,hc,hcell⟩
 ·exact wpAny_Name (wpAny_loadName_local I.ok.kind hk hn hm fin) hd
 ·rcases hk with hk | hk
  ·exact wpAny_Name (wpAny_loadName_cell I.ok.kind hk hc hcell fin) hd
  ·exact wpAny_Name (wpAny_loadName_free I.ok.kind hk hc hcell fin hcd) hd
theorem aIM {i j pos}:PE X (.Constant (.int i) j pos) (tC (.int i)):=fun _ _ _ H _ I h=>wpAny_Constant_int ⟨.int i,H,I.tok _,⟨_,rfl⟩,h⟩
theorem aLY {b j pos}:PE X (.Constant (.bool b) j pos) (tC (.bl b)):=fun _ _ _ H _ I h=>Constant_bool ⟨.bl b,H,I,rfl,h⟩
theorem aIm {j pos}:PE X (.Constant .none j pos) (tC .non):=fun _ _ _ H _ I h=>Constant_none ⟨.non,H,I,rfl,h⟩
theorem aIB {x j pos}:PE X (.Constant (.str x) j pos) (tC (.str x)):=fun _ _ _ H _ I h=>Calls.Constant_str ⟨.str x,H,I.tok _,⟨_,rfl⟩,h⟩
noncomputable def Gl (X:Cx) (x:Str):Prop:=X.env.kindOf x = some .globalImplicit
theorem jA {E:Value->Shared->Prop} {pins:List (Addr × Obj)} {s:Shared} {σ:St} {H:Hp} {x:Str} {u:Value} {pos:Pos} {Q:Value->Shared->Prop} (I:Inv X pins σ H s) (hg:Gl X x) (hm:X.mg x = some u) (h:Q u s)
  (hd:(x == ("__debug__":Str)) = false:=by decide):wpAny (model X.prog X.w) X.A (eval (.Name x pos) X.env) Q E s :=
 Calls.Name_function_global I.ok.kind hg (Calls.loadGlobal_global (by rw [I.ok.glob];exact I.mod.glob.keeps I.bk) hm h) hd
theorem aAo {E:Value->Shared->Prop} {pins:List (Addr × Obj)} {s:Shared} {σ:St} {H:Hp} {x:Str} {u:Value} {pos:Pos} {Q:Value->Shared->Prop} (I:Inv X pins σ H s) (hg:Gl X x) (hm:X.mg x = none) (hv:bootBuiltins x = some u) (h:Q u s)
  (hn:x ≠ "__name__":=by decide) (hd:(x == ("__debug__":Str)) = false:=by decide):wpAny (model X.prog X.w) X.A (eval (.Name x pos) X.env) Q E s:=by
 obtain ⟨mb,h1,h2⟩:=I.mod.blt
 exact Calls.Name_function_global I.ok.kind hg (Calls.loadGlobal_builtin (by rw [I.ok.glob];exact I.mod.glob.keeps I.bk) hm (by rw [I.ok.blt];exact h1.keeps I.bk) ((h2 x hn).trans hv) h) hd
theorem aG8 {x:Str} {v:V} {u:Value} {pos:Pos} (hg:Gl X x) (hm:X.mg x = some u) (r:cM v u) (hd:(x == ("__debug__":Str)) = false:=by decide):PE X (.Name x pos) (tC v) :=
 fun _ _ _ H _ I h=>jA I hg hm ⟨v,H,I,r,h⟩ hd
theorem aGf {x:Str} {v:V} {u:Value} {pos:Pos} (hg:Gl X x) (hm:X.mg x = none) (hv:bootBuiltins x = some u) (r:cM v u) (hn:x ≠ "__name__":=by decide) (hd:(x == ("__debug__":Str)) = false:=by decide):PE X (.Name x pos) (tC v) :=
 fun _ _ _ H _ I h=>aAo I hg hm hv ⟨v,H,I,r,h⟩ hn hd
variable {a b:Expr} {ta tb:TE} {pos:Pos}
noncomputable def tB (t:TE):TT:=fun σ H Q=>t σ H fun x H1=>∃ c,x = .bl c/\Q c H1
theorem aHY {e:Expr} {t:TE} (h:PE X e t) (he:∀ whole,isTrue e X.env whole = (do let v <- whole;standAt e.pos;holding [v] (truthy v)):=by intro _;rfl):PT X e (tB t):=by
 intro pins s σ H Q I hw
 refine isTrue_plain (thn (h pins s σ H _ I hw) fun v s1 ⟨x,H1,I1,r1,q1⟩=>?_) (he _)
 obtain ⟨d,rfl,q⟩:=q1
 cases r1
 exact wpAny_truthy_bool ⟨H1,I1,q⟩
variable {tA tB':TT} {cR:List Expr}
noncomputable def aMm (t u:TT):TT:=fun σ H Q=>t σ H fun c H1=>if c = true then u σ H1 Q else Q false H1
noncomputable def tOr (t u:TT):TT:=fun σ H Q=>t σ H fun c H1=>if c = true then Q true H1 else u σ H1 Q
noncomputable def aME (t:TT):TT:=fun σ H Q=>t σ H fun c H1=>Q (!c) H1
theorem aGN (ha:PT X a tA):PW X (.BoolOp .And [a] pos) tA:=by
 intro wh pins s σ H Q I h
 refine isTrue_and (thn (ha pins s σ H Q I h) fun c s1 e=>?_)
 cases c with
 | true=>exact isTrue_and_nil e
 | false=>exact e
theorem aJY (ha:PT X a tA):PW X (.BoolOp .Or [a] pos) tA:=by
 intro wh pins s σ H Q I h
 refine isTrue_or (thn (ha pins s σ H Q I h) fun c s1 e=>?_)
 cases c with
 | false=>exact isTrue_or_nil e
 | true=>exact e
theorem aJw (ha:PT X a tA) (hb:PW X (.BoolOp .And (b :: cR) pos) tB'):PW X (.BoolOp .And (a :: b :: cR) pos) (aMm tA tB'):=by
 intro wh pins s σ H Q I h
 refine isTrue_and (thn (ha pins s σ H _ I h) fun c s1 ⟨H1,I1,q1⟩=>?_)
 cases c with
 | true=>exact hb wh pins s1 σ H1 Q I1 q1
 | false=>exact ⟨H1,I1,q1⟩
theorem aLR (ha:PT X a tA) (hb:PW X (.BoolOp .Or (b :: cR) pos) tB'):PW X (.BoolOp .Or (a :: b :: cR) pos) (tOr tA tB'):=by
 intro wh pins s σ H Q I h
 refine isTrue_or (thn (ha pins s σ H _ I h) fun c s1 ⟨H1,I1,q1⟩=>?_)
 cases c with
 | true=>exact ⟨H1,I1,q1⟩
 | false=>exact hb wh pins s1 σ H1 Q I1 q1
theorem aIc (ha:PT X a tA):PT X (.UnaryOp .Not a pos) (aME tA):=by
 intro pins s σ H Q I h
 exact isTrue_not (ha pins s σ H (fun c H1=>Q (!c) H1) I h)
noncomputable def aKQ (ta tb:TE):TE:=fun σ H Q=>ta σ H fun x H1=>∃ c,x = .bl c/\if c = true then tb σ H1 Q else Q (.bl false) H1
noncomputable def aMg (ta tb:TE):TE:=fun σ H Q=>ta σ H fun x H1=>∃ c,x = .bl c/\if c = true then Q (.bl true) H1 else tb σ H1 Q
noncomputable def aLE (ta:TE):TE:=fun σ H Q=>ta σ H fun x H1=>∃ c,x = .bl c/\Q (.bl (!c)) H1
theorem aJr {op} {t:TE} (h:PE X a t):PE X (.BoolOp op [a] pos) t:=fun pins s σ H Q I hw=>BoolOp_one (h pins s σ H Q I hw)
theorem aJP (ha:PE X a ta) (hb:PE X (.BoolOp .And (b :: cR) pos) tb):PE X (.BoolOp .And (a :: b :: cR) pos) (aKQ ta tb):=by
 intro pins s σ H Q I h
 refine BoolOp_and (thn (ha pins s σ H _ I h) fun v s1 ⟨x,H1,I1,r1,q1⟩=>?_)
 obtain ⟨c,rfl,q1⟩:=q1
 cases r1
 refine wpAny_truthy_bool ?_
 cases c with
 | true=>exact hb pins s1 σ H1 Q I1 q1
 | false=>exact ⟨.bl false,H1,I1,rfl,q1⟩
theorem aKJ (ha:PE X a ta) (hb:PE X (.BoolOp .Or (b :: cR) pos) tb):PE X (.BoolOp .Or (a :: b :: cR) pos) (aMg ta tb):=by
 intro pins s σ H Q I h
 refine BoolOp_or (thn (ha pins s σ H _ I h) fun v s1 ⟨x,H1,I1,r1,q1⟩=>?_)
 obtain ⟨c,rfl,q1⟩:=q1
 cases r1
 refine wpAny_truthy_bool ?_
 cases c with
 | false=>exact hb pins s1 σ H1 Q I1 q1
 | true=>exact ⟨.bl true,H1,I1,rfl,q1⟩
theorem aJH (ha:PE X a ta):PE X (.UnaryOp .Not a pos) (aLE ta):=by
 intro pins s σ H Q I h
 refine UnaryOp_ (thn (ha pins s σ H _ I h) fun v s1 ⟨x,H1,I1,r1,q1⟩=>?_)
 obtain ⟨c,rfl,q1⟩:=q1
 cases r1
 exact not_of (wpAny_truthy_bool ⟨.bl (!c),H1,I1,rfl,q1⟩)
noncomputable def tIf (t:TT) (ta tb:TE):TE:=fun σ H Q=>t σ H fun c H1=>if c = true then ta σ H1 Q else tb σ H1 Q
theorem aFu {c:Expr} (hc:PT X c tA) (ha:PE X a ta) (hb:PE X b tb):PE X (.IfExp c a b pos) (tIf tA ta tb):=by
 intro pins s σ H Q I h
 refine wpAny_IfExp (thn (hc pins s σ H _ I h) fun d s1 ⟨H1,I1,q1⟩=>?_)
 cases d with
 | true=>exact ha pins s1 σ H1 Q I1 q1
 | false=>exact hb pins s1 σ H1 Q I1 q1
end
end L2
namespace L2
open PySem PySem.Spec PyProof.Rows
noncomputable def SqL (K:PySem.W.Frag) (H:Hp) (a:Addr) (xs:List V):Prop :=
 Rd H a (.lst xs) ∨
  ∃ (o:Obj) (its:Array Value) (n:Nat),K.lookup a = some o/\o.cls = .type "list"/\o.dict = none/\o.data = .seq its n/\its.size<=sizeLine/\cD xs its.toList
noncomputable def SqT (K:PySem.W.Frag) (H:Hp) (a:Addr) (xs:List V):Prop :=
 Rd H a (.tup xs) ∨
  ∃ (o:Obj) (its:Array Value) (n:Nat),K.lookup a = some o/\o.cls = .type "tuple"/\o.data = .seq its n/\its.size<=sizeLine/\cD xs its.toList
noncomputable def aL8:Value->Option V
 | .none=>some .non
 | .bool b=>some (.bl b)
 | .int i _=>some (.int i)
 | .str x _=>some (.str x)
 | .bytes b _=>some (.byt b)
 | .float b _=>some (.flt b)
 | .ref a=>some (.ref a)
 | .type n=>some (.ty n)
 | _=>none
theorem cM.abs {x:V} {u:Value} (r:cM x u):aL8 u = some x:=by
 cases x with
 | non=>cases r;rfl
 | bl _=>cases r;rfl
 | int _=>obtain ⟨t,rfl⟩:=r;rfl
 | str _=>obtain ⟨t,rfl⟩:=r;rfl
 | byt _=>obtain ⟨t,rfl⟩:=r;rfl
 | flt _=>obtain ⟨t,rfl⟩:=r;rfl
 | ref _=>cases r;rfl
 | ty _=>cases r;rfl
theorem cM.inj {x y:V} {u:Value} (r:cM x u) (q:cM y u):x = y:=Option.some.inj (r.abs.symm.trans q.abs)
theorem cD.inj:∀ {xs ys:List V} {us:List Value},cD xs us->cD ys us->xs = ys
 | _,_,_,.nil,.nil=>rfl
 | _,_,_,.cons r t,.cons r' t'=>by rw [r.inj r',cD.inj t t']
section
variable {X:Cx} {pins:List (Addr × Obj)} {σ:St} {H:Hp} {s:Shared} {a:Addr} {xs ys:List V}
theorem SqL.of {K:PySem.W.Frag} (h:H a = some (.lst xs)):SqL K H a xs:=.inl (.inl h)
theorem SqT.of {K:PySem.W.Frag} (h:H a = some (.tup xs)):SqT K H a xs:=.inl (.inl h)
theorem Inv.list (I:Inv X pins σ H s) (h:SqL X.K H a xs):∃ its:List Value,cD xs its/\PlainL s.heap a its.toArray/\xs.length<=sizeLine:=by
 rcases h with h | ⟨o,its,n,hk,hc,hd,hs,hz,r⟩
 ·obtain ⟨z,its,n,r,e⟩:=h.ok I.hok
  exact ⟨its,r,⟨_,n,e,rfl,rfl,rfl⟩,z⟩
 ·refine ⟨its.toList,r,⟨o,n,I.kIn a o hk,hc,hd,by simpa using hs⟩,?_⟩
  have e:=r.length
  simp only [Array.length_toList] at e
  omega
theorem Inv.tuple (I:Inv X pins σ H s) (h:SqT X.K H a xs):∃ its:List Value,cD xs its/\IsTup s.heap a its.toArray/\xs.length<=sizeLine:=by
 rcases h with h | ⟨o,its,n,hk,hc,hs,hz,r⟩
 ·obtain ⟨z,its,r,p⟩:=h.ok I.hok
  exact ⟨its,r,p,z⟩
 ·refine ⟨its.toList,r,⟨o,I.kIn a o hk,hc,n,by simpa using hs⟩,?_⟩
  have e:=r.length
  simp only [Array.length_toList] at e
  omega
theorem Inv.list_inj (I:Inv X pins σ H s) (h:SqL X.K H a xs) (h':SqL X.K H a ys):xs = ys:=by
 obtain ⟨its,r,⟨o,n,e,_,_,d⟩,_⟩:=I.list h
 obtain ⟨its',r',⟨o',n',e',_,_,d'⟩,_⟩:=I.list h'
 rw [e] at e';cases e'
 rw [d] at d'
 injection d' with d1 _
 have:its = its':=by simpa using congrArg Array.toList d1
 subst this
 exact r.inj r'
theorem Inv.tuple_inj (I:Inv X pins σ H s) (h:SqT X.K H a xs) (h':SqT X.K H a ys):xs = ys:=by
 obtain ⟨its,r,⟨o,e,_,n,d⟩,_⟩:=I.tuple h
 obtain ⟨its',r',⟨o',e',_,n',d'⟩,_⟩:=I.tuple h'
 rw [e] at e';cases e'
 rw [d] at d'
 injection d' with d1 _
 have:its = its':=by simpa using congrArg Array.toList d1
 subst this
 exact r.inj r'
end
noncomputable abbrev Cx.wish (X:Cx) (E:Value->Shared->Prop):Cx:={ X with xe:=E }
noncomputable abbrev Cx.nox (X:Cx):Cx:=X.wish fun _ _=>False
theorem Cx.Ok.wish {X:Cx} (ok:X.Ok) (E:Value->Shared->Prop):(X.wish E).Ok :=
 ⟨ok.mod,ok.kind,ok.glob,ok.blt,ok.above,ok.inj,ok.has,ok.cab,ok.hd,ok.frames,ok.stk,ok.exf,ok.bs,ok.bsz,ok.noex,ok.exfs,ok.funs,ok.frf⟩
theorem Cx.Ok.unwish {X:Cx} {E:Value->Shared->Prop} (ok:(X.wish E).Ok):X.Ok :=
 ⟨ok.mod,ok.kind,ok.glob,ok.blt,ok.above,ok.inj,ok.has,ok.cab,ok.hd,ok.frames,ok.stk,ok.exf,ok.bs,ok.bsz,ok.noex,ok.exfs,ok.funs,ok.frf⟩
section
variable {X:Cx} {pins:List (Addr × Obj)} {σ:St} {H:Hp} {s:Shared} {E:Value->Shared->Prop}
theorem Inv.wish (I:Inv X pins σ H s) (E:Value->Shared->Prop):Inv (X.wish E) pins σ H s:=⟨I.ok.wish E,I.os,I.bare,I.base,I.loc,I.cell,I.free,I.freeC,I.pin,I.hok,I.len⟩
theorem Inv.unwish (I:Inv (X.wish E) pins σ H s):Inv X pins σ H s:=⟨I.ok.unwish,I.os,I.bare,I.base,I.loc,I.cell,I.free,I.freeC,I.pin,I.hok,I.len⟩
theorem SP.unwish {D:sR} {f:Flow} {s':Shared} (h:SP (X.wish E) pins D f s'):SP X pins D f s':=by
 cases f with
 | next=>obtain ⟨σ',H',I,q⟩:=h;exact ⟨σ',H',I.unwish,q⟩
 | brk=>obtain ⟨σ',H',I,q⟩:=h;exact ⟨σ',H',I.unwish,q⟩
 | cont=>obtain ⟨σ',H',I,q⟩:=h;exact ⟨σ',H',I.unwish,q⟩
 | ret u=>obtain ⟨v,σ',H',I,r,q⟩:=h;exact ⟨v,σ',H',I.unwish,r,q⟩
theorem PSs.nox {st:List Stmt} {t:TS} (h:PSs X.nox st t):PSs X st t:=fun pins s σ H D I hw =>
 wpAny_mono (h pins s σ H D (I.wish _) hw) (fun _ _ q=>q.unwish) fun _ _ z=>False.elim z
end
section
variable {X:Cx} {st:Stmt} {cR:List Stmt} {t u:TS} {e:Expr} {te:TE} {pos:Pos}
noncomputable def aK8:TS:=fun D σ H=>D.nx σ H
noncomputable def aMj (t u:TS):TS:=fun D σ H=>t { D with nx:=u D } σ H
theorem aHb:PSs X [] aK8:=fun _ _ σ H _ I h=>wpAny_execs_nil ⟨σ,H,I,h⟩
theorem aBJ (h1:PS X st t) (h2:PSs X cR u):PSs X (st :: cR) (aMj t u):=by
 intro pins s σ H D I h
 refine wpAny_execs_cons (thn (h1 pins s σ H { D with nx:=u D } I h) fun f s1 q=>?_)
 cases f with
 | next =>
  obtain ⟨σ',H',I',q⟩:=q
  exact h2 pins s1 σ' H' D I' q
 | ret v=>exact q
 | brk=>exact q
 | cont=>exact q
theorem aC0 (h1:PS X st t):PSs X [st] t:=by
 intro pins s σ H D I h
 refine wpAny_execs_cons (thn (h1 pins s σ H D I h) fun f s1 q=>?_)
 cases f with
 | next=>exact wpAny_execs_nil q
 | ret v=>exact q
 | brk=>exact q
 | cont=>exact q
theorem Inv.quiet {pins:List (Addr × Obj)} {σ:St} {H:Hp} {s:Shared} (I:Inv X pins σ H s):interactive X.env = false:=by simp [interactive,I.ok.kind]
noncomputable def aLb (te:TE):TS:=fun D σ H=>te σ H fun _ H1=>D.nx σ H1
theorem aGd (he:PE X e te) (hs:swapsWith e none pos.line X.env = pure false:=by rfl):PS X (.Expr e pos) (aLb te):=by
 intro pins s σ H D I h
 exact wpAny_Expr_any (thn (he pins s σ H _ I h) fun v s1 ⟨x,H1,I1,r1,q1⟩=>⟨σ,H1,I1,q1⟩) I.quiet hs
noncomputable def aMq (te:TE):TS:=fun D σ H=>te σ H D.rt
theorem aHZ (he:PE X e te):PS X (.Return (some e) pos) (aMq te):=by
 intro pins s σ H D I h
 exact wpAny_Return_some (thn (he pins s σ H _ I h) fun v s1 ⟨x,H1,I1,r1,q1⟩=>⟨x,σ,H1,I1,r1,q1⟩)
noncomputable def aMr (c:TT) (t u:TS):TS:=fun D σ H=>c σ H fun b H1=>if b = true then t D σ H1 else u D σ H1
theorem aLH {c:Expr} {a b:List Stmt} {tc:TT} (hc:PT X c tc) (ha:PSs X a t) (hb:PSs X b u):PS X (.If c a b pos) (aMr tc t u):=by
 intro pins s σ H D I h
 refine wpAny_If (thn (hc pins s σ H _ I h) fun d s1 ⟨H1,I1,q1⟩=>?_)
 cases d with
 | true=>exact ha pins s1 σ H1 D I1 q1
 | false=>exact hb pins s1 σ H1 D I1 q1
end
noncomputable abbrev TG:=V->St->Hp->(St->Hp->Prop)->Prop
noncomputable abbrev TGs:=List V->St->Hp->(St->Hp->Prop)->Prop
noncomputable def PG (X:Cx) (target:Expr) (t:TG):Prop :=
 ∀ (pins:List (Addr × Obj)) (s:Shared) (σ:St) (H:Hp) (v:V) (u:Value) (Q:St->Hp->Prop),Inv X pins σ H s->cM v u->t v σ H Q ->
  wpAny (model X.prog X.w) X.A (assign target X.env u) (fun _ s'=>∃ σ' H',Inv X pins σ' H' s'/\Q σ' H') X.xe s
noncomputable def PGs (X:Cx) (ts:List Expr) (t:TGs):Prop :=
 ∀ (pins:List (Addr × Obj)) (s:Shared) (σ:St) (H:Hp) (vs:List V) (us:List Value) (Q:St->Hp->Prop),Inv X pins σ H s->cD vs us->t vs σ H Q ->
  wpAny (model X.prog X.w) X.A (assignInOrder ((assignEach ts X.env).map (·.2)) us) (fun _ s'=>∃ σ' H',Inv X pins σ' H' s'/\Q σ' H') X.xe s
noncomputable abbrev TIp:=V->V->Hp->VK->Prop
noncomputable def PIp (X:Cx) (op:Operator) (t:TIp):Prop :=
 ∀ (pins:List (Addr × Obj)) (s:Shared) (σ:St) (H:Hp) (x y:V) (v u:Value) (Q:VK),Inv X pins σ H s->cM x v->cM y u->t x y H Q ->
  wpAny (model X.prog X.w) X.A (inplaceOp op v u) (EP X pins σ Q) X.xe s
section
variable {X:Cx} {pos:Pos}
noncomputable def aHB (i:Nat):TG:=fun v σ H Q=>Q (σ.set i (some v)) H
theorem aGg {i:Nat} {x:Str} (hN:X.N.Nodup) (hi:X.N[i]? = some x) (hx:Loc X.env.scope x) (hf:X.fn x = true ∨ X.env.scope.names.lookup x = some .local:=by first | exact .inl rfl | exact .inr rfl | assumption):PG X (.Name x pos) (aHB i):=by
 intro pins s σ H v u Q I r h
 exact wpAny_assign_Name (mL I hN hi hx r (fun s' I'=>⟨_,H,I',h⟩) hf)
noncomputable def aMx:TGs:=fun vs σ H Q=>vs = []/\Q σ H
noncomputable def aLg (t:TG) (u:TGs):TGs:=fun vs σ H Q=>∃ v r,vs = v :: r/\t v σ H fun σ' H'=>u r σ' H' Q
theorem aGk:PGs X [] aMx:=by
 intro pins s σ H vs us Q I r h
 obtain ⟨e,h⟩:=h
 subst e
 cases r
 exact assignInOrder_nil ⟨σ,H,I,h⟩
theorem aEH {e:Expr} {es:List Expr} {t:TG} {u:TGs} (h1:PG X e t) (h2:PGs X es u)
  (hs:(assignEach (e :: es) X.env).map (·.2) = assign e X.env :: (assignEach es X.env).map (·.2):=by rfl):PGs X (e :: es) (aLg t u):=by
 intro pins s σ H vs us Q I r h
 obtain ⟨v,vr,e1,h⟩:=h
 subst e1
 cases r with
 | cons r rr =>
  rw [hs]
  refine assignInOrder_cons (thn (h1 pins s σ H _ _ _ I r h) fun _ s1 ⟨σ1,H1,I1,q1⟩=>?_)
  exact h2 pins s1 σ1 H1 _ _ Q I1 rr q1
noncomputable def aMz (K:PySem.W.Frag) (n:Nat) (t:TGs):TG:=fun v σ H Q=>∃ a xs,v = .ref a/\SqT K H a xs/\xs.length = n/\t xs σ H Q
theorem aIe {es:List Expr} {k:Nat} {t:TGs} {n:Nat} (hc:X.calm = true) (h:PGs X es t)
  (hn:(assignEach es X.env).length = n:=by rfl) (hst:(assignEach es X.env).findIdx? (·.1) = none:=by rfl):PG X (.Tuple es k pos) (aMz X.K n t):=by
 intro pins s σ H v u Q I r hw
 obtain ⟨a,xs,e1,hq,hl,hw⟩:=hw
 subst e1
 cases r
 obtain ⟨its,rv,ht,hz⟩:=I.tuple hq
 refine assign_Tuple_tuple (I.ok.hd hc) ht (by simp [hn,<- hl,rv.length]) hst fun h' hx=>?_
 have I1:Inv X pins σ H { s with heap:=h' }:=I.kept (t':=s.toks) fun b o e=>hx b o (Nat.ne_of_lt (Heap.lt_size e)) e
 exact h pins _ σ H xs _ Q I1 (by simpa using rv) hw
noncomputable def aLv (te:TE) (g:TG):TS:=fun D σ H=>te σ H fun x H1=>g x σ H1 D.nx
theorem aJW {tg e:Expr} {te:TE} {g:TG} (he:PE X e te) (hg:PG X tg g) (hs:swapsWithSole [tg] e pos.line X.env = pure false:=by rfl) (hw:swappedStores [tg] e X.env = pure none:=by rfl)
  (h1:(assignEach [tg] X.env).map (·.2) = [assign tg X.env]:=by rfl):PS X (.Assign [tg] e pos) (aLv te g):=by
 intro pins s σ H D I h
 refine wpAny_Assign_stores (thn (he pins s σ H _ I h) fun v s1 ⟨x,H1,I1,r1,q1⟩=>?_) hs hw
 rw [h1]
 exact thn (hg pins s1 σ H1 x v _ I1 r1 q1) fun _ s2 q=>q
theorem aJ7 {i:Nat} {x:Str} {e:Expr} {te:TE} {pos':Pos} (hN:X.N.Nodup) (hi:X.N[i]? = some x) (hx:Loc X.env.scope x) (he:PE X e te) (hs:swapsWith e (some (.Name x pos')) pos.line X.env = pure false:=by rfl) (hf:X.fn x = true ∨ X.env.scope.names.lookup x = some .local:=by first | exact .inl rfl | exact .inr rfl | assumption) :
  PS X (.Assign [.Name x pos'] e pos) (aLv te (aHB i)):=by
 intro pins s σ H D I h
 refine wpAny_Assign_Name (thn (he pins s σ H _ I h) fun v s1 ⟨y,H1,I1,r1,q1⟩=>?_) hs
 exact mL I1 hN hi hx r1 (fun s2 I2=>⟨_,H1,I2,q1⟩) hf
noncomputable def aMy (i j:Nat) (ta:TA):TS:=fun D σ H=>ta σ H fun vs H1=>∃ v w,vs = [v,w]/\D.nx ((σ.set i (some v)).set j (some w)) H1
theorem aJv {i j:Nat} {x y:Str} {a b:Expr} {ta:TA} {px py pt:Pos} {kt k2 pt2} (hc:X.calm = true) (hN:X.N.Nodup) (hi:X.N[i]? = some x) (hj:X.N[j]? = some y) (hij:i ≠ j)
  (hx:X.env.scope.names.lookup x = some .local) (hy:X.env.scope.names.lookup y = some .local) (ha:PA X [a,b] ta)
  (hw:swappedStores [.Tuple [.Name x px,.Name y py] kt pt] (.Tuple [a,b] k2 pt2) X.env = pure (some [x,y]))
  (hs:swapsWithSole [.Tuple [.Name x px,.Name y py] kt pt] (.Tuple [a,b] k2 pt2) pos.line X.env = pure false:=by rfl) :
  PS X (.Assign [.Tuple [.Name x px,.Name y py] kt pt] (.Tuple [a,b] k2 pt2) pos) (aMy i j ta):=by
 intro pins s σ H D I h
 rw [exec_Assign_arm]
 refine wpAny_bind (wpAny_standAt ?_)
 rw [hs]
 refine wpAny_bind (wpAny_pure ?_)
 rw [if_neg (by decide)]
 refine wpAny_bind (Tuple_ (thn (ha _ pins s σ H _ I h) fun us s1 ⟨vs,H1,I1,r1,q1⟩=>?_))
 obtain ⟨v,w,e1,q1⟩:=q1
 subst e1
 obtain ⟨u1,u2,rfl,rv,rw'⟩:∃ u1 u2,us = [u1,u2]/\cM v u1/\cM w u2:=by
  cases r1 with
  | cons p q =>
   cases q with
   | cons p' q' =>
    cases q'
    exact ⟨_,_,rfl,p,p'⟩
 refine wpAny_newObj_type ?_ (by show 2<=sizeLine;decide)
 have I2:Inv X pins σ H1 { s1 with heap:=s1.heap.push { cls:=.type "tuple",data:=.seq [u1,u2].toArray } }:=I1.kept (t':=s1.toks) fun b o e=>Heap.get?_push_of_some _ e
 rw [hw]
 refine wpAny_bind (wpAny_pure ?_)
 show wpAny (model X.prog X.w) X.A (do rule "assign.swapped-stores";let items <- unpackItems (.ref s1.heap.objs.size) 2 none;assignInOrder [fun v=>bindName X.env y v,fun v=>bindName X.env x v] items.reverse;pure Flow.next) _ _ _
 refine wpAny_bind (wpAny_rule (wpAny_bind (unpackItems_tuple (items:=#[u1,u2]) (I.ok.hd hc) (IsTup.new s1.heap _) fun h' hx'=>?_)))
 have I3:=I2.kept (h':=h') (t':=s1.toks) fun b o e=>hx' b o (Nat.ne_of_lt (Heap.lt_size e)) e
 show wpAny _ _ (assignInOrder [fun v=>bindName X.env y v,fun v=>bindName X.env x v] [u2,u1] >>= fun _=>pure Flow.next) _ _ _
 refine wpAny_bind (assignInOrder_cons (wpAny_bindName (mL I3 hN hj (.inl hy) rw' (fun s2 I4=>?_) (.inr hy))))
 refine assignInOrder_cons (wpAny_bindName (mL I4 hN hi (.inl hx) rv (fun s3 I5=>assignInOrder_nil (wpAny_pure ?_)) (.inr hx)))
 rw [List.set_comm _ _ (Ne.symm hij)] at I5
 exact ⟨_,H1,I5,q1⟩
noncomputable def aMo (i:Nat) (te:TE) (ti:TIp):TS:=fun D σ H=>∃ x,σ[i]? = some (some x)/\te σ H fun y H1=>ti x y H1 fun z H2=>D.nx (σ.set i (some z)) H2
theorem aI1 {i:Nat} {x:Str} {e:Expr} {te:TE} {op:Operator} {ti:TIp} {pos':Pos} (hN:X.N.Nodup) (hi:X.N[i]? = some x) (hx:Loc X.env.scope x) (he:PE X e te) (ho:PIp X op ti) (hf:X.fn x = true ∨ X.env.scope.names.lookup x = some .local:=by first | exact .inl rfl | exact .inr rfl | assumption) :
  PS X (.AugAssign (.Name x pos') op e pos) (aMo i te ti):=by
 intro pins s σ H D I h
 obtain ⟨v,e1,h⟩:=h
 obtain ⟨m,hn,hl⟩:=I.loc
 have vis:Vis X.env.scope x:=by rcases hx with k | k;exact .inl k;exact .inr (.inl k)
 obtain ⟨u,r,l⟩:=hl i x v hi e1 vis
 refine wpAny_AugAssign_Name ?_
 have go:wpAny (model X.prog X.w) X.A (eval e X.env) (fun w s₂=>wpAny (model X.prog X.w) X.A (inplaceOp op u w) (fun r s₃=>wpAny (model X.prog X.w) X.A (storeName X.env x r) (fun _=>SP X pins D .next) X.xe s₃) X.xe s₂) X.xe s:=by
  refine thn (he pins s σ H _ I h) fun w s1 ⟨y,H1,I1,r1,q1⟩=>?_
  refine thn (ho pins s1 σ H1 v y u w _ I1 r r1 q1) fun z s2 ⟨zv,H2,I2,r2,q2⟩=>?_
  exact mL I2 hN hi hx r2 (fun s3 I3=>⟨_,H2,I3,q2⟩) hf
 rcases l with ⟨hk,hm⟩ | ⟨hk,c,hc,hcell⟩
 ·exact wpAny_loadName_local I.ok.kind hk hn hm go
 ·rcases hk with hk | hk
  ·exact wpAny_loadName_cell I.ok.kind hk hc hcell go
  ·rcases hx with k | k
   ·have:X.env.scope.names.lookup x = some .free:=hk
    rw [k] at this;cases this
   ·have:X.env.scope.names.lookup x = some .free:=hk
    rw [k] at this;cases this
noncomputable def ipI (f:Int->Int->Int):TIp:=fun x y H Q=>∃ i j,x = .int i/\y = .int j/\Q (.int (f i j)) H
theorem yD:PIp X .Add (ipI fun i j=>i + j):=by
 intro pins s σ H x y v u Q I r1 r2 h
 obtain ⟨i,j,e1,e2,q⟩:=h
 subst e1;subst e2
 obtain ⟨t,rfl⟩:=r1
 obtain ⟨t',rfl⟩:=r2
 exact iadd_int ⟨.int _,H,I.tok _,⟨_,rfl⟩,q⟩
end
section
variable {X:Cx} {pos:Pos}
noncomputable def aJC (c:TT) (tb:TS):TS:=fun D σ H=>∃ W:Nat->St->Hp->Prop,(∃ m,W m σ H)/\∀ m σ H,W m σ H ->
 c σ H fun b H1=>if b = true then ∃ N:St->Hp->Prop,(∀ σ' H',N σ' H'->∃ m',m' < m/\W m' σ' H')/\tb { D with nx:=N,ct:=N,bk:=D.nx } σ H1 else D.nx σ H1
theorem aFD {c:Expr} {body:List Stmt} {tc:TT} {tb:TS} (hp:PassesOwn (model X.prog X.w) X.A X.env X.xe) (hc:PT X c tc) (hb:PSs X body tb):PS X (.While c body [] pos) (aJC tc tb):=by
 intro pins s σ H D I h
 obtain ⟨W,⟨m0,w0⟩,turn⟩:=h
 refine wpAny_While (codeAny_whileLoop (fun n s'=>∃ σ' H',Inv X pins σ' H' s'/\W n σ' H') ?_ m0 ⟨σ,H,I,w0⟩)
 rintro n s1 ⟨σ1,H1,I1,w1⟩
 refine wpAny_passesOwn hp (thn (hc pins s1 σ1 H1 _ I1 (turn n σ1 H1 w1)) fun b s2 ⟨H2,I2,q2⟩=>?_)
 cases b with
 | true =>
  obtain ⟨N,hN,q2⟩:=q2
  rw [if_pos rfl]
  refine wpAny_passesOwn hp (thn (hb pins s2 σ1 H2 _ I2 q2) fun f s3 q3=>?_)
  cases f with
  | next =>
   obtain ⟨σ3,H3,I3,n3⟩:=q3
   obtain ⟨m',hm,w3⟩:=hN σ3 H3 n3
   exact ⟨m',hm,σ3,H3,I3,w3⟩
  | cont =>
   obtain ⟨σ3,H3,I3,n3⟩:=q3
   obtain ⟨m',hm,w3⟩:=hN σ3 H3 n3
   exact ⟨m',hm,σ3,H3,I3,w3⟩
  | brk=>exact q3
  | ret v=>exact q3
 | false =>
  rw [if_neg Bool.false_ne_true]
  exact wpAny_execs_nil ⟨σ1,H2,I2,q2⟩
end
structure It where
 go:Nat->Hp->Prop
 yld:Nat->Hp->V->Hp->Prop
 stop:Nat->Hp->Prop
noncomputable def aB9 (X:Cx) (pins:List (Addr × Obj)) (H:Hp) (b:Addr):Prop :=
 H b = none/\b ≠ X.env.locals/\b ∉ X.fs/\(b ∈ X.ex ∨ X.s₀.heap.objs.size<=b)/\(∀ x c,X.env.cells.lookup x = some c->c ≠ b)/\∀ p ∈ X.pn ++ pins,p.1 ≠ b
theorem Inv.fpOk {X:Cx} {pins:List (Addr × Obj)} {σ:St} {H H':Hp} {s:Shared} {b:Addr} (I:Inv X pins σ H s) (hb:s.heap.objs.size<=b) (hn:H' b = none):aB9 X pins H' b:=by
 refine ⟨hn,Nat.ne_of_gt (Nat.lt_of_lt_of_le I.lt hb),I.nofs hb,.inr (Nat.le_trans I.sz hb),fun x c e z=>?_,fun p hp z=>?_⟩
 ·obtain ⟨v,q⟩:=I.cell x c e
  exact absurd (Nat.lt_of_lt_of_le q.lt (by rw [z];exact hb)) (Nat.lt_irrefl _)
 ·exact absurd (Nat.lt_of_lt_of_le (Heap.lt_size (I.pin p hp).1) (by rw [z];exact hb)) (Nat.lt_irrefl _)
structure aGv (P:Program) (w:World) (K:PySem.W.Frag) (tg:Expr) (J:It) (fp:List Addr) (it:Addr) (tn:Nat->Heap->Prop):Prop where
 mem:it ∈ fp
 obj:∀ i h,tn i h->∀ b ∈ fp,∃ o,h.get? b = some o/\∀ v,o.data ≠ .cell v
 keep:∀ i h h',tn i h->(∀ b ∈ fp,∀ o,h.get? b = some o->h'.get? b = some o)->tn i h'
 item:∀ (X:Cx),X.prog = P->X.w = w->X.K = K->X.calm = true->∀ (i:Nat) (pins:List (Addr × Obj)) (s:Shared) (σ:St) (H:Hp) (E:Value->Shared->Prop),Inv X pins σ H s->(∀ b ∈ fp,aB9 X pins H b)->tn i s.heap->J.go i H ->
  wpAny (model P w) X.A (pyNext (.ref it)) (fun r s1=>∃ u,r = some u /\
   wpAny (model P w) X.A (letOwnedTupleGo tg (.ref it) u) (fun _ s2=>∃ x H',Inv X pins σ H' s2/\cM x u/\J.yld i H x H'/\tn (i + 1) s2.heap/\∀ b ∈ fp,H' b = none) E s1) E s
 done:∀ (X:Cx),X.prog = P->X.w = w->X.K = K->X.calm = true->∀ (i:Nat) (pins:List (Addr × Obj)) (s:Shared) (σ:St) (H:Hp) (E:Value->Shared->Prop),Inv X pins σ H s->(∀ b ∈ fp,aB9 X pins H b)->tn i s.heap->J.stop i H ->
  wpAny (model P w) X.A (pyNext (.ref it)) (fun r s1=>r = none/\Inv X pins σ H s1) E s
 self:∀ (A:Around) (i:Nat) (s:Shared) (Q:Value->Shared->Prop) (E:Value->Shared->Prop),tn i s.heap->Q (.ref it) s->wpAny (model P w) A (pyIter (.ref it)) Q E s
noncomputable abbrev TI:=St->Hp->(It->Hp->Prop)->Prop
noncomputable def PIE (X:Cx) (pins:List (Addr × Obj)) (σ:St) (tg:Expr) (R:It->Hp->Prop) (itv:Value) (s2:Shared):Prop :=
 ∃ (it:Addr) (fp:List Addr) (tn:Nat->Heap->Prop) (J:It) (H':Hp),itv = .ref it/\Inv X pins σ H' s2/\aGv X.prog X.w X.K tg J fp it tn/\tn 0 s2.heap/\(∀ b ∈ fp,aB9 X pins H' b)/\R J H'
noncomputable def PI (X:Cx) (tg iter:Expr) (wi:TI):Prop :=
 ∀ (pins:List (Addr × Obj)) (s:Shared) (σ:St) (H:Hp) (R:It->Hp->Prop),Inv X pins σ H s->wi σ H R ->
  wpAny (model X.prog X.w) X.A (eval iter X.env) (fun v s1=>wpAny (model X.prog X.w) X.A (pyIter v) (PIE X pins σ tg R) X.xe s1) X.xe s
theorem aEo {M:Model} {A:Around} {E:Value->Shared->Prop} {s:Shared} {tg:Expr} {it:Addr} {u:Value} {o:Obj} {n:String} {vs:Array Value} {Q:Unit->Shared->Prop} (ho:s.heap.get? it = some o) (hc:o.cls = .type n) (hd:o.data = .fields vs)
  (hn:["enumerate","zip","dict_itemiterator","dict_reverseitemiterator","odict_iterator","itertools.zip_longest","itertools.pairwise"].contains n = false) (hQ:Q () s):wpAny M A (letOwnedTupleGo tg (.ref it) u) Q E s:=by
 unfold letOwnedTupleGo
 cases tg<;>first
  | exact wpAny_pure hQ
  | (cases u<;>first
    | exact wpAny_pure hQ
    | (
      refine wpAny_bind (wpAny_load ho ?_)
      rw [hc,hd]
      show wpAny M A (if (["enumerate","zip","dict_itemiterator","dict_reverseitemiterator","odict_iterator","itertools.zip_longest","itertools.pairwise"].contains n && vs[0]? == some (rawInt _)) = true then _ else _) Q E s
      rw [if_neg (by intro h;rw [hn,Bool.false_and] at h;cases h)]
      exact wpAny_pure hQ))
noncomputable def Itl (K:PySem.W.Frag) (a:Addr):It :=
 ⟨fun i H=>∃ xs x,SqL K H a xs/\xs[i]? = some x,fun i H x H'=>H' = H/\∀ xs,SqL K H a xs->xs[i]? = some x,fun i H=>∃ xs,SqL K H a xs/\xs.length<=i⟩
noncomputable def Itt (K:PySem.W.Frag) (a:Addr):It :=
 ⟨fun i H=>∃ xs x,SqT K H a xs/\xs[i]? = some x,fun i H x H'=>H' = H/\∀ xs,SqT K H a xs->xs[i]? = some x,fun i H=>∃ xs,SqT K H a xs/\xs.length<=i⟩
noncomputable def Itr (lo:Int) (n:Nat):It:=⟨fun i _=>i < n,fun i H x H'=>H' = H/\x = .int (lo + i),fun i _=>n<=i⟩
theorem aDt {P:Program} {w:World} {K:PySem.W.Frag} {tg:Expr} (a it:Addr):aGv P w K tg (Itl K a) [it] it (fun i h=>h.IsListIter it a i) where
 mem:=by simp
 obj:=fun i h st b hb=>by
  have e:b = it:=by simpa using hb
  subst e
  obtain ⟨o,e,c,d⟩:=st
  exact ⟨o,e,fun v z=>by rw [d] at z;cases z⟩
 keep:=fun i h h' st k=>st.at fun o e=>k it (by simp) o e
 item:=by
  intro X hP hw hK hc i pins s σ H E I hf st hg
  subst hP hw hK
  obtain ⟨xs,x,hq,hx⟩:=hg
  obtain ⟨its,rv,p,hz⟩:=I.list hq
  obtain ⟨u,hu,ru⟩:=rv.get hx
  obtain ⟨f0,f1,f2,f3,f4,f5⟩:=hf it (by simp)
  refine wpAny_pyNext_list_item st p.isList (x:=u) (by simpa using hu) fun h' st' sb=>?_
  have I1:Inv X pins σ H { s with heap:=h' }:=I.turned (t':=s.toks) (fun b o hb e=>(sb.2 b hb).trans e) f0 f1 f3 f4 f5
  obtain ⟨o,e,c,d⟩:=id st'
  exact ⟨u,rfl,aEo (s:={ s with heap:=h' }) e c d (by decide) ⟨x,H,I1,ru,⟨rfl,fun ys hy=>by rw [I.list_inj hy hq];exact hx⟩,st',fun b hb=>(hf b hb).1⟩⟩
 done:=by
  intro X hP hw hK hc i pins s σ H E I hf st hg
  subst hP hw hK
  obtain ⟨xs,hq,hx⟩:=hg
  obtain ⟨its,rv,p,hz⟩:=I.list hq
  obtain ⟨f0,f1,f2,f3,f4,f5⟩:=hf it (by simp)
  have hl:=rv.length
  exact wpAny_pyNext_list_end (I.ok.hd hc) st p.isList (by simp;omega) fun h' eb=>⟨rfl,I.turned (t':=s.toks) (fun b o hb e=>eb b o hb e) f0 f1 f3 f4 f5⟩
 self:=fun _ _ _ _ _ st h=>wpAny_pyIter_listiter st h
theorem aCm {P:Program} {w:World} {K:PySem.W.Frag} {tg:Expr} (a it:Addr):aGv P w K tg (Itt K a) [it] it (fun i h=>h.IsTupleIter it a i) where
 mem:=by simp
 obj:=fun i h st b hb=>by
  have e:b = it:=by simpa using hb
  subst e
  obtain ⟨o,e,c,d⟩:=st
  exact ⟨o,e,fun v z=>by rw [d] at z;cases z⟩
 keep:=fun i h h' st k=>st.at fun o e=>k it (by simp) o e
 item:=by
  intro X hP hw hK hc i pins s σ H E I hf st hg
  subst hP hw hK
  obtain ⟨xs,x,hq,hx⟩:=hg
  obtain ⟨its,rv,p,hz⟩:=I.tuple hq
  obtain ⟨u,hu,ru⟩:=rv.get hx
  obtain ⟨f0,f1,f2,f3,f4,f5⟩:=hf it (by simp)
  refine wpAny_pyNext_tuple_item st (show s.heap.IsTuple a its.toArray from p) (x:=u) (by simpa using hu) fun h' st' sb=>?_
  have I1:Inv X pins σ H { s with heap:=h' }:=I.turned (t':=s.toks) (fun b o hb e=>(sb.2 b hb).trans e) f0 f1 f3 f4 f5
  obtain ⟨o,e,c,d⟩:=id st'
  exact ⟨u,rfl,aEo (s:={ s with heap:=h' }) e c d (by decide) ⟨x,H,I1,ru,⟨rfl,fun ys hy=>by rw [I.tuple_inj hy hq];exact hx⟩,st',fun b hb=>(hf b hb).1⟩⟩
 done:=by
  intro X hP hw hK hc i pins s σ H E I hf st hg
  subst hP hw hK
  obtain ⟨xs,hq,hx⟩:=hg
  obtain ⟨its,rv,p,hz⟩:=I.tuple hq
  obtain ⟨f0,f1,f2,f3,f4,f5⟩:=hf it (by simp)
  have hl:=rv.length
  exact wpAny_pyNext_tuple_end (I.ok.hd hc) st (show s.heap.IsTuple a its.toArray from p) (by simp;omega) fun h' eb=>⟨rfl,I.turned (t':=s.toks) (fun b o hb e=>eb b o hb e) f0 f1 f3 f4 f5⟩
 self:=fun _ _ _ _ _ st h=>wpAny_pyIter_tupleiter st h
theorem aCc {P:Program} {w:World} {K:PySem.W.Frag} {tg:Expr} (it:Addr) (lo:Int) (n:Nat):aGv P w K tg (Itr lo n) [it] it (fun i h=>IsRangeIter h it (lo + (i:Nat) * 1) ((n:Int) - (i:Nat)) 1) where
 mem:=by simp
 obj:=fun i h st b hb=>by
  have e:b = it:=by simpa using hb
  subst e
  exact ⟨_,st,fun v z=>by
   have z':Data.fields _ = Data.cell v:=z
   cases z'⟩
 keep:=fun i h h' st k=>k it (by simp) _ st
 item:=by
  intro X hP hw hK hc i pins s σ H E I hf st hg
  subst hP hw hK
  obtain ⟨f0,f1,f2,f3,f4,f5⟩:=hf it (by simp)
  have W:=Walks.range (prog:=X.prog) (w:=X.w) (I.ok.hd hc) it lo 1 n
  refine W.item i s _ _ hg st fun v h' tk hv st' kk=>?_
  obtain ⟨t,rfl⟩:=hv
  have I1:Inv X pins σ H { s with heap:=h',toks:=tk }:=I.turned (fun b o hb e=>kk b o (by simpa using hb) e) f0 f1 f3 f4 f5
  refine ⟨_,rfl,aEo (s:={ s with heap:=h',toks:=tk }) (n:="range_iterator") st' rfl rfl (by decide) ⟨.int (lo + i),H,I1,⟨t,?_⟩,⟨rfl,rfl⟩,st',fun b hb=>(hf b hb).1⟩⟩
  rw [Int.mul_one]
 done:=by
  intro X hP hw hK hc i pins s σ H E I hf st hg
  subst hP hw hK
  obtain ⟨f0,f1,f2,f3,f4,f5⟩:=hf it (by simp)
  exact wpAny_pyNext_range_end (I.ok.hd hc) st (by have:n<=i:=hg;omega) fun h' eb=>⟨rfl,I.turned (t':=s.toks) (fun b o hb e=>eb b o hb e) f0 f1 f3 f4 f5⟩
 self:=fun _ _ _ _ _ st h=>wpAny_pyIter_rangeiter st h
end L2
namespace L2
open PySem PySem.Spec PyProof.Rows
section
variable {X:Cx} {tg:Expr}
noncomputable def aKA (K:PySem.W.Frag) (tl:TE):TI:=fun σ H R=>tl σ H fun x H1=>∃ a,x = .ref a/\(∃ xs,SqL K H1 a xs)/\R (Itl K a) H1
noncomputable def aMC (K:PySem.W.Frag) (tl:TE):TI:=fun σ H R=>tl σ H fun x H1=>∃ a,x = .ref a/\(∃ xs,SqT K H1 a xs)/\R (Itt K a) H1
theorem aCX {l:Expr} {tl:TE} (hl:PE X l tl):PI X tg l (aKA X.K tl):=by
 intro pins s σ H R I h
 refine thn (hl pins s σ H _ I h) fun v s1 ⟨x,H1,I1,r1,q1⟩=>?_
 obtain ⟨a,e,⟨xs,hq⟩,q⟩:=q1
 subst e
 cases r1
 obtain ⟨its,rv,p,hz⟩:=I1.list hq
 refine wpAny_pyIter_list p.isList ?_
 refine ⟨s1.heap.objs.size,[s1.heap.objs.size],_,_,H1,rfl,I1.kept (t':=s1.toks) fun b o e=>Heap.get?_push_of_some _ e,aDt a _,⟨_,Heap.get?_push_size _ rfl,rfl,rfl⟩,fun b hb=>?_,q⟩
 have e:b = s1.heap.objs.size:=by simpa using hb
 subst e
 exact I1.fpOk (Nat.le_refl _) (I1.hok.fresh (Nat.le_refl _))
theorem aEE {l:Expr} {tl:TE} (hl:PE X l tl):PI X tg l (aMC X.K tl):=by
 intro pins s σ H R I h
 refine thn (hl pins s σ H _ I h) fun v s1 ⟨x,H1,I1,r1,q1⟩=>?_
 obtain ⟨a,e,⟨xs,hq⟩,q⟩:=q1
 subst e
 cases r1
 obtain ⟨its,rv,p,hz⟩:=I1.tuple hq
 refine wpAny_pyIter_tuple (show s1.heap.IsTuple a its.toArray from p) ?_
 refine ⟨s1.heap.objs.size,[s1.heap.objs.size],_,_,H1,rfl,I1.kept (t':=s1.toks) fun b o e=>Heap.get?_push_of_some _ e,aCm a _,⟨_,Heap.get?_push_size _ rfl,rfl,rfl⟩,fun b hb=>?_,q⟩
 have e:b = s1.heap.objs.size:=by simpa using hb
 subst e
 exact I1.fpOk (Nat.le_refl _) (I1.hok.fresh (Nat.le_refl _))
theorem aFm {pins:List (Addr × Obj)} {σ:St} {H:Hp} {s:Shared} {R:It->Hp->Prop} {E:Value->Shared->Prop} {lo hi:Int} {t u v:Tok} {tk:Nat} (I:Inv X pins σ H s) (h1:-(2 ^ 62)<=lo) (h2:lo < 2 ^ 62) (h3:-(2 ^ 62)<=hi) (h4:hi < 2 ^ 62)
  (q:R (Itr lo (hi - lo).toNat) H):wpAny (model X.prog X.w) X.A (pyIter (.ref s.heap.objs.size)) (PIE X pins σ tg R) E { s with heap:=s.heap.push { cls:=.type "range",data:=.fields #[.int lo t,.int hi u,.int 1 v] },toks:=tk }:=by
 refine wpAny_pyIter_range (IsRange.new ..) (small_one h1 h2 h3 h4) ?_
 have I1:Inv X pins σ H { s with heap:=s.heap.push { cls:=.type "range",data:=.fields #[.int lo t,.int hi u,.int 1 v] },toks:=tk }:=I.kept fun b o e=>Heap.get?_push_of_some _ e
 refine ⟨(s.heap.push { cls:=.type "range",data:=.fields #[.int lo t,.int hi u,.int 1 v] }).objs.size,[(s.heap.push { cls:=.type "range",data:=.fields #[.int lo t,.int hi u,.int 1 v] }).objs.size],_,_,H,rfl,
  I1.kept (t':=tk) fun b o e=>Heap.get?_push_of_some _ e,aCc _ lo (hi - lo).toNat,?_,fun b hb=>?_,q⟩
 ·have e1:lo + ((0:Nat):Int) * 1 = lo:=by simp
  have e2:(((hi - lo).toNat:Nat):Int) - ((0:Nat):Int) = Builtin.Range.rangeSize lo hi 1:=by rw [rangeSize_one];split<;>omega
  show IsRangeIter _ _ (lo + ((0:Nat):Int) * 1) ((((hi - lo).toNat:Nat):Int) - ((0:Nat):Int)) 1
  rw [e1,e2]
  exact Heap.get?_push_size _ rfl
 ·have e:b = (s.heap.push { cls:=.type "range",data:=.fields #[.int lo t,.int hi u,.int 1 v] }).objs.size:=by simpa using hb
  subst e
  exact I1.fpOk (Nat.le_refl _) (I1.hok.fresh (Nat.le_refl _))
noncomputable def aLp (ta:TA):TI:=fun σ H R=>ta σ H fun vs H1=>∃ j:Int,vs = [.int j]/\-(2 ^ 62)<=j/\j < 2 ^ 62/\R (Itr 0 j.toNat) H1
theorem aDE {a:Expr} {ta:TA} {p pos:Pos} (hg:Gl X "range") (hm:X.mg "range" = none) (ha:PA X [a] ta) (hs:starEach [a] X.env = [(false,eval a X.env)]:=by rfl):PI X tg (.Call (.Name "range" p) [a] [] pos) (aLp ta):=by
 intro pins s σ H R I h
 refine Call_ (aAo I hg hm boot_range (PyProof.Rows.callWith_type1 (thn (ha pos pins s σ H _ I h) fun us s1 ⟨vs,H1,I1,r1,q1⟩=>?_) hs rfl))
 obtain ⟨j,e,q1,q2,q⟩:=q1
 subst e
 cases r1 with
 | cons r rr =>
  cases rr
  obtain ⟨t,rfl⟩:=r
  exact call_range_1 (aFm I1 (by omega) (by omega) q1 q2 (by simpa using q))
noncomputable def aMv (wi:TI) (g:TG) (tb:TS):TS:=fun D σ H=>wi σ H fun J H1=>∃ W:Nat->Nat->St->Hp->Prop,(∃ m,W 0 m σ H1)/\∀ i m σ H,W i m σ H ->
 (J.stop i H/\D.nx σ H) ∨ (J.go i H/\∃ N:St->Hp->Prop,(∀ σ' H',N σ' H'->∃ m',m' < m/\W (i + 1) m' σ' H')/\∀ x H',J.yld i H x H'->g x σ H' fun σ2 H2=>tb { D with nx:=N,ct:=N,bk:=D.nx } σ2 H2)
noncomputable def aAL (fp:List Addr) (h:Heap):List (Addr × Obj):=fp.filterMap fun b=>(h.get? b).map fun o=>(b,o)
theorem mU {fp:List Addr} {h:Heap} {b:Addr} {o:Obj} (hb:b ∈ fp) (e:h.get? b = some o):(b,o) ∈ aAL fp h:=List.mem_filterMap.mpr ⟨b,hb,by rw [e];rfl⟩
theorem aD3 {fp:List Addr} {h:Heap} {p:Addr × Obj} (hp:p ∈ aAL fp h):p.1 ∈ fp/\h.get? p.1 = some p.2:=by
 obtain ⟨b,hb,e⟩:=List.mem_filterMap.mp hp
 cases q:h.get? b with
 | none=>rw [q] at e;cases e
 | some o =>
  rw [q] at e
  have e':(b,o) = p:=Option.some.inj e
  subst e'
  exact ⟨hb,q⟩
theorem Inv.pinned {pins:List (Addr × Obj)} {σ:St} {H:Hp} {s:Shared} {fp:List Addr} (I:Inv X pins σ H s) (hf:∀ b ∈ fp,aB9 X pins H b) (ho:∀ b ∈ fp,∃ o,s.heap.get? b = some o/\∀ v,o.data ≠ .cell v):Inv X (pins ++ aAL fp s.heap) σ H s :=
 I.pins_of fun p hp=>(List.mem_append.mp hp).elim (fun z=>I.pin p (List.mem_append_right _ z)) fun z=>by
  obtain ⟨hb,e⟩:=aD3 z
  obtain ⟨f0,f1,f2,_⟩:=hf p.1 hb
  obtain ⟨o,e',d⟩:=ho p.1 hb
  rw [e] at e';cases e'
  exact ⟨e,f0,f1,f2,d⟩
theorem Inv.unpinned {pins pl:List (Addr × Obj)} {σ:St} {H:Hp} {s:Shared} (I:Inv X (pins ++ pl) σ H s):Inv X pins σ H s:=I.pins_of fun p hp=>I.pin p (List.mem_append_right _ (List.mem_append_left _ hp))
theorem aCv {iter:Expr} {body:List Stmt} {wi:TI} {g:TG} {tb:TS} {pos:Pos} (hp:PassesOwn (model X.prog X.w) X.A X.env X.xe) (hc:X.calm = true) (hi:PI X tg iter wi) (hg:PG X tg g) (hb:PSs X body tb)
  (hs:∀ x,foldedSetIterable iter X.env x = pure x:=by intro _;rfl):PS X (.For tg iter body [] pos) (aMv wi g tb):=by
 intro pins s σ H D I h
 refine wpAny_For (thn (hi pins s σ H _ I h) fun v s1 h1=>thn h1 fun itv s2 h2=>?_) hs
 obtain ⟨it,fp,tn,J,H2,e,I2,T,st2,f2,W,⟨m0,w0⟩,turn⟩:=h2
 subst e
 have stat:∀ {H':Hp},(∀ b ∈ fp,H' b = none)->∀ b ∈ fp,aB9 X pins H' b:=fun hn b hb=>⟨hn b hb,(f2 b hb).2⟩
 refine codeAny_forLoop_any (fun n s'=>∃ i σ' H',Inv X pins σ' H' s'/\tn i s'.heap/\(∀ b ∈ fp,H' b = none)/\W i n σ' H') ?_ m0 ⟨0,σ,H2,I2,st2,fun b hb=>(f2 b hb).1,w0⟩
 rintro n s3 ⟨i,σ3,H3,I3,st3,fr3,w3⟩
 rcases turn i n σ3 H3 w3 with ⟨stop,qn⟩ | ⟨go,N,hN,step⟩
 ·refine wpAny_passesOwn hp (thn (T.done X rfl rfl rfl hc i pins s3 σ3 H3 X.xe I3 (stat fr3) st3 stop) fun r s4 ⟨hr,I4⟩=>?_)
  subst hr
  exact wpAny_execs_nil ⟨σ3,H3,I4,qn⟩
 ·refine wpAny_passesOwn hp (thn (T.item X rfl rfl rfl hc i pins s3 σ3 H3 X.xe I3 (stat fr3) st3 go) fun r s4 ⟨u,hr,h4⟩=>?_)
  subst hr
  refine wpAny_passesOwn hp (thn h4 fun _ s5 ⟨x,H5,I5,r5,y5,st5,fr5⟩=>?_)
  have I5':=I5.pinned (stat fr5) (T.obj _ _ st5)
  refine wpAny_passesOwn hp (thn (hg _ s5 σ3 H5 x u _ I5' r5 (step x H5 y5)) fun _ s6 ⟨σ6,H6,I6,q6⟩=>?_)
  refine wpAny_passesOwn hp (thn (hb _ s6 σ6 H6 _ I6 q6) fun f s7 q7=>?_)
  have again:∀ {σ7:St} {H7:Hp},Inv X (pins ++ aAL fp s5.heap) σ7 H7 s7->N σ7 H7->∃ m,m < n/\∃ i σ' H',Inv X pins σ' H' s7/\tn i s7.heap/\(∀ b ∈ fp,H' b = none)/\W i m σ' H':=fun {σ7 H7} I7 n7=>by
   obtain ⟨m',hm,w7⟩:=hN σ7 H7 n7
   refine ⟨m',hm,i + 1,σ7,H7,I7.unpinned,T.keep _ _ _ st5 fun b hb o e=>(I7.pin (b,o) (List.mem_append_right _ (List.mem_append_right _ (mU hb e)))).1,fun b hb=>?_,w7⟩
   obtain ⟨o,e,d⟩:=T.obj _ _ st5 b hb
   exact (I7.pin (b,o) (List.mem_append_right _ (List.mem_append_right _ (mU hb e)))).2.1
  cases f with
  | next=>obtain ⟨σ7,H7,I7,n7⟩:=q7;exact again I7 n7
  | cont=>obtain ⟨σ7,H7,I7,n7⟩:=q7;exact again I7 n7
  | brk=>obtain ⟨σ7,H7,I7,q7⟩:=q7;exact ⟨σ7,H7,I7.unpinned,q7⟩
  | ret v=>obtain ⟨x7,σ7,H7,I7,r7,q7⟩:=q7;exact ⟨x7,σ7,H7,I7.unpinned,r7,q7⟩
end
end L2
namespace L2
open PySem PySem.Spec PyProof.Rows
noncomputable abbrev R2:=V->V->Hp->VK->Prop
noncomputable def OpR (X:Cx) (f:Value->Value->Sem Value) (r:R2):Prop :=
 ∀ (pins:List (Addr × Obj)) (s:Shared) (σ:St) (H:Hp) (x y:V) (v u:Value) (Q:VK),Inv X pins σ H s->cM x v->cM y u->r x y H Q ->
  wpAny (model X.prog X.w) X.A (f v u) (EP X pins σ Q) X.xe s
noncomputable def UnR (X:Cx) (f:Value->Sem Value) (r:V->Hp->VK->Prop):Prop :=
 ∀ (pins:List (Addr × Obj)) (s:Shared) (σ:St) (H:Hp) (x:V) (v:Value) (Q:VK),Inv X pins σ H s->cM x v->r x H Q ->
  wpAny (model X.prog X.w) X.A (f v) (EP X pins σ Q) X.xe s
noncomputable def mK (X:Cx) (f:Value) (r:List V->Hp->VK->Prop):Prop :=
 ∀ (pins:List (Addr × Obj)) (s:Shared) (σ:St) (H:Hp) (xs:List V) (us:List Value) (Q:VK),Inv X pins σ H s->cD xs us->r xs H Q ->
  wpAny (model X.prog X.w) X.A (call f us) (EP X pins σ Q) X.xe s
noncomputable def tOp (r:R2) (ta tb:TE):TE:=fun σ H Q=>ta σ H fun x H1=>tb σ H1 fun y H2=>r x y H2 Q
noncomputable def tUn (r:V->Hp->VK->Prop) (ta:TE):TE:=fun σ H Q=>ta σ H fun x H1=>r x H1 Q
noncomputable def rI (C:Int->Int->Prop) (g:Int->Int->V):R2:=fun x y H Q=>∃ i j,x = .int i/\y = .int j/\C i j/\Q (g i j) H
noncomputable def rI0 (g:Int->Int->V):R2:=fun x y H Q=>∃ i j,x = .int i/\y = .int j/\Q (g i j) H
noncomputable def rU (g:Int->V):V->Hp->VK->Prop:=fun x H Q=>∃ i,x = .int i/\Q (g i) H
section
variable {X:Cx} {a b c:Expr} {ta tb tc:TE} {pos:Pos}
theorem aIX (ha:PE X a ta) (hb:PE X b tb) {pins:List (Addr × Obj)} {s:Shared} {σ:St} {H:Hp} {R:V->V->Hp->Prop} (I:Inv X pins σ H s)
  (h:ta σ H fun x H1=>tb σ H1 fun y H2=>R x y H2) {Q:Value->Shared->Prop} {f:Value->Value->Sem Value}
  (hf:∀ v u s2 x y H2,Inv X pins σ H2 s2->cM x v->cM y u->R x y H2->wpAny (model X.prog X.w) X.A (f v u) Q X.xe s2) :
  wpAny (model X.prog X.w) X.A (eval a X.env) (fun v s₁=>wpAny (model X.prog X.w) X.A (eval b X.env) (fun u s₂=>wpAny (model X.prog X.w) X.A (f v u) Q X.xe s₂) X.xe s₁) X.xe s:=by
 refine thn (ha pins s σ H _ I h) fun v s1 ⟨x,H1,I1,r1,q1⟩=>?_
 refine thn (hb pins s1 σ H1 _ I1 q1) fun u s2 ⟨y,H2,I2,r2,q2⟩=>?_
 exact hf v u s2 x y H2 I2 r1 r2 q2
theorem aKz {op:Operator} {r:R2} (ho:OpR X (binaryOp op) r) (ha:PE X a ta) (hb:PE X b tb):PE X (.BinOp a op b pos) (tOp r ta tb):=by
 intro pins s σ H Q I h
 exact wpAny_BinOp (aIX ha hb I h fun v u s2 x y H2 I2 rx ry q=>ho pins s2 σ H2 x y v u Q I2 rx ry q)
theorem aLL {op:UnaryOp} {r:V->Hp->VK->Prop} (ho:UnR X (unaryOp op) r) (ha:PE X a ta):PE X (.UnaryOp op a pos) (tUn r ta):=by
 intro pins s σ H Q I h
 exact UnaryOp_ (thn (ha pins s σ H _ I h) fun v s1 ⟨x,H1,I1,r1,q1⟩=>ho pins s1 σ H1 x v Q I1 r1 q1)
theorem opI {f:Value->Value->Sem Value} {C:Int->Int->Prop} {g:Int->Int->Int}
  (rule:∀ (i j:Int) (t u:Tok) (s:Shared) (Q:Value->Shared->Prop) (E:Value->Shared->Prop),C i j->Q (.int (g i j) s.toks) { s with toks:=s.toks + 1 }->wpAny (model X.prog X.w) X.A (f (.int i t) (.int j u)) Q E s) :
  OpR X f (rI C fun i j=>.int (g i j)):=by
 intro pins s σ H x y v u Q I rx ry h
 obtain ⟨i,j,rfl,rfl,hc,q⟩:=h
 obtain ⟨t,rfl⟩:=rx
 obtain ⟨t',rfl⟩:=ry
 exact rule i j t t' s _ _ hc ⟨.int (g i j),H,I.tok _,⟨_,rfl⟩,q⟩
theorem aK7 {f:Value->Value->Sem Value} {g:Int->Int->Int}
  (rule:∀ (i j:Int) (t u:Tok) (s:Shared) (Q:Value->Shared->Prop) (E:Value->Shared->Prop),Q (.int (g i j) s.toks) { s with toks:=s.toks + 1 }->wpAny (model X.prog X.w) X.A (f (.int i t) (.int j u)) Q E s) :
  OpR X f (rI0 fun i j=>.int (g i j)):=by
 intro pins s σ H x y v u Q I rx ry h
 obtain ⟨i,j,rfl,rfl,q⟩:=h
 obtain ⟨t,rfl⟩:=rx
 obtain ⟨t',rfl⟩:=ry
 exact rule i j t t' s _ _ ⟨.int (g i j),H,I.tok _,⟨_,rfl⟩,q⟩
theorem aGw {f:Value->Value->Sem Value} {g:Int->Int->Bool}
  (rule:∀ (i j:Int) (t u:Tok) (s:Shared) (Q:Value->Shared->Prop) (E:Value->Shared->Prop),Q (.bool (g i j)) s->wpAny (model X.prog X.w) X.A (f (.int i t) (.int j u)) Q E s) :
  OpR X f (rI0 fun i j=>.bl (g i j)):=by
 intro pins s σ H x y v u Q I rx ry h
 obtain ⟨i,j,rfl,rfl,q⟩:=h
 obtain ⟨t,rfl⟩:=rx
 obtain ⟨t',rfl⟩:=ry
 exact rule i j t t' s _ _ ⟨.bl (g i j),H,I,rfl,q⟩
noncomputable def aLu (i j:Int):Prop:=0<=j/\j<=1000000/\i.natAbs < 2 ^ 64
theorem aI3:OpR X (binaryOp .Add) (rI0 fun i j=>.int (i + j)):=aK7 fun _ _ _ _ _ _ _ q=>add_int q
theorem aIW:OpR X (binaryOp .Sub) (rI0 fun i j=>.int (i - j)):=aK7 fun _ _ _ _ _ _ _ q=>sub_int q
theorem aGt:OpR X (binaryOp .Mod) (rI (fun _ j=>j ≠ 0) fun i j=>.int (i.fmod j)):=opI fun _ _ _ _ _ _ _ hc q=>mod_int' hc q
theorem aIv:OpR X (binaryOp .Pow) (rI aLu fun i j=>.int (i ^ j.toNat)):=opI fun _ _ _ _ _ _ _ hc q=>pow_int_small hc.1 hc.2.1 hc.2.2 q
theorem unI {f:Value->Sem Value} {g:Int->Int}
  (rule:∀ (i:Int) (t:Tok) (s:Shared) (Q:Value->Shared->Prop) (E:Value->Shared->Prop),Q (.int (g i) s.toks) { s with toks:=s.toks + 1 }->wpAny (model X.prog X.w) X.A (f (.int i t)) Q E s) :
  UnR X f (rU fun i=>.int (g i)):=by
 intro pins s σ H x v Q I rx h
 obtain ⟨i,rfl,q⟩:=h
 obtain ⟨t,rfl⟩:=rx
 exact rule i t s _ _ ⟨.int (g i),H,I.tok _,⟨_,rfl⟩,q⟩
theorem aJ9:UnR X (unaryOp .USub) (rU fun i=>.int (-i)):=unI fun _ _ _ _ _ q=>neg_int q
end
section
variable {X:Cx} {a b c:Expr} {ta tb tc:TE} {pos:Pos}
theorem aK5:OpR X (compareOp .Lt) (rI0 fun i j=>.bl (decide (i < j))):=aGw fun _ _ _ _ _ _ _ q=>lt_int q
theorem aLj:OpR X (compareOp .LtE) (rI0 fun i j=>.bl (decide (i<=j))):=aGw fun _ _ _ _ _ _ _ q=>le_int q
theorem aKB:OpR X (compareOp .Gt) (rI0 fun i j=>.bl (decide (j < i))):=aGw fun _ _ _ _ _ _ _ q=>gt_int q
theorem aKS:OpR X (compareOp .GtE) (rI0 fun i j=>.bl (decide (j<=i))):=aGw fun _ _ _ _ _ _ _ q=>ge_int q
theorem aAS (b:Expr) {op:CmpOp} (h:op ≠ .In:=by decide) (h2:op ≠ .NotIn:=by decide):behindInMarks op b = false:=by
 have e1:(op == CmpOp.In) = false:=by cases op<;>first | rfl | exact absurd rfl h
 have e2:(op == CmpOp.NotIn) = false:=by cases op<;>first | rfl | exact absurd rfl h2
 cases b<;>simp [behindInMarks,e1,e2]
theorem aF3 {op:CmpOp} {r:R2} (ho:OpR X (compareOp op) r) (ha:PE X a ta) (hb:PE X b tb) (hm:behindInMarks op b = false):PE X (.Compare a [op] [b] pos) (tOp r ta tb):=by
 intro pins s σ H Q I h
 exact wpAny_Compare1 (aIX ha hb I h fun v u s2 x y H2 I2 rx ry q=>ho pins s2 σ H2 x y v u Q I2 rx ry q) hm
noncomputable def aLy (t:TE):TT:=fun σ H Q=>t σ H fun x H'=>∃ k,x = .bl k/\Q k H'
theorem aGl {op:CmpOp} {r:R2} (ho:OpR X (compareOp op) r) (ha:PE X a ta) (hb:PE X b tb) (hm:behindInMarks op b = false):PT X (.Compare a [op] [b] pos) (aLy (tOp r ta tb)):=by
 intro pins s σ H Q I h
 refine wpAny_isTrue_Compare1 (thn (ha pins s σ H _ I h) fun v s1 ⟨x,H1,I1,r1,q1⟩=>thn (hb pins s1 σ H1 _ I1 q1) fun u s2 ⟨y,H2,I2,r2,q2⟩ =>
  thn (ho pins s2 σ H2 x y v u _ I2 r1 r2 q2) fun c s3 ⟨z,H3,I3,r3,k,e,q3⟩=>?_) hm
 subst e
 cases r3
 exact wpAny_truthy_bool ⟨H3,I3,q3⟩
noncomputable def aFN (r r':R2) (ta tb tc:TE):TE:=fun σ H Q=>ta σ H fun x H1=>tb σ H1 fun y H2=>r x y H2 fun z H3=>∃ k,z = .bl k /\
 (if k = true then tc σ H3 fun w' H4=>r' y w' H4 Q else Q (.bl false) H3)
theorem aEV {op op':CmpOp} {r r':R2} (ho:OpR X (compareOp op) r) (ho':OpR X (compareOp op') r') (ha:PE X a ta) (hb:PE X b tb) (hc:PE X c tc)
  (hm:lastMarks [op,op'] [b,c] = false:=by with_unfolding_all rfl):PE X (.Compare a [op,op'] [b,c] pos) (aFN r r' ta tb tc):=by
 intro pins s σ H Q I h
 refine Compare_chain (thn (ha pins s σ H _ I h) fun v s1 ⟨x,H1,I1,r1,q1⟩=>chain_link (thn (hb pins s1 σ H1 _ I1 q1) fun u s2 ⟨y,H2,I2,r2,q2⟩ =>
  thn (ho pins s2 σ H2 x y v u _ I2 r1 r2 q2) fun d s3 ⟨z,H3,I3,r3,k,e,q3⟩=>?_)) hm
 subst e
 cases r3
 refine wpAny_truthy_bool ?_
 cases k with
 | false=>exact ite_ff ⟨.bl false,H3,I3,rfl,q3⟩
 | true=>exact ite_tt (chain_last (thn (hc pins s3 σ H3 _ I3 q3) fun w' s4 ⟨z',H4,I4,r4,q4⟩=>ho' pins s4 σ H4 y z' u w' Q I4 r2 r4 q4))
theorem aCi:(sizeLine:Nat) < 2 ^ 63:=by rw [sizeLine_eq];decide
theorem yE {x:V} {us:List Value} (r:cD [x] us):∃ u,us = [u]/\cM x u:=by
 cases r with
 | cons r1 r2=>cases r2;exact ⟨_,rfl,r1⟩
theorem aE1 {x y:V} {us:List Value} (r:cD [x,y] us):∃ u w',us = [u,w']/\cM x u/\cM y w':=by
 cases r with
 | cons r1 r2 =>
  cases r2 with
  | cons r3 r4=>cases r4;exact ⟨_,_,rfl,r1,r3⟩
theorem aFU:mK X (.builtin "abs") (fun xs H Q=>∃ i,xs = [.int i]/\Q (.int (if i < 0 then -i else i)) H):=by
 intro pins s σ H xs us Q I r h
 obtain ⟨i,rfl,q⟩:=h
 obtain ⟨u,rfl,t,rfl⟩:=yE r
 exact call_abs_int fun u tk=>⟨.int (if i < 0 then -i else i),H,I.tok _,⟨_,rfl⟩,q⟩
theorem aDO (hc:X.calm = true):mK X (.builtin "max") (fun xs H Q=>∃ i j,xs = [.int i,.int j]/\Q (.int (if j > i then j else i)) H):=by
 intro pins s σ H xs us Q I r h
 obtain ⟨i,j,rfl,q⟩:=h
 obtain ⟨u,w',rfl,⟨t,rfl⟩,⟨t',rfl⟩⟩:=aE1 r
 refine max_two_ints (I.ok.hd hc) fun h' tk k=>⟨_,H,I.kept k,?_,q⟩
 by_cases hj:j > i
 ·rw [if_pos hj,if_pos hj];exact ⟨_,rfl⟩
 ·rw [if_neg hj,if_neg hj];exact ⟨_,rfl⟩
theorem aDL (hc:X.calm = true):mK X (.builtin "min") (fun xs H Q=>∃ i j,xs = [.int i,.int j]/\Q (.int (if j < i then j else i)) H):=by
 intro pins s σ H xs us Q I r h
 obtain ⟨i,j,rfl,q⟩:=h
 obtain ⟨u,w',rfl,⟨t,rfl⟩,⟨t',rfl⟩⟩:=aE1 r
 refine min_two_ints (I.ok.hd hc) fun h' tk k=>⟨_,H,I.kept k,?_,q⟩
 by_cases hj:j < i
 ·rw [if_pos hj,if_pos hj];exact ⟨_,rfl⟩
 ·rw [if_neg hj,if_neg hj];exact ⟨_,rfl⟩
theorem aDJ:mK X (.type "int") (fun xs H Q=>(∃ i,xs = [.int i]/\Q (.int i) H) ∨ ∃ k,xs = [.bl k]/\Q (.int (if k then 1 else 0)) H):=by
 intro pins s σ H xs us Q I r h
 rcases h with ⟨i,rfl,q⟩ | ⟨k,rfl,q⟩
 ·obtain ⟨u,rfl,t,rfl⟩:=yE r
  exact call_int_int ⟨.int i,H,I,⟨_,rfl⟩,q⟩
 ·obtain ⟨u,rfl,r1⟩:=yE r
  cases r1
  exact call_int_bool ⟨.int (if k then 1 else 0),H,I.tok _,⟨_,rfl⟩,q⟩
end
end L2
namespace L2
open PySem PySem.Spec PyProof.Rows
structure aIA (h:Heap) (x dx C:Addr) (mA:Str->Option Value):Prop where
 obj:h.get? x = some (PySem.W.instObj C dx)
 ns:h.Ns1 dx mA
 ne:dx ≠ x
theorem zS {h:Heap} {dx:Addr} {mA:Str->Option Value} (n:h.Ns1 dx mA):∃ od,h.get? dx = some od/\∀ name,PySem.W.lookIn name od = some (mA name):=by
 obtain ⟨o,es,ep,ho,hd,hk,_,hm⟩:=n
 refine ⟨o,ho,fun name=>?_⟩
 have e:=hm name
 unfold nsFind findBy at e
 rw [<- Array.find?_toList] at e
 unfold PySem.W.lookIn
 rw [hd]
 dsimp only
 split
 ·rename_i y q
  rw [q] at e
  exact congrArg some e
 ·rename_i q
  rw [q] at e
  have a:es.toList.any (·.refKey) = false:=by
   rw [List.any_eq_false]
   intro y hy
   obtain ⟨z,t,hkey⟩:=hk y (Array.mem_toList_iff.mp hy)
   simp [DictEntry.refKey,hkey]
  have a':¬ es.toList.any (·.refKey) = true:=by rw [a];exact Bool.false_ne_true
  rw [if_neg a']
  exact congrArg some e
theorem aIA.look {h:Heap} {x dx C:Addr} {mA:Str->Option Value} (I:aIA h x dx C mA):∃ od,PySem.W.InstAt h x (PySem.W.instObj C dx) C (some od)/\∀ name,PySem.W.lookIn name od = some (mA name) :=
 let ⟨od,ho,hl⟩:=zS I.ns
 ⟨od,⟨I.obj,rfl,rfl,ho⟩,hl⟩
section
variable {prog:Program} {w:World} {A:Around} {E:Value->Shared->Prop} {s:Shared} {K:PySem.W.Frag} {x dx C f:Addr} {mA:Str->Option Value} {name:Str} {v:Value}
end
section
variable {P:Program} {w:World} {H H':Hp} {h h':Heap} {a C dx:Addr} {fs fs':List (Str × V)}
theorem aHh (hok:HOk P w H h) (e:H a = some (.ins C dx fs)):∃ mA,aIA h a dx C mA/\(∀ f,aG7 (fs.lookup f) (mA f))/\PySem.Within mA (fs.map (·.1))/\fs.length<=1000/\H dx = some (.own a):=by
 obtain ⟨d,z,ne,ob,mA,n,r,q⟩:=(show fN P w H h a (.ins C dx fs) from hok a _ e)
 exact ⟨mA,⟨ob,n,ne⟩,r,q,z,d⟩
end
structure Cls (K:PySem.W.Frag) (C:Addr):Prop where
 pg:PySem.W.plainGet K C Str.empty = true
 hd:PySem.W.hasDictIn K C = true
 po:PySem.W.plainOver K C = true
 sa:PySem.W.findIn K (.ref C) "__setattr__" = some (some (.builtin "object.__setattr__"))
theorem Cls.get {K:PySem.W.Frag} {C:Addr} (c:Cls K C) (f:Str):PySem.W.plainGet K C f = true:=c.pg
section
variable {X:Cx} {pins:List (Addr × Obj)} {σ:St} {H:Hp} {s:Shared} {a C dx:Addr} {fs:List (Str × V)} {f:Str} {v:V} {A:Around} {E:Value->Shared->Prop}
theorem aGQ {prog:Program} {w:World} {env:Env} {e:Expr} {f:Str} {pos:Pos} {s:Shared} {Q:Value->Shared->Prop} (hb:attributeBase e f env (eval e env) = eval e env)
  (h:wpAny (model prog w) A (eval e env) (fun o s₁=>wpAny (model prog w) A (getAttr o f true) Q E s₁) E s):wpAny (model prog w) A (eval (.Attribute e f pos) env) Q E s :=
 Attribute_any_ h (by rw [arm_eval_Attribute,hb])
end
section
variable {X:Cx} {o e value:Expr} {f:Str} {pos pos' tpos:Pos} {ta tv:TE}
end
section
variable {X:Cx} {pins:List (Addr × Obj)} {σ:St} {H:Hp} {s:Shared} {A:Around} {E:Value->Shared->Prop} {Q:Value->Shared->Prop} {c:Value} {b:Bool}
inductive vN (K:PySem.W.Frag) (H:Hp):V->Value->Prop where
 | non:vN K H .non (.type "NoneType")
 | bl (x:Bool):vN K H (.bl x) (.type "bool")
 | int (i:Int):vN K H (.int i) (.type "int")
 | str (x:Str):vN K H (.str x) (.type "str")
 | flt (x:UInt64):vN K H (.flt x) (.type "float")
 | lst {a:Addr} {xs:List V} (e:H a = some (.lst xs)):vN K H (.ref a) (.type "list")
 | frz {a:Addr} {o:Obj} {xs:List V} (e:H a = some (.frz o (.lst xs))):vN K H (.ref a) (.type "list")
 | tup {a:Addr} {xs:List V} (e:H a = some (.tup xs)):vN K H (.ref a) (.type "tuple")
 | dK {a:Addr} {kvs:List (Key × V)} (e:H a = some (.dK kvs)):vN K H (.ref a) (.type "dict")
 | dT {a:Addr} {kvs:List (List Key × V)} (e:H a = some (.dT kvs)):vN K H (.ref a) (.type "dict")
 | ins {a C dx:Addr} {fs:List (Str × V)} (e:H a = some (.ins C dx fs)) (cl:Cls K C) (ha:PySem.W.findIn K (.ref C) "__class__" = some (some (.builtin "object.__class__")))
   (hn:PySem.W.specialIn K (.builtin "object.__class__") "__get__" = some (some (.builtin "getset_descriptor.__get__"))) (htk:PySem.W.takesIn K (.builtin "object.__class__") = some true)
   (hm:PySem.W.mroIn K C (.type "object") = some true):vN K H (.ref a) (.ref C)
theorem mB {x:V} {u t:Value} (I:Inv X pins σ H s) (rx:cM x u) (ty:vN X.K H x t) (e:PySem.W.kitOne X.K t c = some b) (h:∀ tk,Q (.bool b) { s with toks:=tk }) :
  wpAny (model X.prog X.w) A (call (.builtin "isinstance") [u,c]) Q E s:=by
 cases ty with
 | non=>cases (show u = Value.none from rx);exact PySem.W.kia_one PySem.W.kitx_none I.kIn True.intro e (fun z=>nomatch z) h
 | bl y=>cases (show u = Value.bool y from rx);exact PySem.W.kia_one PySem.W.kitx_bool I.kIn True.intro e (fun z=>nomatch z) h
 | int i=>obtain ⟨t,q⟩:=(show ∃ t,u = Value.int i t from rx);cases q;exact PySem.W.kia_one PySem.W.kitx_int I.kIn True.intro e (fun z=>nomatch z) h
 | str y=>obtain ⟨t,q⟩:=(show ∃ t,u = Value.str y t from rx);cases q;exact PySem.W.kia_one PySem.W.kitx_str I.kIn True.intro e (fun z=>nomatch z) h
 | flt y=>obtain ⟨t,q⟩:=(show ∃ t,u = Value.float y t from rx);cases q;exact PySem.W.kia_one PySem.W.kitx_float I.kIn True.intro e (fun z=>nomatch z) h
 | @lst a xs ea =>
  cases (show u = Value.ref a from rx)
  obtain ⟨_,_,n,_,h1⟩:=(show fN X.prog X.w H s.heap a (.lst xs) from I.hok a _ ea)
  exact PySem.W.kia_one PySem.W.kitx_list I.kIn ⟨_,h1,rfl⟩ e (fun z=>nomatch z) h
 | @frz a ob xs ea =>
  cases (show u = Value.ref a from rx)
  obtain ⟨_,_,_,n,_,h1⟩:=(show fN X.prog X.w H s.heap a (.frz ob (.lst xs)) from I.hok a _ ea)
  exact PySem.W.kia_one PySem.W.kitx_list I.kIn ⟨_,h1,rfl⟩ e (fun z=>nomatch z) h
 | @tup a xs ea =>
  cases (show u = Value.ref a from rx)
  obtain ⟨_,_,_,p⟩:=(show fN X.prog X.w H s.heap a (.tup xs) from I.hok a _ ea)
  obtain ⟨o,h1,h2,_⟩:=p
  exact PySem.W.kia_one PySem.W.kitx_tuple I.kIn ⟨o,h1,h2⟩ e (fun z=>nomatch z) h
 | @dK a kvs ea =>
  cases (show u = Value.ref a from rx)
  obtain ⟨_,_,vs,_,p⟩:=(show fN X.prog X.w H s.heap a (.dK kvs) from I.hok a _ ea)
  obtain ⟨o,es,ep,h1,h2,_⟩:=p
  exact PySem.W.kia_one PySem.W.kitx_dict I.kIn ⟨o,h1,h2.1⟩ e (fun z=>nomatch z) h
 | @dT a kvs ea =>
  cases (show u = Value.ref a from rx)
  obtain ⟨_,_,xs,_,o,es,ep,h1,h2,_⟩:=(show fN X.prog X.w H s.heap a (.dT kvs) from I.hok a _ ea)
  exact PySem.W.kia_one PySem.W.kitx_dict I.kIn ⟨o,h1,h2.1⟩ e (fun z=>nomatch z) h
 | @ins a C dx fs ea cl ha hn htk hm =>
  cases (show u = Value.ref a from rx)
  obtain ⟨mA,O,_⟩:=aHh I.hok ea
  obtain ⟨od,J,_⟩:=O.look
  exact PySem.W.kia_one (PySem.W.kitx_own (cl.get _) cl.hd ha hn htk hm) I.kIn J e (fun z=>nomatch z) h
end
end L2
namespace L2
open PySem PySem.Spec PyProof.Rows
structure eF (k:Nat) (A:Around):Prop where
 hd:A.handled = none
 dp:A.depth + 3 * k + 5 < recursionLimit
 un:A.units + 16 * k + 200 < cLine
theorem eF.mono {j k:Nat} {A:Around} (r:eF k A) (h:j<=k):eF j A:=⟨r.hd,by have:=r.dp;omega,by have:=r.un;omega⟩
theorem eF.deeper {k:Nat} {A:Around} (r:eF (k + 1) A) (env:Env):eF k (A.deeper env) :=
 ⟨r.hd,by have:=r.dp;show A.depth + 1 + 3 * k + 5 < _;omega,by have:=r.un;show A.units + 3 + 16 * k + 200 < _;omega⟩
theorem aCl {A:Around} {C:Addr} {us:List Value} {kw:List (Str × Value)}:(A.under (.builtin "type.__call__" ⟨.ref C :: us,kw⟩)).depth = A.depth + 1:=by
 first | rfl | simp [Around.under,Code.weight,Code.isCreation,Code.isGuard,Code.isCaller,Code.frames,Code.isFrame,guardIds]
theorem aCk {A:Around} {C:Addr} {us:List Value} {kw:List (Str × Value)}:(A.under (.builtin "type.__call__" ⟨.ref C :: us,kw⟩)).units = A.units + 1:=by
 first | rfl | simp [Around.under,Code.cUnits,Code.frames,Code.isFrame]
theorem eF.make {k:Nat} {A:Around} (r:eF (k + 1) A) (C:Addr) (us:List Value) (kw:List (Str × Value)):eF k (A.under (.builtin "type.__call__" ⟨.ref C :: us,kw⟩)) :=
 ⟨r.hd,by have:=r.dp;rw [aCl];omega,by have:=r.un;rw [aCk];omega⟩
theorem eF.depth {k:Nat} {A:Around} (r:eF k A):A.depth < recursionLimit:=by have:=r.dp;omega
noncomputable def aKW:TA:=fun _ H Q=>Q [] H
noncomputable def aLS (ta:TE) (tr:TA):TA:=fun σ H Q=>ta σ H fun x H1=>tr σ H1 fun xs H2=>Q (x :: xs) H2
section
variable {X:Cx} {e:Expr} {es:List Expr} {te:TE} {t:TA} {pos:Pos}
theorem aEF:PA X [] aKW:=fun _ _ _ _ H Q I h=>Calls.spliced_nil ⟨[],H,I,.nil,h⟩
theorem aAY (ha:PE X e te) (hr:PA X es t) (hs:starEach (e :: es) X.env = (false,eval e X.env) :: starEach es X.env:=by rfl):PA X (e :: es) (aLS te t):=by
 intro pos pins s σ H Q I h
 rw [hs]
 show wpAny _ _ (spliced ((false,eval e X.env) :: backTo pos (starEach es X.env))) _ _ s
 refine Calls.spliced_cons (thn (ha pins s σ H _ I h) fun u s1 ⟨x,H1,I1,r1,q1⟩=>?_)
 exact thn (hr pos pins s1 σ H1 _ I1 q1) fun us s2 ⟨xs,H2,I2,r2,q2⟩=>⟨x :: xs,H2,I2,.cons r1 r2,q2⟩
noncomputable def aMt (t:TA):TE:=fun σ H Q=>t σ H fun xs H1=>xs.length<=sizeLine/\∀ p,H1 p = none->Q (.ref p) (upd H1 p (.tup xs))
noncomputable def aMp (t:TA):TE:=fun σ H Q=>t σ H fun xs H1=>xs.length<=sizeLine/\∀ p,H1 p = none->Q (.ref p) (upd H1 p (.lst xs))
theorem aKc {x1} (h:PA X es t):PE X (.Tuple es x1 pos) (aMt t):=by
 intro pins s σ H Q I hq
 refine wpAny_Tuple_spliced (thn (h pos pins s σ H _ I hq) fun us s1 ⟨xs,H1,I1,r,z,q⟩=>⟨by rw [<- r.length];exact z,?_⟩)
 have hf:H1 s1.heap.objs.size = none:=I1.hok.fresh (Nat.le_refl _)
 refine ⟨.ref s1.heap.objs.size,upd H1 s1.heap.objs.size (.tup xs),I1.laid (t':=s1.toks) (fun b u e=>Heap.get?_push_of_some _ e) (Nat.le_refl _) ?_,rfl,q _ hf⟩
 exact ⟨z,us,r,⟨_,Heap.get?_push_size _ rfl,rfl,_,rfl⟩⟩
theorem aH4 (h:PA X es t):PE X (.List es pos) (aMp t):=by
 intro pins s σ H Q I hq
 refine wpAny_List_spliced (thn (h pos pins s σ H _ I hq) fun us s1 ⟨xs,H1,I1,r,z,q⟩=>⟨by rw [<- r.length];exact z,?_⟩)
 have hf:H1 s1.heap.objs.size = none:=I1.hok.fresh (Nat.le_refl _)
 refine ⟨.ref s1.heap.objs.size,upd H1 s1.heap.objs.size (.lst xs),I1.laid (t':=s1.toks) (fun b u e=>Heap.get?_push_of_some _ e) (Nat.le_refl _) ?_,rfl,q _ hf⟩
 exact ⟨z,us,0,r,Heap.get?_push_size _ rfl⟩
end
noncomputable abbrev Sp:=List V->Hp->VK->XK->Prop
noncomputable abbrev CXT:=List Env->Hp->Shared->XK->Value->Shared->Prop
structure aCH (P:Program) (w:World) (K:PySem.W.Frag) (mg:Str->Option Value) (base:Heap) (A:Around) (outer:List Env) (s:Shared) (H:Hp):Prop where
 frames:A.frames = some outer
 mod:Mod K mg base
 bs:∀ b o,base.get? b = some o->s.heap.get? b = some o/\H b = none
 bsz:base.objs.size<=s.heap.objs.size
 funs:s.heap.FunFrames base outer
 frf:∀ b ∈ frs outer,H b = none
 hok:HOk P w H s.heap
 bare:AllBare s.gens
noncomputable def CE (outer:List Env) (P:Program) (w:World) (H:Hp) (s:Shared) (Q:VK) (u:Value) (s':Shared):Prop :=
 ∃ v H',s'.os = s.os/\AllBare s'.gens/\Un (frs outer) [] H H' s.heap s'.heap/\HOk P w H' s'.heap/\cM v u/\Q v H'
noncomputable def CR (CX:CXT) (outer:List Env) (P:Program) (w:World) (H:Hp) (s:Shared) (Q:VK) (E:XK) (r:Result) (s':Shared):Prop :=
 match r with
 | .ok (.ret u)=>CE outer P w H s Q u s'
 | .ok _=>False
 | .error e=>CX outer H s E e s'
structure jK (P:Program) (w:World) (K:PySem.W.Frag) (mg:Str->Option Value) (base:Heap) (CX:CXT) (k:Nat) (f:Addr) (fd:FuncData) (ps:List Str) (sp:Sp):Prop where
 len:∀ vs H Q E,sp vs H Q E->vs.length = ps.length
 run:∀ (A:Around) (outer:List Env) (s:Shared) (H:Hp) (args:Args) (us:List Value) (vs:List V) (Q:VK) (E:XK),eF k A->aCH P w K mg base A outer s H->BindsTo s fd args (ps.zip us)->cD vs us->sp vs H Q E ->
  codeAny (model P w) A (.call (.ref f) args) (CR CX outer P w H s Q E) s
theorem jK.mono {P:Program} {w:World} {K:PySem.W.Frag} {mg:Str->Option Value} {base:Heap} {CX:CXT} {j k:Nat} {f:Addr} {fd:FuncData} {ps:List Str} {sp:Sp} (F:jK P w K mg base CX j f fd ps sp) (h:j<=k) :
  jK P w K mg base CX k f fd ps sp:=⟨F.len,fun A outer s H args us vs Q E hr=>F.run A outer s H args us vs Q E (hr.mono h)⟩
theorem jK.imp {P:Program} {w:World} {K:PySem.W.Frag} {mg:Str->Option Value} {base:Heap} {CX:CXT} {k:Nat} {f:Addr} {fd:FuncData} {ps:List Str} {sp sp':Sp} (F:jK P w K mg base CX k f fd ps sp)
  (h:∀ vs H Q E,sp' vs H Q E->sp vs H Q E):jK P w K mg base CX k f fd ps sp' :=
 ⟨fun vs H Q E q=>F.len vs H Q E (h _ _ _ _ q),fun A outer s H args us vs Q E hr he hb hv hs=>F.run A outer s H args us vs Q E hr he hb hv (h _ _ _ _ hs)⟩
theorem aCH.make {P:Program} {w:World} {K:PySem.W.Frag} {mg:Str->Option Value} {base:Heap} {A:Around} {outer:List Env} {s:Shared} {H:Hp} (e:aCH P w K mg base A outer s H) (C:Addr) (us:List Value) (kw:List (Str × Value)) :
  aCH P w K mg base (A.under (.builtin "type.__call__" ⟨.ref C :: us,kw⟩)) outer s H:=⟨by first | exact e.frames | (simpa [Around.under,Code.envs,Code.isFrame,pushEnvs] using e.frames),e.mod,e.bs,e.bsz,e.funs,e.frf,e.hok,e.bare⟩
section
variable {X:Cx} {pins:List (Addr × Obj)} {σ:St} {H:Hp} {s s':Shared}
theorem Inv.env0 (I:Inv X pins σ H s):aCH X.prog X.w X.K X.mg X.base X.A X.stack s H :=
 ⟨I.ok.frames,I.ok.mod,I.bs,Nat.le_trans I.ok.bsz I.sz,I.stack,I.stkFree,I.hok,I.bare⟩
theorem Inv.after {Q:VK} {u:Value} (I:Inv X pins σ H s) (h:CE X.stack X.prog X.w H s Q u s'):EP X pins σ Q u s':=by
 obtain ⟨v,H',os,bare,un,hok,r,q⟩:=h
 obtain ⟨hh,g,d,t,os'⟩:=s'
 obtain rfl:os' = s.os:=os
 exact ⟨v,H',I.call (h':=hh) (g':=g) (d':=d) (t':=t) (ch:=[]) un hok bare (fun b z=>absurd z (by simp)),r,q⟩
end
noncomputable def aHQ (sp:Sp) (dvs:List V) (E:XK) (t:TA):TE:=fun σ H Q=>t σ H fun vs H1=>sp (vs ++ dvs) H1 Q E
noncomputable def mF (K:PySem.W.Frag) (fd:FuncData) (ps:List Str) (ds:List Value):Prop :=
 ∀ (s:Shared) (us:List Value),K.In s.heap->(us ++ ds).length = ps.length->BindsTo s fd ⟨us,[]⟩ (ps.zip (us ++ ds))
theorem mF.all {K:PySem.W.Frag} {fd:FuncData} {ps:List Str} (h:∀ us:List Value,us.length = ps.length->bindArgs fd ⟨us,[]⟩ = pure (ps.zip us)):mF K fd ps []:=fun s us _ hl=>by
 rw [List.append_nil] at hl ⊢
 exact .of_eq (h us hl)
noncomputable def uW (CX:CXT) (X:Cx) (E:XK):Prop:=∀ (pins:List (Addr × Obj)) (σ:St) (H:Hp) (s:Shared) (e:Value) (s':Shared),Inv X pins σ H s->CX X.stack H s E e s'->X.xe e s'
section
variable {X:Cx} {CX:CXT} {k:Nat} {f C:Addr} {fd:FuncData} {ps:List Str} {sp:Sp} {dvs:List V} {ds:List Value} {E:XK} {x m:Str} {p pos apos:Pos} {e o:Expr} {es:List Expr} {ta:TE} {t:TA}
theorem aCj {pins:List (Addr × Obj)} {σ:St} {H:Hp} {s:Shared} {Q:VK} {us:List Value} {vs:List V} (F:jK X.prog X.w X.K X.mg X.base CX k f fd ps sp) (hr:eF k X.A) (hb:mF X.K fd ps ds) (hd:cD dvs ds) (hx:uW CX X E)
  (I:Inv X pins σ H s) (r:cD vs us) (h:sp (vs ++ dvs) H Q E):wpAny (model X.prog X.w) X.A (call (.ref f) us) (EP X pins σ Q) X.xe s:=by
 have r2:cD (vs ++ dvs) (us ++ ds):=r.append hd
 have hl:(us ++ ds).length = ps.length:=by rw [<- r2.length];exact F.len _ _ _ _ h
 refine wpAny_call (codeAny_mono (F.run X.A X.stack s H ⟨us,[]⟩ (us ++ ds) (vs ++ dvs) Q E hr I.env0 (hb s us I.kIn hl) r2 h) fun r s' hq=>?_)
 cases r with
 | error e=>exact hx pins σ H s e s' I hq
 | ok fl =>
  cases fl with
  | ret u=>exact I.after hq
  | next=>exact False.elim hq
  | brk=>exact False.elim hq
  | cont=>exact False.elim hq
theorem aGz (F:jK X.prog X.w X.K X.mg X.base CX k f fd ps sp) (hr:eF k X.A) (hg:Gl X x) (hm:X.mg x = some (.ref f)) (hk:PySem.W.keepIn X.K (.ref f) = true) (hb:mF X.K fd ps ds) (hd:cD dvs ds) (hx:uW CX X E)
  (ha:PA X (e :: es) t) (hdb:(x == ("__debug__":Str)) = false:=by decide) (he:starEach (e :: es) X.env = (false,eval e X.env) :: starEach es X.env:=by rfl) (hpl:(backTo pos (starEach es X.env)).any (·.1) = false:=by rfl) :
  PE X (.Call (.Name x p) (e :: es) [] pos) (aHQ sp dvs E t):=by
 intro pins s σ H Q I h
 refine wpAny_Call_Name_kw (jA I hg hm ?_ hdb)
 refine PySem.W.callWith_K (h₀:=X.base) I.ok.mod.kin hk (thn (ha pos pins s σ H _ I h) fun us s1 ⟨vs,H1,I1,r,q⟩=>⟨I1.kIn,?_⟩) he hpl
 exact aCj F hr hb hd hx I1 r q
theorem aE9 (F:jK X.prog X.w X.K X.mg X.base CX k f fd ps sp) (hr:eF k X.A) (hg:Gl X x) (hm:X.mg x = some (.ref f)) (hk:PySem.W.keepIn X.K (.ref f) = true) (hb:mF X.K fd ps ds) (hd:cD dvs ds) (hx:uW CX X E)
  (hdb:(x == ("__debug__":Str)) = false:=by decide):PE X (.Call (.Name x p) [] [] pos) (aHQ sp dvs E aKW):=by
 intro pins s σ H Q I h
 refine wpAny_Call_Name_kw (jA I hg hm ?_ hdb)
 exact PySem.W.callWith_K0 I.kIn hk (aCj (us:=[]) F hr hb hd hx I .nil h)
end
section
variable {X:Cx} {CX:CXT} {k:Nat} {f C:Addr} {fd:FuncData} {ps ks:List Str} {sp:Sp} {E:XK} {x m:Str} {p pos apos kpos:Pos} {e o:Expr} {es:List Expr} {kws:List Keyword} {te ta:TE} {t tk:TA} {nm:Option Str}
variable {g:List Value->List Value->List Value} {gV:List V->List V->List V}
end
structure aR (N P:List Str) (sc:Scope):Prop where
 kind:sc.kind = .function
 co:sc.isCoroutine = false
 gen:sc.isGenerator = false
 nd:N.Nodup
 pre:N.take P.length = P
 par:∀ x ∈ P,sc.names.lookup x = some .local ∨ sc.names.lookup x = some .cell
 nofree:∀ y ∈ sc.names,y.2 ≠ .free
theorem aAe {kindOf:Str->Option NameKind} {x:Str}:∀ {binds:List (Str × Value)} {m:Str->Option Value},(∀ v,(x,v) ∉ binds)->bindL kindOf binds m x = m x
 | [],_,_=>rfl
 | (n,v) :: r,m,h=>by
  unfold bindL
  rw [aAe fun w hw=>h w (List.mem_cons_of_mem _ hw)]
  split
  ·have:x ≠ n:=by rintro rfl;exact h v List.mem_cons_self
   simp [this]
  ·rfl
theorem aAb {kindOf:Str->Option NameKind} {x:Str}:∀ {binds:List (Str × Value)} {m:Str->Option Value},(∀ v,(x,v) ∉ binds)->bindC kindOf binds m x = m x
 | [],_,_=>rfl
 | (n,v) :: r,m,h=>by
  unfold bindC
  rw [aAb fun w hw=>h w (List.mem_cons_of_mem _ hw)]
  split
  ·rfl
  ·have:x ≠ n:=by rintro rfl;exact h v List.mem_cons_self
   simp [this]
theorem zQ {kindOf:Str->Option NameKind} {x:Str} {v:Value}:∀ {P:List Str} {vs:List Value} {i:Nat} {m:Str->Option Value},P.Nodup->P[i]? = some x->vs[i]? = some v->kindOf x = some .local ->
  bindL kindOf (P.zip vs) m x = some v
 | [],_,_,_,_,h,_,_=>by simp at h
 | _ :: _,[],_,_,_,_,h,_=>by simp at h
 | p :: P,w :: vs,0,m,nd,h1,h2,hk=>by
  simp at h1 h2;subst h1;subst h2
  show bindL kindOf ((p,w) :: P.zip vs) m p = _
  unfold bindL
  rw [aAe fun v hv=>(List.nodup_cons.mp nd).1 (List.of_mem_zip hv).1,if_pos hk]
  simp
 | p :: P,w :: vs,i + 1,m,nd,h1,h2,hk=>by
  show bindL kindOf ((p,w) :: P.zip vs) m x = _
  unfold bindL
  exact zQ (i:=i) (List.nodup_cons.mp nd).2 (by simpa using h1) (by simpa using h2) hk
theorem zU {kindOf:Str->Option NameKind} {x:Str} {v:Value}:∀ {P:List Str} {vs:List Value} {i:Nat} {m:Str->Option Value},P.Nodup->P[i]? = some x->vs[i]? = some v->kindOf x ≠ some .local ->
  bindC kindOf (P.zip vs) m x = some v
 | [],_,_,_,_,h,_,_=>by simp at h
 | _ :: _,[],_,_,_,_,h,_=>by simp at h
 | p :: P,w :: vs,0,m,nd,h1,h2,hk=>by
  simp at h1 h2;subst h1;subst h2
  show bindC kindOf ((p,w) :: P.zip vs) m p = _
  unfold bindC
  rw [aAb fun v hv=>(List.nodup_cons.mp nd).1 (List.of_mem_zip hv).1,if_neg hk]
  simp
 | p :: P,w :: vs,i + 1,m,nd,h1,h2,hk=>by
  show bindC kindOf ((p,w) :: P.zip vs) m x = _
  unfold bindC
  exact zU (i:=i) (List.nodup_cons.mp nd).2 (by simpa using h1) (by simpa using h2) hk
noncomputable def start (N:List Str) (vs:List V):St:=vs.map some ++ List.replicate (N.length - vs.length) none
noncomputable def jV (CX:CXT) (P:Program) (w:World) (K:PySem.W.Frag) (mg:Str->Option Value) (base:Heap) (N:List Str) (qual:Str) (scope:Scope) (f:Addr) (cd:Value) (A:Around) (outer:List Env) (s:Shared) (H:Hp) (E:XK):Cx where
 prog:=P
 w:=w
 K:=K
 mg:=mg
 base:=base
 A:=A.deeper (envOfC qual scope s.heap.objs.size f cd)
 N:=N
 s₀:=s
 H₀:=H
 env:=envOfC qual scope s.heap.objs.size f cd
 outer:=outer
 stack:=envOfC qual scope s.heap.objs.size f cd :: outer
 ex:=[]
 calm:=true
 fn:=fun _=>true
 pn:=[]
 xe:=fun e s'=>wpAny (model P w) (A.deeper (envOfC qual scope s.heap.objs.size f cd)) (leaving (envOfC qual scope s.heap.objs.size f cd) e) (fun _ s''=>CX outer H s E e s'') (fun e' s''=>CX outer H s E e' s'') s'
theorem aBw {sc:Scope} {n:Nat} {x:Str} (h:sc.names.lookup x = some .cell):∃ c,(cellsFrom n sc.names []).lookup x = some c:=by
 have q:=PySem.W.cellsFrom_some sc.names n [] (.inl h)
 exact Option.isSome_iff_exists.mp q
theorem aD1 {CX:CXT} {P:Program} {w:World} {K:PySem.W.Frag} {mg:Str->Option Value} {base:Heap} {N ps:List Str} {qual:Str} {scope:Scope} {f:Addr} {cd:Value} {A:Around} {outer:List Env} {s s1:Shared} {H:Hp} {E:XK} {us:List Value} {vs:List V}
  (S:aR N ps scope) (hd:A.handled = none) (e0:aCH P w K mg base A outer s H) (hl:vs.length = ps.length) (r:cD vs us)
  (x:InCallC s s.heap.objs.size (bindL (envOfC qual scope s.heap.objs.size f cd).kindOf (ps.zip us) fun _=>none) (cellsFrom (s.heap.objs.size + 1) scope.names []) (bindC (envOfC qual scope s.heap.objs.size f cd).kindOf (ps.zip us) fun _=>none) s1) :
  Inv (jV CX P w K mg base N qual scope f cd A outer s H E) [] (start N vs) H s1:=by
 have hpl:ps.length<=N.length:=by have:=congrArg List.length S.pre;rw [List.length_take] at this;omega
 obtain ⟨h1,tk,rfl,hk⟩:=x.done
 have noA:∀ b:Addr,b ∉ (jV CX P w K mg base N qual scope f cd A outer s H E).ex:=fun b z=>absurd (show b ∈ ([]:List Addr) from z) (by simp)
 refine ⟨⟨e0.mod,S.kind,rfl,rfl,Nat.le_refl _,fun y z c h1 h2=>?_,fun y hy=>?_,fun y c _ h=>?_,fun _=>hd,Around.frames_deeper e0.frames,.inr ⟨rfl,rfl⟩,fun b z=>absurd z (noA b),e0.bs,e0.bsz,fun b _ _=>noA b,fun b z=>absurd z (noA b),e0.funs,e0.frf⟩,
  rfl,e0.bare,Un.kept hk,⟨_,x.toInCall.ns,fun i y v h1 h2 h3=>?_⟩,fun y c h=>⟨_,x.cell y c h⟩,e0.hok.fresh (Nat.le_refl _),fun y c h=>?_,fun p hp=>absurd (show p ∈ ([]:List (Addr × Obj)) from hp) (by simp),e0.hok.kept hk,?_⟩
 ·exact name_of_addr x.apart (PySem.mem_of_lookup h1) (PySem.mem_of_lookup h2)
 ·have hy:scope.names.lookup y = some .cell ∨ scope.names.lookup y = some .free:=hy
  rcases hy with hy | hy
  ·exact aBw hy
  ·exact absurd rfl (S.nofree _ (PySem.mem_of_lookup hy))
 ·exact Nat.le_of_lt (x.above y c (PySem.mem_of_lookup h))
 ·have hi:i < vs.length:=by
   unfold start at h2
   by_cases hi:i < vs.length
   ·exact hi
   ·rw [List.getElem?_append_right (by simpa using hi)] at h2
    rw [List.getElem?_replicate] at h2
    split at h2<;>cases h2
  have ha:vs[i]? = some v:=by
   unfold start at h2
   rw [List.getElem?_append_left (by simpa using hi),List.getElem?_map] at h2
   cases e:vs[i]? with
   | none=>rw [e] at h2;cases h2
   | some a=>rw [e] at h2;cases h2;rfl
  obtain ⟨u,hu,rv⟩:=r.get ha
  have hp:ps[i]? = some y:=by
   rw [<- S.pre,List.getElem?_take_of_lt (by omega)];exact h1
  have ndP:ps.Nodup:=by rw [<- S.pre];exact S.nd.sublist (List.take_sublist _ _)
  refine ⟨u,rv,?_⟩
  rcases S.par y (List.mem_of_getElem? hp) with k | k
  ·exact .inl ⟨k,zQ ndP hp hu k⟩
  ·obtain ⟨c,e⟩:=aBw (n:=s.heap.objs.size + 1) k
   refine .inr ⟨.inl k,c,e,?_⟩
   have q:=x.cell y c e
   rw [zU ndP hp hu (by show scope.names.lookup y ≠ _;rw [k];decide)] at q
   exact q
 ·exact e0.hok.fresh (Nat.le_of_lt (x.above y c (PySem.mem_of_lookup h)))
 ·unfold start
  show _ = N.length
  rw [List.length_append,List.length_map,List.length_replicate]
  omega
theorem aED {CX:CXT} {P:Program} {w:World} {K:PySem.W.Frag} {mg:Str->Option Value} {base:Heap} {k:Nat} {f:Addr} {name qual:Str} {params:Arguments} {body:List Stmt} {scope:Scope} {dV kV doc pm cdv ct oc:Value} {an od:Option Addr}
  {osl:Array (Option Value)} {N ps:List Str} {sp:Sp} (lk:K.lookup f = some ⟨oc,od,.func (PySem.W.fnOf name qual params body scope dV kV doc pm an cdv ct),osl⟩) (hcd:PySem.W.codeIn K cdv qual = true) (S:aR N ps scope)
  (len:∀ vs H Q E,sp vs H Q E->vs.length = ps.length)
  (hbody:∀ (A:Around) (outer:List Env) (s:Shared) (H:Hp) (vs:List V) (Q:VK) (E:XK),eF k (A.deeper (envOfC qual scope s.heap.objs.size f cdv))->sp vs H Q E ->
   ∃ t,PSs (jV CX P w K mg base N qual scope f cdv A outer s H E) body t/\t { nx:=fun _ H'=>Q .non H',rt:=Q } (start N vs) H) :
  jK P w K mg base CX (k + 1) f (PySem.W.fnOf name qual params body scope dV kV doc pm an cdv ct) ps sp:=by
 refine ⟨len,fun A outer s H args us vs Q E hr e0 hb r hsp=>?_⟩
 have hl:=len _ _ _ _ hsp
 have KX:K.In s.heap:=e0.mod.kin.keeps fun b o e=>(e0.bs b o e).1
 have lim:s.heap.NoLimit:=e0.mod.nolimit.keeps fun b o e=>(e0.bs b o e).1
 have hkind:∀ y ∈ ps.zip us,scope.names.lookup y.1 = some .local ∨ (scope.names.lookup y.1 = some .cell/\((cellsFrom (s.heap.objs.size + 1) scope.names []).lookup y.1).isSome = true):=fun ⟨n,v⟩ hy=>by
  rcases S.par n (List.of_mem_zip hy).1 with q | q
  ·exact .inl q
  ·exact .inr ⟨q,PySem.W.cellsFrom_some _ _ _ (.inl q)⟩
 refine codeAny_call_function hr.depth (KX _ _ lk) rfl S.co S.gen rfl (PySem.W.codeRec_of KX hcd) (hb _ _ _ _ ?_)
 refine wpAny_newFunctionEnv_cells S.kind hkind fun env he s1 x=>?_
 subst he
 refine ⟨lim.keeps x.toInCall.keep,codeAny_func ?_⟩
 obtain ⟨t,ht,hq⟩:=hbody A outer s H vs Q E (hr.deeper _) hsp
 have I:Inv (jV CX P w K mg base N qual scope f cdv A outer s H E) [] (start N vs) H s1:=aD1 S hr.hd e0 hl r x
 refine wpAny_mono (ht [] s1 (start N vs) H _ I hq) (fun fl s' hs=>?_) fun e s' hs=>hs
 have fin:∀ {σ':St} {H':Hp} {v:V} {u:Value},Inv (jV CX P w K mg base N qual scope f cdv A outer s H E) [] σ' H' s'->cM v u->Q v H'->CE outer P w H s Q u s' :=
  fun {σ' H' v u} J rv q=>⟨v,H',J.os,J.bare,J.base,J.hok,rv,q⟩
 cases fl with
 | ret u =>
  obtain ⟨v,σ',H',J,rv,q⟩:=hs
  exact fin J rv q
 | next =>
  obtain ⟨σ',H',J,q⟩:=hs
  exact fin (v:=V.non) (u:=Value.none) J rfl q
 | brk =>
  obtain ⟨_,_,_,q⟩:=hs
  exact False.elim q
 | cont =>
  obtain ⟨_,_,_,q⟩:=hs
  exact False.elim q
end L2
namespace L2
open PySem PySem.Spec PyProof.Rows
section
variable {X:Cx} {x:Str} {p pos:Pos} {e:Expr} {es:List Expr} {t:TA} {id T:String} {r:List V->Hp->VK->Prop}
noncomputable def tCB (r:List V->Hp->VK->Prop) (t:TA):TE:=fun σ H Q=>t σ H fun vs H1=>r vs H1 Q
theorem aBu (hc:mK X (.builtin id) r) (hg:Gl X x) (hm:X.mg x = none) (hv:bootBuiltins x = some (.builtin id)) (ha:PA X (e :: es) t) (hn:x ≠ "__name__":=by decide) (hdb:(x == ("__debug__":Str)) = false:=by decide)
  (he:starEach (e :: es) X.env = (false,eval e X.env) :: starEach es X.env:=by rfl) (hpl:(backTo pos (starEach es X.env)).any (·.1) = false:=by rfl):PE X (.Call (.Name x p) (e :: es) [] pos) (tCB r t):=by
 intro pins s σ H Q I h
 refine wpAny_Call_Name_kw (aAo I hg hm hv ?_ hn hdb)
 exact PyProof.Rows.callWith_builtin1 (thn (ha pos pins s σ H _ I h) fun us s1 ⟨vs,H1,I1,r1,q1⟩=>hc pins s1 σ H1 vs us Q I1 r1 q1) he hpl
theorem aDU (hc:mK X (.type T) r) (hg:Gl X x) (hm:X.mg x = none) (hv:bootBuiltins x = some (.type T)) (ha:PA X (e :: es) t) (hn:x ≠ "__name__":=by decide) (hdb:(x == ("__debug__":Str)) = false:=by decide)
  (he:starEach (e :: es) X.env = (false,eval e X.env) :: starEach es X.env:=by rfl) (hpl:(backTo pos (starEach es X.env)).any (·.1) = false:=by rfl):PE X (.Call (.Name x p) (e :: es) [] pos) (tCB r t):=by
 intro pins s σ H Q I h
 refine wpAny_Call_Name_kw (aAo I hg hm hv ?_ hn hdb)
 exact PyProof.Rows.callWith_type1 (thn (ha pos pins s σ H _ I h) fun us s1 ⟨vs,H1,I1,r1,q1⟩=>hc pins s1 σ H1 vs us Q I1 r1 q1) he hpl
end
end L2
namespace HT
open PySem PyProof.Rows
section
open PySem.SeqAt
open PySem.AutoSeq1 (wpAny_loadPart')
open PySem.MeetsSeq PySem.MeetsSeq2 PySem.MeetsSeq3
end
section
variable {prog:Program} {w:World} {A:Around} {E:Value->Shared->Prop} {s:Shared}
theorem cat_tup {t b:Addr} {vs ws:List Value} {Q:Value->Shared->Prop} (ht:IsTup s.heap t vs.toArray) (hb:IsTup s.heap b ws.toArray) (hv:vs ≠ [])
  (h1:ws = []->Q (.ref t) s) (h2:ws ≠ []->Q (.ref s.heap.objs.size) { s with heap:=s.heap.push { cls:=.type "tuple",data:=.seq (vs ++ ws).toArray } })
  (hsz:vs.length + ws.length<=sizeLine):wpAny (model prog w) A (binaryOp .Add (.ref t) (.ref b)) Q E s:=by
 obtain ⟨⟨cls,dd,data,sl⟩,ho,hc,n,hd⟩:=id ht
 obtain ⟨⟨cls2,dd2,data2,sl2⟩,ho2,hc2,n2,hd2⟩:=id hb
 simp only at hc hd hc2 hd2
 subst hc hd hc2 hd2
 have e:vs.toArray ++ ws.toArray = (vs ++ ws).toArray:=by simp
 by_cases hw:ws = []
 ·exact concat_meets ⟨_,ho,rfl⟩ ⟨_,ho2,rfl⟩ noFill_tuple_add seq_tuple_add PySem.F.slot_tuple_add PySem.F.entry_tuple_add (PySem.F.args_tuple_add_2 _ _)
   (tuple_addW1 t b vs.toArray ws.toArray n n2 dd dd2 sl sl2 (by simpa using hv) (by simp [hw])) ⟨ho,ho2,h1 hw⟩
 ·refine concat_meets ⟨_,ho,rfl⟩ ⟨_,ho2,rfl⟩ noFill_tuple_add seq_tuple_add PySem.F.slot_tuple_add PySem.F.entry_tuple_add (PySem.F.args_tuple_add_2 _ _)
   (tuple_addW2 t b vs.toArray ws.toArray n n2 dd dd2 sl sl2 (by simpa using hv) (by simpa using hw) (by rw [List.size_toArray,List.size_toArray];exact hsz)) ⟨ho,ho2,?_⟩
  rw [e]
  exact h2 hw
noncomputable def sIx (n d:Nat):Option Int->Nat
 | none=>d
 | some v=>if v < 0 then (v + (n:Int)).toNat else min v.toNat n
theorem sIx_nat (n d k:Nat):sIx n d (some (k:Int)) = min k n:=by
 show (if (k:Int) < 0 then ((k:Int) + (n:Int)).toNat else min (k:Int).toNat n) = min k n
 rw [if_neg (by omega),Int.toNat_natCast]
theorem aH6 (n d:Nat) (hd:d<=n) (o:Option Int):sIx n d o<=n:=by
 cases o with
 | none=>exact hd
 | some v =>
  show (if v < 0 then (v + (n:Int)).toNat else min v.toNat n)<=n
  by_cases hv:v < 0
  ·rw [if_pos hv];omega
  ·rw [if_neg hv];exact Nat.min_le_right _ _
theorem aCL (v:Int) (n d:Nat):(if v < 0 then max (v + (n:Int)) 0 else min v (n:Int)) = ((sIx n d (some v):Nat):Int):=by
 show (if v < 0 then max (v + (n:Int)) 0 else min v (n:Int)) = (((if v < 0 then (v + (n:Int)).toNat else min v.toNat n):Nat):Int)
 by_cases hv:v < 0
 ·simp only [if_pos hv];omega
 ·simp only [if_neg hv];omega
theorem aCs (lo hi:Option Int) (n:Nat):Builtin.Slice.sliceAdjust lo hi 1 (n:Int) = (((sIx n 0 lo:Nat):Int),((sIx n n hi:Nat):Int)):=by
 have h1:¬ ((1:Int) < 0):=by omega
 unfold Builtin.Slice.sliceAdjust
 simp only [h1,if_false]
 refine Prod.ext ?_ ?_
 ·cases lo with
  | none=>rfl
  | some v=>exact aCL v n 0
 ·cases hi with
  | none=>rfl
  | some v=>exact aCL v n n
theorem aCw (i j:Nat):Builtin.Slice.slicePlaces (i:Int) (j:Int) 1 = j - i:=by
 unfold Builtin.Slice.slicePlaces
 have h1:(1:Int) > 0:=by omega
 simp only [h1,if_true,Int.ediv_one]
 split<;>omega
theorem yF {v:Value} {o:Option Int} {Q:Option Int->Shared->Prop} (p:IsPart v o) (h:Q o s):wpAny (model prog w) A (Builtin.Slice.slicePartIndex v) Q E s:=by
 cases p with
 | none=>exact slicePart_none h
 | int i t=>exact slicePart_int h
theorem mI {sl:Addr} {vl vu:Value} {lo hi:Option Int} {n:Nat} {Q:Int × Int × Nat->Shared->Prop} (hs:s.heap.IsSliceOf sl vl vu .none) (pl:IsPart vl lo) (pu:IsPart vu hi)
  (h:Q (((sIx n 0 lo:Nat):Int),1,sIx n n hi - sIx n 0 lo) s):wpAny (model prog w) A (Builtin.Slice.sliceApplied (.ref sl) (pure (n:Int))) Q E s:=by
 obtain ⟨os,hos,hcs,hds⟩:=id hs
 unfold Builtin.Slice.sliceApplied Builtin.Slice.sliceFields
 refine wpAny_bind (wpAny_bind (wpAny_field hos hds (x:=vl) rfl (wpAny_bind (wpAny_field hos hds (x:=vu) rfl (wpAny_bind (wpAny_field hos hds (x:=.none) rfl (wpAny_pure ?_)))))))
 refine wpAny_bind (slicePart_none ?_)
 show wpAny _ _ (if ((1:Int) == 0) = true then _ else _) _ _ s
 rw [if_neg (by decide)]
 refine wpAny_bind (yF pl (wpAny_bind (yF pu (wpAny_bind (wpAny_pure ?_)))))
 show wpAny _ _ (match Builtin.Slice.sliceAdjust lo hi 1 (n:Int) with | (lo,hi)=>pure (lo,(1:Int),Builtin.Slice.slicePlaces lo hi 1)) _ _ s
 rw [aCs lo hi n]
 show wpAny _ _ (pure (((sIx n 0 lo:Nat):Int),(1:Int),Builtin.Slice.slicePlaces ((sIx n 0 lo:Nat):Int) ((sIx n n hi:Nat):Int) 1)) _ _ s
 rw [aCw]
 exact wpAny_pure h
theorem aFy (xs:Array Value) (i k:Nat):((List.range k).filterMap fun (m:Nat)=>xs[((i:Int) + (m:Int) * 1).toNat]?).toArray = ((xs.toList.drop i).take k).toArray:=by
 have e:(fun (m:Nat)=>xs[((i:Int) + (m:Int) * 1).toNat]?) = fun m=>xs[i + m]?:=by
  funext m
  have:((i:Int) + (m:Int) * 1).toNat = i + m:=by omega
  rw [this]
 rw [e]
 have:=pick_run xs i k
 rw [List.filterMap_map] at this
 have e2:((fun x=>xs[x]?) ∘ fun x=>i + x) = fun m=>xs[i + m]?:=rfl
 rw [e2] at this
 rw [this]
theorem getItem_tuple_cut {t sl:Addr} {items:Array Value} {vl vu:Value} {lo hi:Option Int} {Q:Value->Shared->Prop} (ht:IsTup s.heap t items) (hs:s.heap.IsSliceOf sl vl vu .none) (pl:IsPart vl lo) (pu:IsPart vu hi)
  (hw:¬ (sIx items.size 0 lo = 0/\sIx items.size items.size hi = items.size))
  (h:Q (.ref s.heap.objs.size) { s with heap:=s.heap.push { cls:=.type "tuple",data:=.seq ((items.toList.drop (sIx items.size 0 lo)).take (sIx items.size items.size hi - sIx items.size 0 lo)).toArray } })
  (hsz:items.size<=sizeLine):wpAny (model prog w) A (getItem (.ref t) (.ref sl)) Q E s:=by
 have htake:sizeOk (.seq ((items.toList.drop (sIx items.size 0 lo)).take (sIx items.size items.size hi - sIx items.size 0 lo)).toArray):=by
  show ((items.toList.drop (sIx items.size 0 lo)).take (sIx items.size items.size hi - sIx items.size 0 lo)).toArray.size<=sizeLine
  rw [List.size_toArray,List.length_take,List.length_drop,Array.length_toList]
  omega
 have hj:sIx items.size items.size hi<=items.size:=aH6 _ _ (Nat.le_refl _) hi
 obtain ⟨os,hos,hcs,hds⟩:=id hs
 have hTs:s.TypeIs (.ref sl) "slice":=⟨os,hos,hcs⟩
 unfold getItem
 try with_reducible refine wpAny_holding ?_
 first | refine wpAny_bind (wpAny_pure ?_) | skip
 refine wpAny_bind (wpAny_sequenceKey ht.typeIs (by decide) ?_)
 refine wpAny_bind (wpAny_callSpecial?_slot (name:=Str.ofString "__getitem__") ht.typeIs PyProof.Rows.slot_tuple_getitem
  (wpAny_call_entry PyProof.Rows.slot_tuple_getitem ht.typeIs entry_tuple_getitem ?_ (args_tuple_getitem _ _)))
 show wpAny _ _ (Builtin.Tuple.tupleItemsOf (.ref t) >>= _) _ _ s
 refine wpAny_bind (tupleItemsOf_ ht ?_)
 refine wpAny_bind (wpAny_typeOf hTs ?_)
 rw [if_pos (by decide)]
 refine wpAny_bind (mI hs pl pu ?_)
 have hno:¬ ((((sIx items.size 0 lo:Nat):Int) == 0 && (1:Int) == 1 && (sIx items.size items.size hi - sIx items.size 0 lo) == items.size) = true):=by
  intro q
  rw [Bool.and_eq_true,Bool.and_eq_true] at q
  have q1:((sIx items.size 0 lo:Nat):Int) = 0:=eq_of_beq q.1.1
  have q2:sIx items.size items.size hi - sIx items.size 0 lo = items.size:=eq_of_beq q.2
  exact hw ⟨by omega,by omega⟩
 show wpAny _ _ (if (((sIx items.size 0 lo:Nat):Int) == 0 && (1:Int) == 1 && (sIx items.size items.size hi - sIx items.size 0 lo) == items.size) = true then _ else _) _ _ s
 rw [if_neg hno,aFy]
 first
  | exact wpAny_bind (m:=Builtin.Tuple.tupleExact _) (wpAny_newObj_type (wpAny_pure ⟨_,rfl,wpAny_pure h⟩) htake)
  | exact wpAny_bind (m:=Builtin.Tuple.tupleExact _) (wpAny_newObj_type (wpAny_bind (wpAny_pure (wpAny_pure ⟨_,rfl,wpAny_pure h⟩))) htake)
  | exact wpAny_bind (wpAny_bind (m:=Builtin.Tuple.tupleExact _) (wpAny_newObj_type (wpAny_pure (wpAny_pure ⟨_,rfl,wpAny_pure h⟩)) htake))
  | exact wpAny_bind (wpAny_bind (m:=Builtin.Tuple.tupleExact _) (wpAny_newObj_type (wpAny_pure ⟨_,rfl,wpAny_pure h⟩) htake))
end
end HT
namespace L2
open PySem PySem.Spec PyProof.Rows
noncomputable abbrev TO:=St->Hp->(Option Int->Hp->Prop)->Prop
noncomputable def PO (X:Cx) (e:Option Expr) (t:TO):Prop :=
 ∀ (pins:List (Addr × Obj)) (s:Shared) (σ:St) (H:Hp) (Q:Option Int->Hp->Prop),Inv X pins σ H s->t σ H Q ->
  wpAny (model X.prog X.w) X.A (evalPart e X.env) (fun u s'=>∃ o H',Inv X pins σ H' s'/\IsPart u o/\Q o H') X.xe s
noncomputable def aGB:TO:=fun _ H Q=>Q none H
noncomputable def aLA (t:TE):TO:=fun σ H Q=>t σ H fun x H1=>∃ i,x = .int i/\Q (some i) H1
section
variable {X:Cx} {e:Expr} {te:TE} {lo hi:Option Expr} {tl th:TO} {pos p2:Pos}
theorem aGE:PO X none aGB:=by
 intro pins s σ H Q I h
 rw [evalPart_none]
 exact wpAny_pure ⟨none,H,I,.none,h⟩
theorem aGj (h:PE X e te):PO X (some e) (aLA te):=by
 intro pins s σ H Q I hw
 rw [evalPart_some]
 refine thn (h pins s σ H _ I hw) fun u s1 ⟨x,H1,I1,r1,q1⟩=>?_
 obtain ⟨i,rfl,q⟩:=q1
 obtain ⟨t,rfl⟩:=r1
 exact ⟨some i,H1,I1,.int i t,q⟩
noncomputable def SlR (X:Cx) (r:V->Option Int->Option Int->Hp->VK->Prop):Prop :=
 ∀ (pins:List (Addr × Obj)) (s:Shared) (σ:St) (H:Hp) (x:V) (v vl vu:Value) (lo hi:Option Int) (sl:Addr) (Q:VK),Inv X pins σ H s->cM x v->s.heap.IsSliceOf sl vl vu .none->IsPart vl lo->IsPart vu hi->r x lo hi H Q ->
  ∃ T id,typeLookup (.type T) "__getitem__" = pure (some (.builtin id))/\s.TypeIs v T/\wpAny (model X.prog X.w) X.A (getItem v (.ref sl)) (EP X pins σ Q) X.xe s
theorem SlR.or {r r':V->Option Int->Option Int->Hp->VK->Prop} (h:SlR X r) (h':SlR X r'):SlR X (fun x lo hi H Q=>r x lo hi H Q ∨ r' x lo hi H Q):=by
 intro pins s σ H x v vl vu lo hi sl Q I rx hs pl pu q
 rcases q with q | q
 ·exact h pins s σ H x v vl vu lo hi sl Q I rx hs pl pu q
 ·exact h' pins s σ H x v vl vu lo hi sl Q I rx hs pl pu q
noncomputable def tSl (r:V->Option Int->Option Int->Hp->VK->Prop) (te:TE) (tl th:TO):TE:=fun σ H Q=>te σ H fun x H1=>tl σ H1 fun l H2=>th σ H2 fun u H3=>r x l u H3 Q
theorem wO {r:V->Option Int->Option Int->Hp->VK->Prop} (hr:SlR X r) (he:PE X e te) (hl:PO X lo tl) (hu:PO X hi th):PE X (.Subscript e (.Slice lo hi none p2) pos) (tSl r te tl th):=by
 intro pins s σ H Q I h
 refine Subscript_ (thn (he pins s σ H _ I h) fun v s1 ⟨x,H1,I1,r1,q1⟩=>?_)
 refine wpAny_Slice (thn (hl pins s1 σ H1 _ I1 q1) fun vl s2 ⟨l,H2,I2,pl,q2⟩=>thn (hu pins s2 σ H2 _ I2 q2) fun vu s3 ⟨u,H3,I3,pu,q3⟩=>?_)
 rw [evalPart_none]
 refine wpAny_pure ?_
 have I4:Inv X pins σ H3 { s3 with heap:=s3.heap.push { cls:=.type "slice",data:=.fields #[vl,vu,.none] } }:=I3.kept (t':=s3.toks) fun b ob q=>Heap.get?_push_of_some _ q
 obtain ⟨T,id,hT,ht,hg⟩:=hr pins { s3 with heap:=s3.heap.push { cls:=.type "slice",data:=.fields #[vl,vu,.none] } } σ H3 x v vl vu l u s3.heap.objs.size Q I4 r1 (Heap.IsSliceOf.new ..) pl pu q3
 show wpAny (model X.prog X.w) X.A (subscriptTail e (.Slice lo hi none p2) v (.ref s3.heap.objs.size)) (EP X pins σ Q) X.xe { s3 with heap:=s3.heap.push { cls:=.type "slice",data:=.fields #[vl,vu,.none] } }
 exact tail_any (ops:=[.ref s3.heap.objs.size,v]) ht hT hg (by with_unfolding_all rfl)
noncomputable def aBZ (xs:List V) (lo hi:Option Int):List V:=(xs.drop (HT.sIx xs.length 0 lo)).take (HT.sIx xs.length xs.length hi - HT.sIx xs.length 0 lo)
theorem vG (xs:List V) (lo hi:Option Int):(aBZ xs lo hi).length<=xs.length:=by
 unfold aBZ
 rw [List.length_take,List.length_drop]
 omega
noncomputable def aMk (K:PySem.W.Frag):V->Option Int->Option Int->Hp->VK->Prop:=fun x lo hi H Q=>∃ a xs,x = .ref a/\SqT K H a xs /\
 ¬ (HT.sIx xs.length 0 lo = 0/\HT.sIx xs.length xs.length hi = xs.length)/\∀ p,H p = none->Q (.ref p) (upd H p (.tup (aBZ xs lo hi)))
theorem aFF:SlR X (aMk X.K):=by
 intro pins s σ H x v vl vu lo hi sl Q I rx hs pl pu h
 obtain ⟨a,xs,rfl,hx,hw,q⟩:=h
 cases rx
 obtain ⟨its,r,ht,hz⟩:=I.tuple hx
 have hlen:its.toArray.size = xs.length:=by rw [List.size_toArray];exact r.length.symm
 refine ⟨"tuple",_,PyProof.Rows.slot_tuple_getitem.lookup,ht.typeIs,?_⟩
 refine HT.getItem_tuple_cut ht hs pl pu (by rw [hlen];exact hw) ?_ (by rw [hlen];exact hz)
 rw [hlen]
 refine ⟨.ref s.heap.objs.size,_,I.laid (t':=s.toks) (o:=.tup (aBZ xs lo hi)) (fun b ob q=>Heap.get?_push_of_some _ q) (Nat.le_refl _) ?_,rfl,q _ (I.hok.fresh (Nat.le_refl _))⟩
 exact ⟨Nat.le_trans (vG xs lo hi) hz,_,(r.drop (HT.sIx xs.length 0 lo)).take (HT.sIx xs.length xs.length hi - HT.sIx xs.length 0 lo),IsTup.new _ _⟩
noncomputable def aLq (K:PySem.W.Frag):R2:=fun x y H Q=>∃ a b xs ys,x = .ref a/\y = .ref b/\SqT K H a xs/\SqT K H b ys/\xs ≠ []/\xs.length + ys.length<=sizeLine /\
 (ys = []->Q (.ref a) H)/\(ys ≠ []->∀ p,H p = none->Q (.ref p) (upd H p (.tup (xs ++ ys))))
theorem cD.nil_iff {xs:List V} {us:List Value} (r:cD xs us):us = [] ↔ xs = []:=by
 cases r with
 | nil=>simp
 | cons _ _=>simp
theorem aC6:OpR X (binaryOp .Add) (aLq X.K):=by
 intro pins s σ H x y v u Q I rx ry h
 obtain ⟨a,b,xs,ys,rfl,rfl,ha,hb,hx,hz,q1,q2⟩:=h
 cases rx
 cases ry
 obtain ⟨its,r1,p1,_⟩:=I.tuple ha
 obtain ⟨its2,r2,p2,_⟩:=I.tuple hb
 refine HT.cat_tup p1 p2 (fun z=>hx (r1.nil_iff.mp z)) (fun z=>⟨.ref a,H,I,rfl,q1 (r2.nil_iff.mp z)⟩) (fun z=>?_) (by rw [<- r1.length,<- r2.length];exact hz)
 refine ⟨.ref s.heap.objs.size,_,I.laid (t':=s.toks) (o:=.tup (xs ++ ys)) (fun b ob q=>Heap.get?_push_of_some _ q) (Nat.le_refl _) ?_,rfl,q2 (fun w=>z (r2.nil_iff.mpr w)) _ (I.hok.fresh (Nat.le_refl _))⟩
 exact ⟨by rw [List.length_append];exact hz,_,r1.append r2,IsTup.new _ _⟩
end
end L2
namespace L2
open PySem PySem.Spec PyProof.Rows
noncomputable def ixN (n:Nat) (i:Int):Option Nat:=if 0<=i then (if i < n then some i.toNat else none) else if -(n:Int)<=i then some (i + n).toNat else none
noncomputable def atI {α:Type} (xs:List α) (i:Int):Option α:=(ixN xs.length i).bind fun j=>xs[j]?
theorem aGq {n:Nat} {i:Int} {j:Nat} (h:ixN n i = some j):seqIndex? i n = some j/\j < n/\-(n:Int)<=i/\i < n:=by
 unfold ixN at h
 by_cases h0:0<=i
 ·rw [if_pos h0] at h
  by_cases h1:i < n
  ·rw [if_pos h1] at h
   have e:i.toNat = j:=Option.some.inj h
   exact ⟨by rw [seqIndex_of h0 h1,e],by omega,by omega,h1⟩
  ·rw [if_neg h1] at h;cases h
 ·rw [if_neg h0] at h
  by_cases h1:-(n:Int)<=i
  ·rw [if_pos h1] at h
   have e:(i + n).toNat = j:=Option.some.inj h
   exact ⟨by rw [seqIndex_neg (by omega) h1,e],by omega,h1,by omega⟩
  ·rw [if_neg h1] at h;cases h
theorem aDm {α:Type} {xs:List α} {i:Int} {v:α} (h:atI xs i = some v):∃ j,seqIndex? i xs.length = some j/\xs[j]? = some v/\j < xs.length/\-(xs.length:Int)<=i/\i < xs.length:=by
 unfold atI at h
 cases e:ixN xs.length i with
 | none=>rw [e] at h;cases h
 | some j =>
  rw [e] at h
  obtain ⟨h1,h2,h3,h4⟩:=aGq e
  exact ⟨j,h1,h,h2,h3,h4⟩
theorem aHl {α:Type} {xs:List α} {j:Nat} {v:α} (h:xs[j]? = some v):atI xs (j:Int) = some v:=by
 have hj:j < xs.length:=(List.getElem?_eq_some_iff.mp h).1
 have e:ixN xs.length (j:Int) = some j:=by
  unfold ixN
  rw [if_pos (by omega),if_pos (by omega)];simp
 unfold atI;rw [e];exact h
noncomputable def tI (b:Expr):Prop:=∀ o i,subscripted b false o i = operate [o,i] (getItem o i)
noncomputable def IxR (X:Cx) (r:R2):Prop :=
 ∀ (value slice:Expr) (pins:List (Addr × Obj)) (s:Shared) (σ:St) (H:Hp) (x y:V) (v u:Value) (Q:VK),Inv X pins σ H s->cM x v->cM y u->r x y H Q ->
  subscripted slice false v u = operate [v,u] (getItem v u)->wpAny (model X.prog X.w) X.A (subscriptTail value slice v u) (EP X pins σ Q) X.xe s
noncomputable def MtR (X:Cx) (id:String) (r:V->List V->Hp->VK->Prop):Prop :=
 ∀ (pins:List (Addr × Obj)) (s:Shared) (σ:St) (H:Hp) (x:V) (xs:List V) (v:Value) (us:List Value) (Q:VK),Inv X pins σ H s->cM x v->cD xs us->r x xs H Q ->
  wpAny (model X.prog X.w) X.A (call (.builtin id) (v :: us)) (EP X pins σ Q) X.xe s
section
variable {X:Cx} {a b:Expr} {ta tb:TE} {pos:Pos}
theorem aKT {r:R2} (hr:IxR X r) (ha:PE X a ta) (hb:PE X b tb) (hs:tI b):PE X (.Subscript a b pos) (tOp r ta tb):=by
 intro pins s σ H Q I h
 exact Subscript_ (aIX ha hb I h fun v u s2 x y H2 I2 rx ry q=>hr a b pins s2 σ H2 x y v u Q I2 rx ry q (hs _ _))
noncomputable def aMf (K:PySem.W.Frag):R2:=fun x y H Q=>∃ p xs i v,x = .ref p/\y = .int i/\SqL K H p xs/\atI xs i = some v/\Q v H
noncomputable def aMA (K:PySem.W.Frag):R2:=fun x y H Q=>∃ p xs i v,x = .ref p/\y = .int i/\SqT K H p xs/\atI xs i = some v/\Q v H
theorem aDb:IxR X (aMf X.K):=by
 intro value slice pins s σ H x y v u Q I rx ry h hs
 obtain ⟨p,xs,i,z,rfl,rfl,hq,he,q⟩:=h
 cases rx
 obtain ⟨t,rfl⟩:=ry
 obtain ⟨its,r,pl,hz⟩:=I.list hq
 obtain ⟨j,h1,h2,h3,h4,h5⟩:=aDm he
 obtain ⟨w,ew,rw'⟩:=r.get h2
 have hl:=r.length
 have hn:=aCi
 have fin:EP X pins σ Q w s:=⟨z,H,I,rw',q⟩
 by_cases h0:0<=i
 ·have hj:i.toNat = j:=by
   rw [seqIndex_of h0 h5] at h1
   exact Option.some.inj h1
  exact item_listR pl.isList h0 (by omega) (by rw [hj];simpa using ew) fin hs
 ·have hj:(i + (its.toArray.size:Int)).toNat = j:=by
   rw [seqIndex_neg (by omega) h4] at h1
   rw [List.size_toArray,<- hl]
   exact Option.some.inj h1
  exact subscriptTail_builtinR (x:=w) pl.isList.typeIs slot_list_getitem.lookup
   (wpAny_getItem_list_neg (Q:=fun r s'=>r = w/\EP X pins σ Q r s') pl.isList (by omega) (by rw [List.size_toArray]<;>omega) (by omega) (by rw [hj];simpa using ew) ⟨rfl,fin⟩) hs
theorem aJo:IxR X (aMA X.K):=by
 intro value slice pins s σ H x y v u Q I rx ry h hs
 obtain ⟨p,xs,i,z,rfl,rfl,hq,he,q⟩:=h
 cases rx
 obtain ⟨t,rfl⟩:=ry
 obtain ⟨its,r,pl,hz⟩:=I.tuple hq
 obtain ⟨j,h1,h2,h3,h4,h5⟩:=aDm he
 obtain ⟨w,ew,rw'⟩:=r.get h2
 have hl:=r.length
 have hn:=aCi
 have fin:EP X pins σ Q w s:=⟨z,H,I,rw',q⟩
 exact subscriptTail_builtinR (x:=w) pl.typeIs slot_tuple_getitem.lookup
  (getItem_tuple (j:=j) (Q:=fun r s'=>r = w/\EP X pins σ Q r s') pl (by omega) (by omega) (by rw [List.size_toArray,<- hl];exact h1) (by simpa using ew) ⟨rfl,fin⟩) hs
theorem aBe (lo hi:Option Int) (n:Nat):(sliceBounds lo hi none n).1 = ((HT.sIx n 0 lo:Nat):Int)/\(sliceBounds lo hi none n).2.1 = ((HT.sIx n n hi:Nat):Int)/\(sliceBounds lo hi none n).2.2 = 1:=by
 refine ⟨?_,?_,rfl⟩
 ·cases lo with
  | none=>simp [sliceBounds,HT.sIx]
  | some i =>
   simp only [sliceBounds,HT.sIx,Option.getD_none,show (1:Int) > 0 by decide,if_true]
   by_cases h:i < 0
   ·simp only [h,if_true]<;>omega
   ·simp only [h,if_false]<;>omega
 ·cases hi with
  | none=>simp [sliceBounds,HT.sIx]
  | some i =>
   simp only [sliceBounds,HT.sIx,Option.getD_none,show (1:Int) > 0 by decide,if_true]
   by_cases h:i < 0
   ·simp only [h,if_true]<;>omega
   ·simp only [h,if_false]<;>omega
theorem zJ (its:List Value) (lo hi:Option Int):slicePick its.toArray lo hi none = ((its.drop (HT.sIx its.length 0 lo)).take (HT.sIx its.length its.length hi - HT.sIx its.length 0 lo)).toArray:=by
 obtain ⟨h1,h2,h3⟩:=aBe lo hi its.toArray.size
 unfold slicePick
 rw [h1,h2,h3]
 simp only [sliceRange_one,pick_run,List.size_toArray]<;>rfl
noncomputable def aMe (K:PySem.W.Frag):V->Option Int->Option Int->Hp->VK->Prop:=fun x lo hi H Q=>∃ a xs,x = .ref a/\SqL K H a xs/\∀ p,H p = none->Q (.ref p) (upd H p (.lst (aBZ xs lo hi)))
theorem aGe:SlR X (aMe X.K):=by
 intro pins s σ H x v vl vu lo hi sl Q I rx hs pl pu h
 obtain ⟨a,xs,rfl,hx,q⟩:=h
 cases rx
 obtain ⟨its,r,ht,hz⟩:=I.list hx
 have hlen:=r.length
 refine ⟨"list",_,slot_list_getitem.lookup,ht.isList.typeIs,?_⟩
 refine wpAny_getItem_list_slice ht.isList hs pl pu .none (by simp) ?_ (by rw [List.size_toArray]<;>omega)
 rw [zJ,<- hlen]
 refine ⟨.ref s.heap.objs.size,_,I.laid (t':=s.toks) (o:=.lst (aBZ xs lo hi)) (fun b ob q=>Heap.get?_push_of_some _ q) (Nat.le_refl _) ?_,rfl,q _ (I.hok.fresh (Nat.le_refl _))⟩
 exact ⟨Nat.le_trans (vG xs lo hi) hz,_,0,(r.drop (HT.sIx xs.length 0 lo)).take (HT.sIx xs.length xs.length hi - HT.sIx xs.length 0 lo),Heap.get?_push_size _ rfl⟩
noncomputable def aEw:V->Bool
 | .non=>true
 | .bl _=>true
 | .int _=>true
 | .str _=>true
 | _=>false
noncomputable def eqV:V->V->Bool
 | .non,.non=>true
 | .bl a,.bl b=>a == b
 | .bl a,.int b=>(if a then 1 else 0) == b
 | .int a,.bl b=>a == (if b then 1 else 0)
 | .int a,.int b=>a == b
 | .str a,.str b=>a == b
 | _,_=>false
theorem aFJ {A:Around} {s:Shared} {y x:V} {u v:Value} (ry:cM y u) (rx:cM x v) (fy:aEw y = true) (fx:aEw x = true):SeqAt.EqAt A s u v (eqV y x):=by
 cases y with
 | non =>
  cases ry
  cases x with
  | non=>cases rx;exact SeqAt.EqAt.same _
  | bl b=>cases rx;exact SeqAt.EqAt.none_bool b
  | int b=>obtain ⟨t,rfl⟩:=rx;exact SeqAt.EqAt.none_int b t
  | str b=>obtain ⟨t,rfl⟩:=rx;exact SeqAt.EqAt.none_str b t
  | _=>exact absurd (show false = true from fx) Bool.false_ne_true
 | bl a =>
  cases ry
  cases x with
  | non=>cases rx;exact SeqAt.EqAt.bool_none a
  | bl b=>cases rx;exact SeqAt.EqAt.bool_bool a b
  | int b=>obtain ⟨t,rfl⟩:=rx;exact SeqAt.EqAt.bool_int a b t
  | str b=>obtain ⟨t,rfl⟩:=rx;exact SeqAt.EqAt.bool_str a b t
  | _=>exact absurd (show false = true from fx) Bool.false_ne_true
 | int a =>
  obtain ⟨t',rfl⟩:=ry
  cases x with
  | non=>cases rx;exact SeqAt.EqAt.int_none a t'
  | bl b=>cases rx;exact SeqAt.EqAt.int_bool a t' b
  | int b=>obtain ⟨t,rfl⟩:=rx;exact SeqAt.EqAt.int_int a t' b t
  | str b=>obtain ⟨t,rfl⟩:=rx;exact SeqAt.EqAt.int_str a t' b t
  | _=>exact absurd (show false = true from fx) Bool.false_ne_true
 | str a =>
  obtain ⟨t',rfl⟩:=ry
  cases x with
  | non=>cases rx;exact SeqAt.EqAt.str_none a t'
  | bl b=>cases rx;exact SeqAt.EqAt.str_bool a t' b
  | int b=>obtain ⟨t,rfl⟩:=rx;exact SeqAt.EqAt.str_int a t' b t
  | str b=>obtain ⟨t,rfl⟩:=rx;exact SeqAt.EqAt.str_str a t' b t
  | _=>exact absurd (show false = true from fx) Bool.false_ne_true
 | _=>exact absurd (show false = true from fy) Bool.false_ne_true
theorem aAJ:mK X (.builtin "len") (fun xs H Q=>∃ p ys,xs = [.ref p]/\(SqL X.K H p ys ∨ SqT X.K H p ys)/\Q (.int ys.length) H):=by
 intro pins s σ H xs us Q I r h
 obtain ⟨p,ys,rfl,hq,q⟩:=h
 obtain ⟨u,rfl,rx⟩:=yE r
 cases rx
 have hn:=aCi
 rcases hq with hq | hq
 ·obtain ⟨its,r',pl,hz⟩:=I.list hq
  have hlen:=r'.length
  exact Calls.call_len_list pl.isList (by simp only [List.size_toArray]<;>omega) ⟨.int ys.length,H,I.tok _,⟨s.toks + 1,by rw [List.size_toArray,hlen]⟩,q⟩
 ·obtain ⟨its,r',pl,hz⟩:=I.tuple hq
  have hlen:=r'.length
  exact len_tuple pl (by simp only [List.size_toArray]<;>omega) ⟨.int ys.length,H,I.tok _,⟨s.toks + 1,by rw [List.size_toArray,hlen]⟩,q⟩
theorem yW:mK X (.type "tuple") (fun xs H Q=>∃ p ys,xs = [.ref p]/\((SqL X.K H p ys/\∀ l,H l = none->Q (.ref l) (upd H l (.tup ys))) ∨ (SqT X.K H p ys/\Q (.ref p) H))):=by
 intro pins s σ H xs us Q I r h
 obtain ⟨p,ys,rfl,h⟩:=h
 obtain ⟨u,rfl,rx⟩:=yE r
 cases rx
 rcases h with ⟨hq,q⟩ | ⟨hq,q⟩
 ·obtain ⟨its,r',pl,hz⟩:=I.list hq
  have hlen:=r'.length
  refine call_tuple_list pl.isList (fun h' kp=>?_) (by simp only [List.size_toArray]<;>omega)
  have I1:Inv X pins σ H { s with heap:=h' }:=I.kept (t':=s.toks) kp
  have I2:Inv X pins σ (upd H h'.objs.size (.tup ys)) { s with heap:=h'.push { cls:=.type "tuple",data:=.seq its.toArray } } :=
   I1.laid (t':=s.toks) (fun b o e=>Heap.get?_push_of_some _ e) (Nat.le_refl _) (show fN X.prog X.w _ _ _ (.tup ys) from ⟨hz,its,r',IsTup.new _ _⟩)
  exact ⟨.ref h'.objs.size,_,I2,rfl,q _ (I1.hok.fresh (Nat.le_refl _))⟩
 ·obtain ⟨its,r',pl,hz⟩:=I.tuple hq
  exact call_tuple_same pl ⟨.ref p,H,I,rfl,q⟩
noncomputable def tyV (K:PySem.W.Frag) (T:String) (x:V) (H:Hp):Prop:=match x with
 | .str _=>T = "str"
 | .int _=>T = "int"
 | .ref p=>(T = "list"/\∃ xs,SqL K H p xs) ∨ (T = "tuple"/\∃ o,K.lookup p = some o/\o.cls = .type "tuple"/\o.dict = none) ∨
   (T = "dict"/\((∃ kvs,H p = some (.dK kvs)) ∨ ∃ kvs,H p = some (.dT kvs))) ∨ (T = "set"/\∃ S n,H p = some (.set S n))
 | _=>False
theorem aFX {pins:List (Addr × Obj)} {σ:St} {H:Hp} {s:Shared} {T:String} {x:V} {v:Value} (I:Inv X pins σ H s) (r:cM x v) (ty:tyV X.K T x H) :
  s.TypeIs v T/\∀ a,v = .ref a->∃ ob,s.heap.get? a = some ob/\ob.dict = none:=by
 cases x with
 | str z =>
  obtain ⟨t,rfl⟩:=r
  cases (show T = "str" from ty)
  exact ⟨typeIs_str s z t,fun _ e=>nomatch e⟩
 | int i =>
  obtain ⟨t,rfl⟩:=r
  cases (show T = "int" from ty)
  exact ⟨typeIs_int s i t,fun _ e=>nomatch e⟩
 | ref p =>
  cases r
  rcases ty with ⟨rfl,xs,hq⟩ | ⟨rfl,o,hk,hc,hd⟩ | ⟨rfl,hk⟩ | ⟨rfl,S,n,hk⟩
  ·obtain ⟨its,_,pl,_⟩:=I.list hq
   refine ⟨pl.isList.typeIs,fun a e=>?_⟩
   cases e
   obtain ⟨o,n,e,c,hd,_⟩:=pl
   exact ⟨o,e,hd⟩
  ·refine ⟨⟨o,I.kIn p o hk,hc⟩,fun a e=>?_⟩
   cases e
   exact ⟨o,I.kIn _ o hk,hd⟩
  ·have z:∃ o,s.heap.get? p = some o/\o.ExactDict:=by
    rcases hk with ⟨kvs,hk⟩ | ⟨kvs,hk⟩
    ·obtain ⟨_,_,_,_,o,_,_,e,ex,_⟩:=I.hok p _ hk
     exact ⟨o,e,ex⟩
    ·obtain ⟨_,_,_,_,o,_,_,e,ex,_⟩:=I.hok p _ hk
     exact ⟨o,e,ex⟩
   obtain ⟨o,e,ex⟩:=z
   refine ⟨⟨o,e,ex.1⟩,fun a e2=>?_⟩
   cases e2
   exact ⟨o,e,ex.2.1⟩
  ·obtain ⟨o,_,_,_,e,ex,_⟩:=I.hok p _ hk
   refine ⟨⟨o,e,ex.1⟩,fun a e2=>?_⟩
   cases e2
   exact ⟨o,e,ex.2.1⟩
 | _=>exact False.elim ty
noncomputable def aL9 (K:PySem.W.Frag) (T:String) (r:V->List V->Hp->VK->Prop) (to:TE):TE:=fun σ H Q=>to σ H fun x H1=>tyV K T x H1/\r x [] H1 Q
noncomputable def tBM (K:PySem.W.Frag) (T:String) (r:V->List V->Hp->VK->Prop) (to:TE) (t:TA):TE:=fun σ H Q=>to σ H fun x H1=>tyV K T x H1/\t σ H1 fun xs H2=>r x xs H2 Q
variable {o e:Expr} {es:List Expr} {to:TE} {t:TA} {name:Str} {apos cpos:Pos} {T id:String} {r:V->List V->Hp->VK->Prop}
theorem aJp (pa:PlainAttrs T) (slot:Slot T name id) (hty:typeOf (.builtin id) = pure (.type "method_descriptor")) (hm:MtR X id r) (ho:PE X o to)
  (hbase:attributeBase o name X.env (eval o X.env) = eval o X.env:=by rfl) (hline:(apos.endLine == cpos.line) = true:=by rfl):PE X (.Call (.Attribute o name apos) [] [] cpos) (aL9 X.K T r to):=by
 intro pins s σ H Q I h
 refine wpAny_Call_method0_late hbase hline (thn (ho pins s σ H _ I h) fun v s1 ⟨x,H1,I1,r1,ty,q1⟩=>?_)
 obtain ⟨h1,h2⟩:=aFX I1 r1 ty
 exact ⟨T,id,pa,slot,hty,h1,h2,Calls.callWith_builtin rfl (PySem.evalArgs_none (hm pins s1 σ H1 x [] v [] Q I1 r1 .nil q1))⟩
theorem aL3 (pa:PlainAttrs T) (slot:Slot T name id) (hty:typeOf (.builtin id) = pure (.type "method_descriptor")) (hm:MtR X id r) (ho:PE X o to) (ha:PA X (e :: es) t)
  (hbase:attributeBase o name X.env (eval o X.env) = eval o X.env:=by rfl)
  (hfew:((backTo cpos (starEach (e :: es) X.env)).all (fun x=>!x.1) && (backToKw cpos (keywordEach [] X.env)).all (fun x=>x.1.isSome)
   && decide ((e :: es).length + ([]:List Keyword).length + (if ([]:List Keyword).isEmpty then 0 else 1) < 30)) = true:=by rfl)
  (hline:(apos.endLine == cpos.line) = true:=by rfl) (hs:starEach (e :: es) X.env = (false,eval e X.env) :: starEach es X.env:=by rfl) (hplain:(backTo cpos (starEach es X.env)).any (·.1) = false:=by rfl) :
  PE X (.Call (.Attribute o name apos) (e :: es) [] cpos) (tBM X.K T r to t):=by
 intro pins s σ H Q I h
 refine wpAny_Call_method_late hbase hfew hline rfl (thn (ho pins s σ H _ I h) fun v s1 ⟨x,H1,I1,r1,ty,q1⟩=>?_)
 obtain ⟨h1,h2⟩:=aFX I1 r1 ty
 refine ⟨T,id,pa,slot,hty,h1,h2,?_⟩
 have hA:=ha cpos pins s1 σ H1 _ I1 q1
 rw [hs] at hA ⊢
 refine Calls.callWith_builtin (by show (false || (backTo cpos (starEach es X.env)).any (·.1)) = false;rw [hplain]<;>rfl) (Calls.evalArgs_plain ?_)
 exact thn hA fun us s2 ⟨vs,H2,I2,r2,q2⟩=>hm pins s2 σ H2 x vs v us Q I2 r1 r2 q2
end
end L2
namespace L2
open PySem PySem.Spec PyProof.Rows
noncomputable def MtM (X:Cx) (id:String) (r:V->List V->Hp->VK->Prop):Prop :=
 ∀ (pins:List (Addr × Obj)) (s:Shared) (σ:St) (H:Hp) (x:V) (xs:List V) (v:Value) (us:List Value) (Q:VK),Inv X pins σ H s->cM x v->cD xs us->r x xs H Q ->
  wpAny (model X.prog X.w) X.A (call (.builtin id) (v :: us)) (EP X pins σ Q) X.xe s
theorem cD.one:∀ {x:V} {us:List Value},cD [x] us->∃ u,us = [u]/\cM x u
 | _,_,.cons r .nil=>⟨_,rfl,r⟩
theorem cD.two:∀ {x y:V} {us:List Value},cD [x,y] us->∃ u v,us = [u,v]/\cM x u/\cM y v
 | _,_,_,.cons r (.cons q .nil)=>⟨_,_,rfl,r,q⟩
theorem cD.zero:∀ {us:List Value},cD [] us->us = []
 | _,.nil=>rfl
theorem cD.dropLast {xs:List V} {us:List Value} (h:cD xs us):cD xs.dropLast us.dropLast:=by
 induction h with
 | nil=>exact .nil
 | cons r t ih =>
  cases t with
  | nil=>exact .nil
  | cons q t'=>exact .cons r ih
theorem aCo {α:Type} (l:List α):l.eraseIdx (l.length - 1) = l.dropLast:=by
 induction l with
 | nil=>rfl
 | cons a r ih =>
  cases r with
  | nil=>rfl
  | cons b r =>
   have e:(a :: b :: r).length - 1 = ((b :: r).length - 1) + 1:=by
    have h1:(a :: b :: r).length = r.length + 2:=rfl
    have h2:(b :: r).length = r.length + 1:=rfl
    omega
   rw [e,List.eraseIdx_cons_succ,ih]
   all_goals rfl
section
variable {X:Cx} {pins:List (Addr × Obj)} {σ:St} {H:Hp} {s:Shared} {l b:Addr} {xs ys zs:List V}
theorem Inv.lset {its its':List Value} {n:Nat} {f:Array Value->Array Value} {t':Nat} (I:Inv X pins σ H s) (hH:H l = some (.lst xs))
  (e:s.heap.get? l = some { cls:=.type "list",data:=.seq its.toArray n }) (hf:f its.toArray = its'.toArray) (hv:cD ys its') (hz:ys.length<=sizeLine) :
  Inv X pins σ (upd H l (.lst ys)) { s with heap:=s.heap.update l (Obj.mapSeq f),toks:=t' }:=by
 have q:=PySem.IsL.update e f
 rw [hf] at q
 refine I.write (x:=l) (e:=l) (by rw [hH];exact trivial) (.inl rfl) (fun b' u hb hu=>(Heap.get?_update_other s.heap (Obj.mapSeq f) (Ne.symm hb)).trans hu) ⟨_,q⟩ ?_
 exact ⟨hz,its',_,hv,q⟩
theorem Inv.lnew {its:List Value} {t':Nat} (I:Inv X pins σ H s) (hv:cD ys its) (hz:ys.length<=sizeLine) :
  Inv X pins σ (upd H s.heap.objs.size (.lst ys)) { s with heap:=s.heap.push { cls:=.type "list",data:=.seq its.toArray },toks:=t' } :=
 I.laid (fun _ _ q=>Heap.get?_push_of_some _ q) (Nat.le_refl _) ⟨hz,its,0,hv,Heap.get?_push_size _ rfl⟩
theorem Inv.fresh (I:Inv X pins σ H s):H s.heap.objs.size = none:=I.hok.fresh (Nat.le_refl _)
theorem Inv.lstM (I:Inv X pins σ H s) (hH:H l = some (.lst xs)):xs.length<=sizeLine/\∃ (its:List Value) (n:Nat),cD xs its/\xs.length = its.length/\s.heap.get? l = some { cls:=.type "list",data:=.seq its.toArray n }:=by
 obtain ⟨z,its,n,r,e⟩:=I.hok l _ hH
 exact ⟨z,its,n,r,r.length,e⟩
end
section
variable {X:Cx}
noncomputable def aHn:V->List V->Hp->VK->Prop:=fun x vs H Q=>∃ l xs y,x = .ref l/\vs = [y]/\H l = some (.lst xs)/\xs.length < sizeLine/\Q .non (upd H l (.lst (xs ++ [y])))
theorem aDA:MtM X "list.append" aHn:=by
 intro pins s σ H x vs v us Q I rx rv h
 obtain ⟨l,xs,y,rfl,rfl,hH,hz,q⟩:=h
 cases rx
 obtain ⟨u,rfl,ru⟩:=rv.one
 obtain ⟨z,its,n,r,hl,e⟩:=I.lstM hH
 refine call_meets F.slot_list_append ⟨_,e,rfl⟩ F.entry_list_append (F.args_list_append_2 _ _) (PySem.list_append l its.toArray n u (by rw [List.size_toArray];omega)) ⟨e,?_⟩
 refine ⟨.non,_,I.lset (its':=its ++ [u]) hH e (by simp) (r.append (.cons ru .nil)) ?_,rfl,q⟩
 rw [List.length_append,List.length_singleton]
 omega
noncomputable def aMD:V->List V->Hp->VK->Prop:=fun x vs H Q=>∃ l xs y,x = .ref l/\vs = []/\H l = some (.lst xs)/\xs[xs.length - 1]? = some y/\Q y (upd H l (.lst xs.dropLast))
theorem aJ1:MtM X "list.pop" aMD:=by
 intro pins s σ H x vs v us Q I rx rv h
 obtain ⟨l,xs,y,rfl,rfl,hH,hy,q⟩:=h
 cases rx
 have hus:=rv.zero
 subst hus
 obtain ⟨z,its,n,r,hl,e⟩:=I.lstM hH
 obtain ⟨u,hu,ru⟩:=r.get hy
 have hy':its.toArray[its.toArray.size - 1]? = some u:=by
  show its.toArray[its.length - 1]? = some u
  rw [<- Array.getElem?_toList,<- hl]
  exact hu
 refine call_meets F.slot_list_pop ⟨_,e,rfl⟩ F.entry_list_pop (F.args_list_pop_1 _) (MeetsSeq.list_pop_last l its.toArray n u hy' (by rw [List.size_toArray];omega)) ⟨e,?_⟩
 refine ⟨y,_,I.lset (its':=its.dropLast) hH e ?_ r.dropLast ?_,ru,q⟩
 ·show its.toArray.eraseIdxIfInBounds (its.toArray.size - 1) = its.dropLast.toArray
  rw [List.size_toArray,List.eraseIdxIfInBounds_toArray,aCo]
 ·rw [List.length_dropLast]
  omega
noncomputable def aMB:R2:=fun x y H Q=>∃ l b xs zs,x = .ref l/\y = .ref b/\H l = some (.lst xs)/\H b = some (.lst zs)/\xs.length + zs.length<=sizeLine/\∀ p,H p = none->Q (.ref p) (upd H p (.lst (xs ++ zs)))
theorem aKl:OpR X (binaryOp .Add) aMB:=by
 intro pins s σ H x y v u Q I rx ry h
 obtain ⟨l,b,xs,zs,rfl,rfl,hH,hB,hz,q⟩:=h
 cases rx
 cases ry
 obtain ⟨z,its,n,r,hl,e⟩:=I.lstM hH
 obtain ⟨z2,its2,n2,r2,hl2,e2⟩:=I.lstM hB
 refine PySem.P.add_list e e2 ?_ (by rw [List.size_toArray,List.size_toArray];omega)
 have ea:its.toArray ++ its2.toArray = (its ++ its2).toArray:=by simp
 rw [ea]
 exact ⟨.ref _,_,I.lnew (t':=s.toks) (r.append r2) (by rw [List.length_append];omega),rfl,q _ I.fresh⟩
theorem len_rep {α:Type} (xs:List α) (k:Nat):(List.replicate k xs).flatten.length = k * xs.length:=by
 induction k with
 | zero=>simp
 | succ k ih=>rw [List.replicate_succ,List.flatten_cons,List.length_append,ih,Nat.succ_mul,Nat.add_comm]
end
section
variable {prog:Program} {w:World} {A:Around} {E:Value->Shared->Prop} {s:Shared}
end
section
variable {X:Cx}
end
end L2
namespace Att
open PySem PySem.W PySem.Calls PyProof.Rows
theorem vR {P:Params} {h:Heap}:∀ (ns:List Int) (vs:List Value),WellAll P h vs (ns.map WData.int)->IntsAre vs ns:=by
 intro ns
 induction ns with
 | nil =>
  intro vs w
  rw [List.map_nil] at w
  cases w
  exact .nil
 | cons n ns ih =>
  intro vs w
  rw [List.map_cons] at w
  cases w with
  | cons a b =>
   cases a
   exact .cons _ _ (ih _ b)
theorem aDM {l:OpenLaw} {n:Nat} (hn:l.most = some n) {P:Params} {h:Heap} {args:List WData} {vals:List Value}
  (hpre:l.row.toRowW.claim.pre args = true) (hwl:WellAll P h vals args) :
  ∃ a vs ns,vals = [Value.ref a]/\args = [WData.list (ns.map WData.int)]/\h.get? a = some { cls:=.type "list",data:=.seq vs.toArray }/\IntsAre vs ns/\ns.length<=n:=by
 have hsh:WShape.hasAll [] args [.list .int] = true:=(pre_splitW hpre).1
 have hc:l.pre.holds [] { args:=args } = true:=(pre_splitW hpre).2
 obtain ⟨d,r,rfl,h1,h2⟩:=hasAllW_cons hsh
 obtain rfl:=hasAllW_nil h2
 obtain ⟨xs,rfl,h3⟩:=hasW_list h1
 obtain ⟨ns,rfl⟩:=items_int h3
 have hlen:ns.length<=n:=by
  unfold OpenLaw.pre at hc
  have h4:(WTm.not (.lt (.lit (.int (n:Int))) (.len (.arg 0)))).holds [] { args:=[.list (ns.map .int)] } = true:=by
   have h4:=(holds_andW hc).1
   rw [hn] at h4
   exact h4
  have h5:=condW_of h4 (w_not (w_lt w_lit (w_len_list (w_arg rfl))))
  rw [List.length_map] at h5
  refine Nat.le_of_not_lt fun q=>?_
  have q':(n:Int) < ((ns.length:Nat):Int):=by omega
  first
   | (rw [decide_eq_true q'] at h5;exact absurd h5 (by decide))
   | (simp at h5;omega)
 cases hwl with
 | cons w1 w2 =>
  cases w2
  cases w1 with
  | list ho hall=>exact ⟨_,_,ns,rfl,rfl,ho,vR ns _ hall,hlen⟩
theorem aDN (l:OpenLaw) (args:List WData):l.row.toRowW.claim.post args (.bool true) args = true :=
 postW_of (r:=l.row.toRowW) (X:=(true == true))
  (show WShape.has [] (.bool true) .bool = true by first | rfl | decide | simp [WShape.has,WShape.arms,WShape.armsAll])
  (show (WTm.eq .res (.lit (.bool true))).value [] { args:=args,res:=some (.bool true),after:=args } = some (.bool (true == true)) from w_eq_bool (w_res rfl) w_lit) rfl
theorem attach_call {l:OpenLaw} {n:Nat} {q:Program} {loose:List Str} {XP:(Str->Option Value)->Heap->Prop} {YP:World->Heap->Prop} {d:DefRec}
  (hn:l.most = some n) (hdf:d.params.defaults = [])
  (call:∀ (w:World) (s₀ s₁:Shared) (mg mb:Str->Option Value) (fa:Addr) (o:Obj) (pm cd doc:Value) (a:Addr) (vs:List Value) (ns:List Int),
   Ground q loose [] XP w s₀ mg mb s₁.heap->YP w s₁.heap ->
   s₁.heap.get? fa = some o->o.data = .func (docDef d.name d.params d.body d.scope pm cd doc)->s₁.heap.CodeRec cd d.name->mg d.name = some (.ref fa) ->
   s₁.heap.get? a = some { cls:=.type "list",data:=.seq vs.toArray }->IntsAre vs ns->ns.length<=n->s₁.gens = #[] ->
   codeAny (model l.prog w) callerA (.call (.ref fa) ⟨[.ref a],[]⟩) (fun r s'=>r = .ok (.ret (.bool true))/\OldK s₁.heap s'.heap/\s'.os = s₁.os/\AllBare s'.gens) s₁) :
  WalkO q loose XP YP l.row.toRowW d [] (fun f vs=>PySem.call f vs):=by
 intro w s₀ s₁ mg mb G Y fa o pm cd doc dV kV ho hd hcd hD hmg hg args vals as hpre hlay hrd hwl hlo
 obtain rfl:dV = .none:=Dflts.none hD hdf
 obtain rfl:kV = .none:=Dflts.noKw hD
 obtain ⟨a,vs,ns,rfl,rfl,hobj,hints,hlen⟩:=aDM hn hpre hwl
 refine enter_call (codeAny_mono (call w s₀ s₁ mg mb fa o pm cd doc a vs ns G Y ho (fd_plain hd) hcd hmg hobj hints hlen hg) fun r s' hq=>?_)
 obtain ⟨rfl,h2,h3,h4⟩:=hq
 exact ⟨.inl ⟨.bool true,.bool true,[],rfl,fun _=>rfl,.bool true,aDN l _,fun _=>⟨List.Pairwise.nil,fun _ hm=>(nomatch hm)⟩⟩,h2,h3,h4⟩
section
variable {prog:Program} {w:World} {A:Around} {E:Value->Shared->Prop} {s:Shared} {K:Frag}
end
end Att
namespace L2
open PySem PySem.Spec PyProof.Rows
theorem uV:∀ {vs:List Value} {ns:List Int},IntsAre vs ns->cD (ns.map V.int) vs
 | _,_,.nil=>.nil
 | _,_,.cons n t h=>.cons ⟨t,rfl⟩ (uV h)
noncomputable def aKp (H:Hp):Prop:=∀ b,H b = none ∨ ∃ o xs,H b = some (.frz o (.lst xs))
theorem aEN {P:Program} {w:World} {K:PySem.W.Frag} {mg mb:Str->Option Value} {CX:CXT} {k:Nat} {fa a:Addr} {fd:FuncData} {x:Str} {sp:Sp} {s₁:Shared} {vs:List Value} {ns:List Int}
  (KX:K.In s₁.heap) (hns:s₁.heap.Ns mainGlobals mg) (hb:s₁.heap.Ns builtinsNs mb) (hbb:∀ x:Str,x ≠ "__name__"->mb x = bootBuiltins x) (hlim:s₁.heap.NoLimit) (hg:s₁.gens = #[])
  (ha:s₁.heap.get? a = some { cls:=.type "list",data:=.seq vs.toArray }) (hi:IntsAre vs ns) (hl:ns.length<=sizeLine) (hr:eF k callerA)
  (F:∀ base:Heap,K.In base->base.Ns mainGlobals mg->jK P w K mg base CX k fa fd [x] sp) (hbind:∀ (s:Shared) (u:Value),BindsTo s fd ⟨[u],[]⟩ [(x,u)])
  (hsp:∀ H:Hp,aKp H->SqL K H a (ns.map V.int)->sp [.ref a] H (fun v _=>v = .bl true) fun _ _ _=>False)
  (hCX:∀ H e s',CX [] H s₁ (fun _ _ _=>False) e s'->False) :
  codeAny (model P w) callerA (.call (.ref fa) ⟨[.ref a],[]⟩) (fun r s'=>r = .ok (.ret (.bool true))/\OldK s₁.heap s'.heap/\s'.os = s₁.os/\AllBare s'.gens) s₁:=by
 have rv:=uV hi
 have lenV:=hi.length
 have core:∀ H:Hp,aKp H->SqL K H a (ns.map V.int)->HOk P w H s₁.heap->(∀ b,H b ≠ none->b = a)->(H a ≠ none->K.lookup a = none) ->
   codeAny (model P w) callerA (.call (.ref fa) ⟨[.ref a],[]⟩) (fun r s'=>r = .ok (.ret (.bool true))/\OldK s₁.heap s'.heap/\s'.os = s₁.os/\AllBare s'.gens) s₁:=by
  intro H hO hS hok hA hK
  have base_of:∀ {b:Addr} {o:Obj},s₁.heap.get? b = some o->H b = none->(aA2 s₁.heap H).get? b = some o:=fun e n=>aFw e n
  have noA:∀ {b:Addr} {o:Obj} {es:Array DictEntry} {ep:Nat},s₁.heap.get? b = some o->o.data = .dict es ep->H b = none:=fun {b o es ep} e d=>by
   cases q:H b with
   | none=>rfl
   | some u =>
    have e':b = a:=hA b (by rw [q];simp)
    subst e'
    rw [ha] at e;cases e
    have d':Data.seq vs.toArray _ = Data.dict es ep:=d
    cases d'
  have nsK:∀ {b:Addr} {m:Str->Option Value},s₁.heap.Ns b m->(aA2 s₁.heap H).Ns b m:=fun {b m} ⟨o,es,ep,e,d,r⟩=>⟨o,es,ep,base_of e (noA e d),d,r⟩
  have hKb:K.In (aA2 s₁.heap H):=fun b o e=>base_of (KX b o e) (by
   cases q:H b with
   | none=>rfl
   | some u =>
    have e':b = a:=hA b (by rw [q];simp)
    subst e'
    rw [hK (by rw [q];simp)] at e;cases e)
  have hM:Mod K mg (aA2 s₁.heap H):=⟨hKb,nsK hns,⟨mb,nsK hb,hbb⟩,let ⟨mc,h1,h2⟩:=hlim;⟨mc,nsK h1,h2⟩⟩
  have e0:aCH P w K mg (aA2 s₁.heap H) callerA [] s₁ H:=⟨rfl,hM,fun b o e=>aGA e,Nat.le_of_eq (aDZ _ _),trivial,fun b hb=>absurd (show b ∈ ([]:List Addr) from hb) (by simp),hok,.of_eq hg⟩
  refine codeAny_mono ((F _ hKb (nsK hns)).run callerA [] s₁ H ⟨[.ref a],[]⟩ [.ref a] [.ref a] _ _ hr e0 (hbind s₁ (.ref a)) (.cons rfl .nil) (hsp H hO hS)) fun r s' h=>?_
  cases r with
  | error e=>exact (hCX H e s' h).elim
  | ok fl =>
   cases fl with
   | next=>exact False.elim h
   | brk=>exact False.elim h
   | cont=>exact False.elim h
   | ret u =>
    obtain ⟨v,H',os,bare,un,hok',r',q⟩:=h
    have q':v = .bl true:=q
    subst q'
    obtain rfl:u = Value.bool true:=r'
    refine ⟨rfl,OldK.of_keep fun b o e=>?_,os,bare⟩
    cases q:H b with
    | none=>exact un.keep b o e q (by intro z;exact absurd (show b ∈ ([]:List Addr) from z) (by simp)) (by simp)
    | some u =>
     rcases hO b with z | ⟨ob,xs,z⟩
     ·rw [q] at z;cases z
     ·have z2:=un.frzs b ob _ z
      obtain ⟨e1,_⟩:=hok b _ z
      obtain ⟨e2,_⟩:=hok' b _ z2
      rw [e] at e1;cases e1
      exact e2
 cases hk:K.lookup a with
 | some o =>
  have e:=KX a o hk
  rw [ha] at e
  cases e
  refine core (fun _=>none) (fun _=>.inl rfl) (.inr ⟨_,vs.toArray,_,hk,rfl,rfl,rfl,by rw [List.size_toArray,lenV];exact hl,by simpa using rv⟩) (fun b u z=>by have z':(none:Option HO) = some u:=z;cases z') (fun b z=>absurd rfl z) fun z=>absurd rfl z
 | none =>
  refine core (fun b=>if b = a then some (.frz { cls:=.type "list",data:=.seq vs.toArray } (.lst (ns.map V.int))) else none) (fun b=>?_) (.inl (.inr ⟨{ cls:=.type "list",data:=.seq vs.toArray },if_pos rfl⟩)) (fun b u z=>?_) (fun b z=>?_) fun _=>hk
  ·by_cases hb:b = a
   ·exact .inr ⟨_,_,if_pos hb⟩
   ·exact .inl (if_neg hb)
  ·by_cases hb:b = a
   ·have z':=(if_pos hb).symm.trans z
    cases z'
    subst hb
    exact ⟨ha,by rw [List.length_map];exact hl,vs,_,rv,ha⟩
   ·have z':=(if_neg hb).symm.trans z
    cases z'
  ·by_cases hb:b = a
   ·exact hb
   ·exact absurd (if_neg hb) z
end L2
namespace L2
open PySem PySem.Spec PyProof.Rows
end L2
namespace L2
open PySem PySem.Spec PyProof.Rows
noncomputable def nE (s:Stmt):Arguments:=match s with
 | .FunctionDef _ a _ _ _ _ _ _ _ _=>a
 | _=>{ posonlyargs:=[],args:=[],vararg:=none,kwonlyargs:=[],kw_defaults:=[],kwarg:=none,defaults:=[] }
noncomputable def eR (s:Stmt):List Stmt:=match s with
 | .FunctionDef _ _ b _ _ _ _ _ _ _=>b
 | _=>[]
noncomputable def aI (s:Stmt):Scope:=match s with
 | .FunctionDef _ _ _ _ _ _ sc _ _ _=>sc
 | _=>{ kind:=.function,names:=[],isGenerator:=false,isCoroutine:=false }
noncomputable abbrev CX0:CXT:=fun _ _ _ _ _ _=>False
noncomputable abbrev E0:XK:=fun _ _ _=>False
theorem aFI {X:Cx}:uW CX0 X E0:=fun _ _ _ _ _ _ _ h=>h.elim
structure Fun (K:PySem.W.Frag) (x qual:Str) (st:Stmt) (f:Addr) (fd:FuncData):Prop where
 ex:∃ (oc:Value) (od:Option Addr) (kV doc pm:Value) (an:Option Addr) (cdv ct:Value) (osl:Array (Option Value)),
  fd = PySem.W.fnOf x qual (nE st) (eR st) (aI st) .none kV doc pm an cdv ct/\K.lookup f = some ⟨oc,od,.func fd,osl⟩/\PySem.W.codeIn K cdv qual = true
 kp:PySem.W.keepIn K (.ref f) = true
section
variable {P:Program} {w:World} {K:PySem.W.Frag} {mg:Str->Option Value} {base:Heap}
theorem Fun.ok {x qual:Str} {st:Stmt} {f:Addr} {fd:FuncData} {N ps:List Str} {k:Nat} {sp:Sp} (F:Fun K x qual st f fd) (S:aR N ps (aI st)) (len:∀ vs H Q E,sp vs H Q E->vs.length = ps.length)
  (hbody:∀ (cdv:Value) (A:Around) (outer:List Env) (s:Shared) (H:Hp) (vs:List V) (Q:VK) (E:XK),eF k (A.deeper (envOfC qual (aI st) s.heap.objs.size f cdv))->sp vs H Q E ->
   ∃ t,PSs (jV CX0 P w K mg base N qual (aI st) f cdv A outer s H E).nox (eR st) t/\t { nx:=fun _ H'=>Q .non H',rt:=Q } (start N vs) H):jK P w K mg base CX0 (k + 1) f fd ps sp:=by
 obtain ⟨oc,od,kV,doc,pm,an,cdv,ct,osl,rfl,lk,hcd⟩:=F.ex
 refine aED lk hcd S len fun A outer s H vs Q E hr hsp=>?_
 obtain ⟨t,h,q⟩:=hbody cdv A outer s H vs Q E hr hsp
 exact ⟨t,h.nox,q⟩
theorem Fun.binds {x qual:Str} {st:Stmt} {f:Addr} {fd:FuncData} {ps:List Str} (F:Fun K x qual st f fd)
  (h:∀ (kV doc pm:Value) (an:Option Addr) (cdv ct:Value) (us:List Value),us.length = ps.length->bindArgs (PySem.W.fnOf x qual (nE st) (eR st) (aI st) .none kV doc pm an cdv ct) ⟨us,[]⟩ = pure (ps.zip us)):mF K fd ps []:=by
 obtain ⟨oc,od,kV,doc,pm,an,cdv,ct,osl,rfl,lk,hcd⟩:=F.ex
 exact .all (h kV doc pm an cdv ct)
theorem fun_mk {x qual:Str} {st:Stmt} {f:Addr} {oc:Value} {od an:Option Addr} {osl:Array (Option Value)} {kV doc pm cdv ct:Value} (l:K.lookup f = some ⟨oc,od,.func (PySem.W.fnOf x qual (nE st) (eR st) (aI st) .none kV doc pm an cdv ct),osl⟩)
  (c:PySem.W.codeIn K cdv qual = true) (k:PySem.W.keepIn K (.ref f) = true):Fun K x qual st f (PySem.W.fnOf x qual (nE st) (eR st) (aI st) .none kV doc pm an cdv ct):=⟨⟨oc,od,kV,doc,pm,an,cdv,ct,osl,rfl,l,c⟩,k⟩
end
theorem fK {n:Nat} (h:n<=1000):n < sizeLine:=Nat.lt_of_le_of_lt h (by decide)
section
variable {X:Cx}
theorem pv (i:Nat) {x:Str} {pos:Pos} (hN:X.N[i]? = some x:=by rfl) (hv:Vis X.env.scope x:=by first | exact Or.inl rfl | exact Or.inr (Or.inl rfl) | exact Or.inr (Or.inr rfl)) (hd:(x == ("__debug__":Str)) = false:=by decide)
  (hcd:(x == ("__classdict__":Str)) = false:=by decide):PE X (.Name x pos) (aLf i):=xF hN hv hd hcd
end
noncomputable def aDH (H H':Hp):Prop:=∀ b o,H b = some o->H' b = some o
theorem aDH.trans {H H1 H2:Hp} (a:aDH H H1) (b:aDH H1 H2):aDH H H2:=fun c o h=>b c o (a c o h)
theorem aDH.seq {K:PySem.W.Frag} {H H':Hp} {a:Addr} {xs:List V} (e:aDH H H') (h:SqL K H a xs):SqL K H' a xs:=by
 rcases h with (h | ⟨o,h⟩) | h
 ·exact .inl (.inl (e _ _ h))
 ·exact .inl (.inr ⟨o,e _ _ h⟩)
 ·exact .inr h
end L2
set_option maxHeartbeats 4000000
namespace Dd
open PySem PySem.Spec PyProof.Rows L2
inductive D where
 | non | bl (b:Bool) | int (i:Int) | str (x:Str) | tup (xs:List D) | fz (xs:List D) | ref (a:Addr)
noncomputable def SqX (K:PySem.W.Frag) (H:Hp) (a:Addr) (xs:List V):Prop :=
 (∃ o,H a = some (.frz o (.lst xs))) ∨
 ∃ (its:Array Value) (n:Nat),K.lookup a = some { cls:=.type "list",data:=.seq its n }/\its.size<=sizeLine/\cD xs its.toList
theorem SqX.sq {K:PySem.W.Frag} {H:Hp} {a:Addr} {xs:List V} (h:SqX K H a xs):SqL K H a xs:=by
 rcases h with ⟨o,h⟩ | ⟨its,n,h,z,r⟩
 ·exact .inl (.inr ⟨o,h⟩)
 ·exact .inr ⟨_,its,n,h,rfl,rfl,rfl,z,r⟩
mutual
noncomputable def Rep (K:PySem.W.Frag) (H:Hp):D->V->Prop
 | .non,v=>v = .non
 | .bl b,v=>v = .bl b
 | .int i,v=>v = .int i
 | .str x,v=>v = .str x
 | .ref a,v=>v = .ref a
 | .tup ds,v=>∃ a xs,v = .ref a/\SqT K H a xs/\bR K H ds xs
 | .fz ds,v=>∃ a xs,v = .ref a/\SqX K H a xs/\bR K H ds xs
noncomputable def bR (K:PySem.W.Frag) (H:Hp):List D->List V->Prop
 | [],vs=>vs = []
 | d :: ds,vs=>∃ v r,vs = v :: r/\Rep K H d v/\bR K H ds r
end
structure Ext (H H':Hp):Prop where
 tup:∀ a xs,H a = some (.tup xs)->H' a = some (.tup xs)
 frz:∀ a o u,H a = some (.frz o u)->H' a = some (.frz o u)
theorem Ext.refl (H:Hp):Ext H H:=⟨fun _ _ h=>h,fun _ _ _ h=>h⟩
theorem Ext.trans {H H1 H2:Hp} (a:Ext H H1) (b:Ext H1 H2):Ext H H2:=⟨fun c xs h=>b.tup c xs (a.tup c xs h),fun c o u h=>b.frz c o u (a.frz c o u h)⟩
theorem Ext.new {H:Hp} {p:Addr} (h:H p = none) (o:HO):Ext H (upd H p o) :=
 ⟨fun a xs e=>by rw [bO (cG e h)];exact e,fun a ob u e=>by rw [bO (cG e h)];exact e⟩
theorem Ext.put {H:Hp} {p:Addr} {xs:List V} (h:H p = some (.lst xs)) (o:HO):Ext H (upd H p o) :=
 ⟨fun a ys e=>by rw [bO (yM e h (by intro z;cases z))];exact e,fun a ob u e=>by rw [bO (yM e h (by intro z;cases z))];exact e⟩
section
variable {K:PySem.W.Frag} {H H':Hp}
theorem mQ (e:Ext H H') {a:Addr} {xs:List V} (h:SqT K H a xs):SqT K H' a xs:=by
 rcases h with (h | ⟨o,h⟩) | h
 ·exact .inl (.inl (e.tup _ _ h))
 ·exact .inl (.inr ⟨o,e.frz _ _ _ h⟩)
 ·exact .inr h
theorem nN (e:Ext H H') {a:Addr} {xs:List V} (h:SqX K H a xs):SqX K H' a xs:=by
 rcases h with ⟨o,h⟩ | h
 ·exact .inl ⟨o,e.frz _ _ _ h⟩
 ·exact .inr h
mutual
theorem Rep.ext (e:Ext H H'):∀ {d:D} {v:V},Rep K H d v->Rep K H' d v
 | .non,_,h=>by unfold Rep at h ⊢;exact h
 | .bl _,_,h=>by unfold Rep at h ⊢;exact h
 | .int _,_,h=>by unfold Rep at h ⊢;exact h
 | .str _,_,h=>by unfold Rep at h ⊢;exact h
 | .ref _,_,h=>by unfold Rep at h ⊢;exact h
 | .tup ds,_,h=>by
  unfold Rep at h ⊢
  obtain ⟨a,xs,e1,sq,r⟩:=h
  exact ⟨a,xs,e1,mQ e sq,bR.ext e r⟩
 | .fz ds,_,h=>by
  unfold Rep at h ⊢
  obtain ⟨a,xs,e1,sq,r⟩:=h
  exact ⟨a,xs,e1,nN e sq,bR.ext e r⟩
theorem bR.ext (e:Ext H H'):∀ {ds:List D} {vs:List V},bR K H ds vs->bR K H' ds vs
 | [],_,h=>by unfold bR at h ⊢;exact h
 | d :: ds,_,h=>by
  unfold bR at h ⊢
  obtain ⟨v,r,e1,hv,hr⟩:=h
  exact ⟨v,r,e1,Rep.ext e hv,bR.ext e hr⟩
end
theorem bL {i:Int}:Rep K H (.int i) (.int i):=by unfold Rep;rfl
theorem eU {b:Bool}:Rep K H (.bl b) (.bl b):=by unfold Rep;rfl
theorem aG4 {x:Str}:Rep K H (.str x) (.str x):=by unfold Rep;rfl
theorem wD:Rep K H .non .non:=by unfold Rep;rfl
theorem jU {a:Addr}:Rep K H (.ref a) (.ref a):=by unfold Rep;rfl
theorem aU {i:Int} {v:V} (h:Rep K H (.int i) v):v = .int i:=by unfold Rep at h;exact h
theorem cH {b:Bool} {v:V} (h:Rep K H (.bl b) v):v = .bl b:=by unfold Rep at h;exact h
theorem cP {x:Str} {v:V} (h:Rep K H (.str x) v):v = .str x:=by unfold Rep at h;exact h
theorem eC {v:V} (h:Rep K H .non v):v = .non:=by unfold Rep at h;exact h
theorem bK {a:Addr} {v:V} (h:Rep K H (.ref a) v):v = .ref a:=by unfold Rep at h;exact h
theorem cA {ds:List D} {v:V} (h:Rep K H (.tup ds) v):∃ a xs,v = .ref a/\SqT K H a xs/\bR K H ds xs:=by unfold Rep at h;exact h
theorem pC {ds:List D} {v:V} (h:Rep K H (.fz ds) v):∃ a xs,v = .ref a/\SqX K H a xs/\bR K H ds xs:=by unfold Rep at h;exact h
theorem cK {ds:List D} {a:Addr} {xs:List V} (sq:SqT K H a xs) (r:bR K H ds xs):Rep K H (.tup ds) (.ref a):=by unfold Rep;exact ⟨a,xs,rfl,sq,r⟩
theorem dF:bR K H [] []:=by unfold bR;rfl
theorem bU {vs:List V} (h:bR K H [] vs):vs = []:=by unfold bR at h;exact h
theorem cJ {d:D} {ds:List D} {v:V} {vs:List V} (h:Rep K H d v) (r:bR K H ds vs):bR K H (d :: ds) (v :: vs):=by unfold bR;exact ⟨v,vs,rfl,h,r⟩
theorem aX {d:D} {ds:List D} {vs:List V} (h:bR K H (d :: ds) vs):∃ v r,vs = v :: r/\Rep K H d v/\bR K H ds r:=by unfold bR at h;exact h
theorem bR.length:∀ {ds:List D} {vs:List V},bR K H ds vs->ds.length = vs.length
 | [],_,h=>by rw [bU h];rfl
 | d :: ds,_,h=>by
  obtain ⟨v,r,rfl,_,hr⟩:=aX h
  rw [List.length_cons,List.length_cons,bR.length hr]
theorem bR.get:∀ {ds:List D} {vs:List V} {i:Nat} {d:D},bR K H ds vs->ds[i]? = some d->∃ v,vs[i]? = some v/\Rep K H d v
 | [],_,i,d,h,e=>by simp at e
 | d0 :: ds,_,0,d,h,e=>by
  obtain ⟨v,r,rfl,hv,hr⟩:=aX h
  simp at e;subst e
  exact ⟨v,rfl,hv⟩
 | d0 :: ds,_,i + 1,d,h,e=>by
  obtain ⟨v,r,rfl,hv,hr⟩:=aX h
  exact bR.get (i:=i) hr (by simpa using e)
theorem bR.getV:∀ {ds:List D} {vs:List V} {i:Nat} {v:V},bR K H ds vs->vs[i]? = some v->∃ d,ds[i]? = some d/\Rep K H d v
 | [],_,i,v,h,e=>by rw [bU h] at e;simp at e
 | d0 :: ds,_,0,v,h,e=>by
  obtain ⟨v0,r,rfl,hv,hr⟩:=aX h
  simp at e;subst e
  exact ⟨d0,rfl,hv⟩
 | d0 :: ds,_,i + 1,v,h,e=>by
  obtain ⟨v0,r,rfl,hv,hr⟩:=aX h
  exact bR.getV (i:=i) hr (by simpa using e)
theorem bR.append:∀ {ds es:List D} {vs us:List V},bR K H ds vs->bR K H es us->bR K H (ds ++ es) (vs ++ us)
 | [],es,vs,us,h,q=>by rw [bU h];exact q
 | d :: ds,es,_,us,h,q=>by
  obtain ⟨v,r,rfl,hv,hr⟩:=aX h
  exact cJ hv (bR.append hr q)
theorem bR.take:∀ {ds:List D} {vs:List V} (n:Nat),bR K H ds vs->bR K H (ds.take n) (vs.take n)
 | ds,vs,0,h=>by rw [List.take_zero,List.take_zero];exact dF
 | [],_,n + 1,h=>by rw [bU h];exact dF
 | d :: ds,_,n + 1,h=>by
  obtain ⟨v,r,rfl,hv,hr⟩:=aX h
  exact cJ hv (bR.take n hr)
theorem bR.drop:∀ {ds:List D} {vs:List V} (n:Nat),bR K H ds vs->bR K H (ds.drop n) (vs.drop n)
 | ds,vs,0,h=>h
 | [],_,n + 1,h=>by rw [bU h];exact dF
 | d :: ds,_,n + 1,h=>by
  obtain ⟨v,r,rfl,hv,hr⟩:=aX h
  exact bR.drop n hr
theorem zX:∀ (ns:List Int),bR K H (ns.map D.int) (ns.map V.int)
 | []=>dF
 | n :: ns=>cJ bL (zX ns)
end
inductive AK where
 | l (a:Addr) | d (a:Addr)
deriving DecidableEq
instance:Coe Addr AK:=⟨AK.l⟩
noncomputable abbrev DM:=AK->Option (List D)
noncomputable def bJ (M:DM) (a:Addr) (ds:List D):DM:=fun b=>if b = AK.l a then some ds else M b
theorem aK {M:DM} {a:Addr} {ds:List D}:bJ M a ds a = some ds:=if_pos rfl
theorem gJ {M:DM} {a b:Addr} {ds:List D} (h:b ≠ a):bJ M a ds b = M b:=if_neg fun e=>h (AK.l.inj e)
theorem aB4 {M:DM} {a:Addr} {b:AK} {ds:List D} (h:b ≠ AK.l a):bJ M a ds b = M b:=if_neg h
theorem aEg {M:DM} {a b:Addr} {ds:List D}:bJ M a ds (.d b) = M (.d b):=if_neg fun e=>nomatch e
theorem zW {M:DM} {a:Addr} {ds es:List D}:bJ (bJ M a ds) a es = bJ M a es:=by
 funext b;unfold bJ;split<;>rfl
theorem aBr {M:DM} {a b:Addr} {o:List D} (h:M a = some o) (h':M b = none):a ≠ b:=by
 intro e;subst e;rw [h] at h';cases h'
theorem aBS {M:DM} {a b:AK} {o:List D} (h:M a = some o) (h':M b = none):a ≠ b:=by
 intro e;subst e;rw [h] at h';cases h'
noncomputable def aK6 (a:Addr) (es:List DictEntry):Heap->Prop:=fun h=>(a == sysModules) = false/\es.length<=sizeLine/\∃ ep,h.get? a = some { cls:=.type "dict",data:=.dict es.toArray ep }
noncomputable def aGr (K:PySem.W.Frag) (H:Hp) (d:D) (e:DictEntry):Prop:=∃ k v kv vv,d = .tup [.int e.hash,k,v]/\cM kv e.key/\Rep K H k kv/\cM vv e.val/\Rep K H v vv
theorem aGr.ext {K:PySem.W.Frag} {H H':Hp} {d:D} {e:DictEntry} (h:aGr K H d e) (x:Ext H H'):aGr K H' d e :=
 let ⟨k,v,kv,vv,a,b,c,f,g⟩:=h;⟨k,v,kv,vv,a,b,c.ext x,f,g.ext x⟩
noncomputable abbrev aEx (K:PySem.W.Frag) (H:Hp) (ds:List D) (es:List DictEntry):Prop:=Paired (aGr K H) ds es
theorem lS {K:PySem.W.Frag} {H H':Hp} {ds:List D} {es:List DictEntry} (h:aEx K H ds es) (x:Ext H H'):aEx K H' ds es:=Paired.mapP h fun _ _ r=>r.ext x
structure cN (K:PySem.W.Frag) (M:DM) (H:Hp):Prop where
 l:∀ (a:Addr) ds,M (.l a) = some ds->∃ xs,H a = some (.lst xs)/\bR K H ds xs
 d:∀ (a:Addr) ds,M (.d a) = some ds->∃ es,H a = some (.ext (aK6 a es))/\aEx K H ds es
section
variable {K:PySem.W.Frag} {H H':Hp} {M M':DM}
theorem cN.fresh (h:cN K M H) {p:Addr} (e:H p = none):M p = none:=by
 cases q:M p with
 | none=>rfl
 | some ds=>obtain ⟨xs,z,_⟩:=h.l p ds q;rw [e] at z;cases z
theorem cN.new (h:cN K M H) {p:Addr} (e:H p = none) (o:HO):cN K M (upd H p o) where
 l:=fun a ds q=>by
  obtain ⟨xs,z,r⟩:=h.l a ds q
  exact ⟨xs,by rw [bO (cG z e)];exact z,r.ext (Ext.new e o)⟩
 d:=fun a ds q=>by
  obtain ⟨xs,z,r⟩:=h.d a ds q
  exact ⟨xs,by rw [bO (cG z e)];exact z,lS r (Ext.new e o)⟩
theorem cN.lnew (h:cN K M H) {p:Addr} (e:H p = none) {xs:List V} {ds:List D} (r:bR K H ds xs):cN K (bJ M p ds) (upd H p (.lst xs)) where
 l:=fun a es q=>by
  by_cases ha:a = p
  ·subst ha
   rw [aK] at q
   cases q
   exact ⟨xs,eN,r.ext (Ext.new e _)⟩
  ·rw [gJ ha] at q
   obtain ⟨ys,z,r2⟩:=h.l a es q
   exact ⟨ys,by rw [bO ha];exact z,r2.ext (Ext.new e _)⟩
 d:=fun a es q=>by
  rw [aEg] at q
  obtain ⟨ys,z,r2⟩:=h.d a es q
  exact ⟨ys,by rw [bO (cG z e)];exact z,lS r2 (Ext.new e _)⟩
theorem cN.put (h:cN K M H) {p:Addr} {xs0:List V} (e:H p = some (.lst xs0)) {xs:List V} {ds:List D} (r:bR K H ds xs):cN K (bJ M p ds) (upd H p (.lst xs)) where
 l:=fun a es q=>by
  by_cases ha:a = p
  ·subst ha
   rw [aK] at q
   cases q
   exact ⟨xs,eN,r.ext (Ext.put e _)⟩
  ·rw [gJ ha] at q
   obtain ⟨ys,z,r2⟩:=h.l a es q
   exact ⟨ys,by rw [bO ha];exact z,r2.ext (Ext.put e _)⟩
 d:=fun a es q=>by
  rw [aEg] at q
  obtain ⟨ys,z,r2⟩:=h.d a es q
  exact ⟨ys,by rw [bO (yM z e (by intro z;cases z))];exact z,lS r2 (Ext.put e _)⟩
noncomputable def bC (M M':DM):Prop:=∀ a o,M a = some o->M' a = some o
theorem bC.refl (M:DM):bC M M:=fun _ _ h=>h
theorem bC.trans {M1 M2 M3:DM} (a:bC M1 M2) (b:bC M2 M3):bC M1 M3:=fun c o h=>b c o (a c o h)
theorem bC.new {M:DM} {p:Addr} (h:M p = none) (ds:List D):bC M (bJ M p ds):=fun a o e=>by rw [aB4 (aBS e h)];exact e
theorem cN.sub (h:cN K M' H) (s:bC M M'):cN K M H:=⟨fun a ds q=>h.l a ds (s _ ds q),fun a ds q=>h.d a ds (s _ ds q)⟩
end
noncomputable abbrev cO:=List (Option D)
structure hJ (K:PySem.W.Frag) (H:Hp) (ρ:cO) (σ:L2.St):Prop where
 len:ρ.length = σ.length
 get:∀ (i:Nat) d,ρ[i]? = some (some d)->∃ v,σ[i]? = some (some v)/\Rep K H d v
section
variable {K:PySem.W.Frag} {H H':Hp} {ρ:cO} {σ:L2.St}
theorem hJ.ext (h:hJ K H ρ σ) (e:Ext H H'):hJ K H' ρ σ:=⟨h.len,fun i d q=>let ⟨v,a,b⟩:=h.get i d q;⟨v,a,b.ext e⟩⟩
theorem hJ.set (h:hJ K H ρ σ) {d:D} {v:V} (r:Rep K H d v) (i:Nat):hJ K H (ρ.set i (some d)) (σ.set i (some v)):=by
 refine ⟨by rw [List.length_set,List.length_set,h.len],fun j d' q=>?_⟩
 rw [List.getElem?_set] at q
 by_cases hij:i = j
 ·subst hij
  rw [if_pos rfl] at q
  by_cases hl:i < ρ.length
  ·rw [if_pos hl] at q
   cases q
   exact ⟨v,by rw [List.getElem?_set,if_pos rfl,if_pos (by rw [<- h.len];exact hl)],r⟩
  ·rw [if_neg hl] at q
   cases q
 ·rw [if_neg hij] at q
  obtain ⟨u,a,b⟩:=h.get j d' q
  exact ⟨u,by rw [List.getElem?_set,if_neg hij];exact a,b⟩
end
noncomputable abbrev DQ:=D->DM->Prop
noncomputable abbrev DE:=cO->DM->DQ->Prop
noncomputable abbrev DT:=cO->DM->(Bool->DM->Prop)->Prop
noncomputable abbrev DA:=cO->DM->(List D->DM->Prop)->Prop
structure iM where
 nx:cO->DM->Prop
 rt:DQ
 bk:cO->DM->Prop:=fun _ _=>False
 ct:cO->DM->Prop:=fun _ _=>False
noncomputable abbrev DS:=iM->cO->DM->Prop
noncomputable abbrev DG:=D->cO->DM->(cO->DM->Prop)->Prop
noncomputable abbrev DGs:=List D->cO->DM->(cO->DM->Prop)->Prop
noncomputable def LQ (K:PySem.W.Frag) (H:Hp) (Q:DQ):VK:=fun v H'=>∃ d M',Rep K H' d v/\cN K M' H'/\Ext H H'/\Q d M'
noncomputable def LT (K:PySem.W.Frag) (H:Hp) (Q:Bool->DM->Prop):Bool->Hp->Prop:=fun b H'=>∃ M',cN K M' H'/\Ext H H'/\Q b M'
noncomputable def LA (K:PySem.W.Frag) (H:Hp) (Q:List D->DM->Prop):List V->Hp->Prop:=fun vs H'=>∃ ds M',bR K H' ds vs/\cN K M' H'/\Ext H H'/\Q ds M'
noncomputable def LN (K:PySem.W.Frag) (H:Hp) (Q:cO->DM->Prop):L2.St->Hp->Prop:=fun σ' H'=>∃ ρ' M',hJ K H' ρ' σ'/\cN K M' H'/\Ext H H'/\Q ρ' M'
structure lF (K:PySem.W.Frag) (H:Hp) (D:iM) (E:sR):Prop where
 nx:∀ σ' H',LN K H D.nx σ' H'->E.nx σ' H'
 rt:∀ v H',LQ K H D.rt v H'->E.rt v H'
 bk:∀ σ' H',LN K H D.bk σ' H'->E.bk σ' H'
 ct:∀ σ' H',LN K H D.ct σ' H'->E.ct σ' H'
noncomputable def low (K:PySem.W.Frag) (t:DE):TE:=fun σ H Q=>∃ ρ M Q',hJ K H ρ σ/\cN K M H/\t ρ M Q'/\∀ v H',LQ K H Q' v H'->Q v H'
noncomputable def aKa (K:PySem.W.Frag) (t:DT):TT:=fun σ H Q=>∃ ρ M Q',hJ K H ρ σ/\cN K M H/\t ρ M Q'/\∀ v H',LT K H Q' v H'->Q v H'
noncomputable def aLC (K:PySem.W.Frag) (t:DA):TA:=fun σ H Q=>∃ ρ M Q',hJ K H ρ σ/\cN K M H/\t ρ M Q'/\∀ v H',LA K H Q' v H'->Q v H'
noncomputable def aEf (K:PySem.W.Frag) (t:DS):TS:=fun E σ H=>∃ ρ M D,hJ K H ρ σ/\cN K M H/\t D ρ M/\lF K H D E
noncomputable def aCE (K:PySem.W.Frag) (g:DG):TG:=fun v σ H Q=>∃ d ρ M Q',Rep K H d v/\hJ K H ρ σ/\cN K M H/\g d ρ M Q'/\∀ σ' H',LN K H Q' σ' H'->Q σ' H'
noncomputable def aLa (K:PySem.W.Frag) (g:DGs):TGs:=fun vs σ H Q=>∃ ds ρ M Q',bR K H ds vs/\hJ K H ρ σ/\cN K M H/\g ds ρ M Q'/\∀ σ' H',LN K H Q' σ' H'->Q σ' H'
noncomputable abbrev PDE (X:Cx) (e:Expr) (t:DE):Prop:=PE X e (low X.K t)
noncomputable abbrev PDT (X:Cx) (e:Expr) (t:DT):Prop:=PT X e (aKa X.K t)
noncomputable abbrev PDW (X:Cx) (e:Expr) (t:DT):Prop:=PW X e (aKa X.K t)
noncomputable abbrev PDA (X:Cx) (es:List Expr) (t:DA):Prop:=PA X es (aLC X.K t)
noncomputable abbrev PDS (X:Cx) (st:Stmt) (t:DS):Prop:=PS X st (aEf X.K t)
noncomputable abbrev lJ (X:Cx) (st:List Stmt) (t:DS):Prop:=PSs X st (aEf X.K t)
noncomputable abbrev PDG (X:Cx) (e:Expr) (g:DG):Prop:=PG X e (aCE X.K g)
noncomputable abbrev aBY (X:Cx) (es:List Expr) (g:DGs):Prop:=PGs X es (aLa X.K g)
section
variable {K:PySem.W.Frag} {H H1:Hp}
theorem LQ.back {Q:DQ} {v:V} {H2:Hp} (e:Ext H H1) (h:LQ K H1 Q v H2):LQ K H Q v H2:=let ⟨d,M,a,b,c,q⟩:=h;⟨d,M,a,b,e.trans c,q⟩
theorem LT.back {Q:Bool->DM->Prop} {v:Bool} {H2:Hp} (e:Ext H H1) (h:LT K H1 Q v H2):LT K H Q v H2:=let ⟨M,b,c,q⟩:=h;⟨M,b,e.trans c,q⟩
theorem LN.back {Q:cO->DM->Prop} {v:L2.St} {H2:Hp} (e:Ext H H1) (h:LN K H1 Q v H2):LN K H Q v H2:=let ⟨d,M,a,b,c,q⟩:=h;⟨d,M,a,b,e.trans c,q⟩
theorem lF.at {D:iM} {E:sR} (h:lF K H D E) (e:Ext H H1):lF K H1 D E :=
 ⟨fun s H2 q=>h.nx s H2 (q.back e),fun s H2 q=>h.rt s H2 (q.back e),fun s H2 q=>h.bk s H2 (q.back e),fun s H2 q=>h.ct s H2 (q.back e)⟩
end
section
variable {X:Cx} {e:Expr} {st:Stmt} {sts:List Stmt}
theorem cS {t u:TE} (h:PE X e t) (k:∀ σ H Q,u σ H Q->t σ H Q):PE X e u:=fun pins s σ H Q I q=>h pins s σ H Q I (k σ H Q q)
theorem aCe {t u:TT} (h:PT X e t) (k:∀ σ H Q,u σ H Q->t σ H Q):PT X e u:=fun pins s σ H Q I q=>h pins s σ H Q I (k σ H Q q)
theorem aEa {t u:TT} (h:PW X e t) (k:∀ σ H Q,u σ H Q->t σ H Q):PW X e u:=fun wh pins s σ H Q I q=>h wh pins s σ H Q I (k σ H Q q)
theorem aFE {es:List Expr} {t u:TA} (h:PA X es t) (k:∀ σ H Q,u σ H Q->t σ H Q):PA X es u:=fun pos pins s σ H Q I q=>h pos pins s σ H Q I (k σ H Q q)
theorem kM {t u:TS} (h:PS X st t) (k:∀ D σ H,u D σ H->t D σ H):PS X st u:=fun pins s σ H D I q=>h pins s σ H D I (k D σ H q)
theorem aAj {t u:TS} (h:PSs X sts t) (k:∀ D σ H,u D σ H->t D σ H):PSs X sts u:=fun pins s σ H D I q=>h pins s σ H D I (k D σ H q)
theorem aFp {t u:TG} (h:PG X e t) (k:∀ v σ H Q,u v σ H Q->t v σ H Q):PG X e u:=fun pins s σ H v w Q I r q=>h pins s σ H v w Q I r (k v σ H Q q)
theorem aDl {es:List Expr} {t u:TGs} (h:PGs X es t) (k:∀ v σ H Q,u v σ H Q->t v σ H Q):PGs X es u:=fun pins s σ H v w Q I r q=>h pins s σ H v w Q I r (k v σ H Q q)
end
section
variable {X:Cx} {a b c e:Expr} {es:List Expr} {ta tb tc te:DE} {tA tB:DT} {t:DA} {pos:Pos}
noncomputable def aAx (i:Nat):DE:=fun ρ M Q=>match ρ[i]? with
 | some (some d)=>Q d M
 | _=>False
theorem aKi (i:Nat) {x:Str} {pos:Pos} (hN:X.N[i]? = some x:=by rfl) (hv:Vis X.env.scope x:=by first | exact Or.inl rfl | exact Or.inr (Or.inl rfl) | exact Or.inr (Or.inr rfl)) (hd:(x == ("__debug__":Str)) = false:=by decide)
  (hcd:(x == ("__classdict__":Str)) = false:=by decide):PDE X (.Name x pos) (aAx i) :=
 cS (xF (i:=i) hN hv hd hcd) fun σ H Q ⟨ρ,M,Q',re,hm,q,k⟩=>by
  unfold aAx at q
  split at q
  ·rename_i d e
   obtain ⟨v,e1,r⟩:=re.get i d e
   exact ⟨v,e1,k v H ⟨d,M,r,hm,.refl H,q⟩⟩
  ·exact q.elim
noncomputable def dC (d:D):DE:=fun _ M Q=>Q d M
theorem aJt {i j pos}:PDE X (.Constant (.int i) j pos) (dC (.int i)):=cS aIM fun σ H Q ⟨ρ,M,Q',re,hm,q,k⟩=>k _ H ⟨_,M,bL,hm,.refl H,q⟩
theorem aL6 {i j pos}:PDE X (.Constant (.bool i) j pos) (dC (.bl i)):=cS aLY fun σ H Q ⟨ρ,M,Q',re,hm,q,k⟩=>k _ H ⟨_,M,eU,hm,.refl H,q⟩
theorem aI0 {j pos}:PDE X (.Constant .none j pos) (dC .non):=cS aIm fun σ H Q ⟨ρ,M,Q',re,hm,q,k⟩=>k _ H ⟨_,M,wD,hm,.refl H,q⟩
theorem aIl {x j pos}:PDE X (.Constant (.str x) j pos) (dC (.str x)):=cS aIB fun σ H Q ⟨ρ,M,Q',re,hm,q,k⟩=>k _ H ⟨_,M,aG4,hm,.refl H,q⟩
theorem aHp {x:Str} {d:D} {v:V} {u:Value} {pos:Pos} (hg:Gl X x) (hm:X.mg x = some u) (r:cM v u) (hr:∀ H,Rep X.K H d v) (hd:(x == ("__debug__":Str)) = false:=by decide):PDE X (.Name x pos) (dC d) :=
 cS (aG8 hg hm r hd) fun σ H Q ⟨ρ,M,Q',re,hm,q,k⟩=>k _ H ⟨_,M,hr H,hm,.refl H,q⟩
noncomputable abbrev D2:=D->D->DM->DQ->Prop
noncomputable def OpL (K:PySem.W.Frag) (r:R2) (r':D2):Prop:=∀ x y H M dx dy Q,Rep K H dx x->Rep K H dy y->cN K M H->r' dx dy M Q->r x y H (LQ K H Q)
noncomputable def OpD (X:Cx) (f:Value->Value->Sem Value) (r':D2):Prop :=
 OpR X f fun x y H Q=>∃ dx dy M Q',Rep X.K H dx x/\Rep X.K H dy y/\cN X.K M H/\r' dx dy M Q'/\∀ v H',LQ X.K H Q' v H'->Q v H'
theorem aC7 {pins:List (Addr × Obj)} {σ:L2.St} {Q Q':VK} {u:Value} {s:Shared} (h:EP X pins σ Q u s) (k:∀ v H,Q v H->Q' v H):EP X pins σ Q' u s:=let ⟨v,H,a,b,c⟩:=h;⟨v,H,a,b,k v H c⟩
theorem OpD.of {f:Value->Value->Sem Value} {r:R2} {r':D2} (h:OpR X f r) (l:OpL X.K r r'):OpD X f r':=fun pins s σ H x y v u Q I rx ry ⟨dx,dy,M,Q',r1,r2,hm,q,k⟩ =>
 thn (h pins s σ H x y v u _ I rx ry (l x y H M dx dy Q' r1 r2 hm q)) fun v s h=>aC7 h k
noncomputable def dOp (r:D2) (ta tb:DE):DE:=fun ρ M Q=>ta ρ M fun x M1=>tb ρ M1 fun y M2=>r x y M2 Q
theorem aAr {r':D2} {σ:L2.St} {H:Hp} {Q:VK} {R:V->V->Hp->VK->Prop} (hR:∀ x y H1 Q1,(∃ dx dy M Q',Rep X.K H1 dx x/\Rep X.K H1 dy y/\cN X.K M H1/\r' dx dy M Q'/\∀ v H',LQ X.K H1 Q' v H'->Q1 v H')->R x y H1 Q1)
  (h:low X.K (dOp r' ta tb) σ H Q):low X.K ta σ H fun x H1=>low X.K tb σ H1 fun y H2=>R x y H2 Q:=by
 obtain ⟨ρ,M,Q',re,hm,q,k⟩:=h
 refine ⟨ρ,M,_,re,hm,q,fun x H1 ⟨dx,M1,rx,hm1,e1,q1⟩=>⟨ρ,M1,_,re.ext e1,hm1,q1,fun y H2 ⟨dy,M2,ry,hm2,e2,q2⟩=>?_⟩⟩
 exact hR x y H2 Q ⟨dx,dy,M2,Q',rx.ext e2,ry,hm2,q2,fun v H' z=>k v H' (z.back (e1.trans e2))⟩
theorem aLh {op:Operator} {r:D2} (ho:OpD X (binaryOp op) r) (ha:PDE X a ta) (hb:PDE X b tb):PDE X (.BinOp a op b pos) (dOp r ta tb) :=
 cS (aKz ho ha hb) fun σ H Q h=>aAr (fun _ _ _ _ z=>z) h
theorem aKg {op:CmpOp} {r:D2} (ho:OpD X (compareOp op) r) (ha:PDE X a ta) (hb:PDE X b tb) (hm:behindInMarks op b = false:=by exact aAS _):PDE X (.Compare a [op] [b] pos) (dOp r ta tb) :=
 cS (aF3 ho ha hb hm) fun σ H Q h=>aAr (fun _ _ _ _ z=>z) h
noncomputable def zP (t:DE):DT:=fun ρ M Q=>t ρ M fun d M'=>match d with
 | .bl k=>Q k M'
 | _=>False
theorem aBO {σ:L2.St} {H:Hp} {Q:Bool->Hp->Prop} (h:aKa X.K (zP te) σ H Q):low X.K te σ H fun x H'=>∃ k,x = .bl k/\Q k H':=by
 obtain ⟨ρ,M,Q',re,hm,q,k⟩:=h
 refine ⟨ρ,M,_,re,hm,q,fun x H1 ⟨d,M1,rd,hm1,e1,q1⟩=>?_⟩
 cases d with
 | bl c=>exact ⟨c,cH rd,k c H1 ⟨M1,hm1,e1,q1⟩⟩
 | _=>exact q1.elim
theorem aIb {op:CmpOp} {r:D2} (ho:OpD X (compareOp op) r) (ha:PDE X a ta) (hb:PDE X b tb) (hm:behindInMarks op b = false:=by exact aAS _):PDT X (.Compare a [op] [b] pos) (zP (dOp r ta tb)) :=
 aCe (aGl ho ha hb hm) fun σ H Q h=>aAr (R:=fun x y H Q1=>∃ dx dy M Q',Rep X.K H dx x/\Rep X.K H dy y/\cN X.K M H/\r dx dy M Q'/\∀ v H',LQ X.K H Q' v H'->Q1 v H') (fun _ _ _ _ z=>z) (aBO h)
theorem aKj (h:PDE X e te) (he:∀ whole,isTrue e X.env whole = (do let v <- whole;standAt e.pos;holding [v] (truthy v)):=by intro _;rfl):PDT X e (zP te) :=
 aCe (aHY h he) fun σ H Q h=>aBO h
noncomputable def aJl (t u:DT):DT:=fun ρ M Q=>t ρ M fun c M1=>if c = true then u ρ M1 Q else Q false M1
noncomputable def dOr (t u:DT):DT:=fun ρ M Q=>t ρ M fun c M1=>if c = true then Q true M1 else u ρ M1 Q
noncomputable def aIn (t:DT):DT:=fun ρ M Q=>t ρ M fun c M1=>Q (!c) M1
variable {cR:List Expr}
theorem aGM (ha:PDT X a tA):PDW X (.BoolOp .And [a] pos) tA:=aGN ha
theorem aIP (ha:PDT X a tA):PDW X (.BoolOp .Or [a] pos) tA:=aJY ha
theorem aIu (ha:PDT X a tA) (hb:PDW X (.BoolOp .And (b :: cR) pos) tB):PDW X (.BoolOp .And (a :: b :: cR) pos) (aJl tA tB) :=
 aEa (aJw ha hb) fun σ H Q ⟨ρ,M,Q',re,hm,q,k⟩=>⟨ρ,M,_,re,hm,q,fun c H1 ⟨M1,hm1,e1,q1⟩=>by
  cases c with
  | true=>exact ⟨ρ,M1,_,re.ext e1,hm1,q1,fun v H' z=>k v H' (z.back e1)⟩
  | false=>exact k false H1 ⟨M1,hm1,e1,q1⟩⟩
theorem aK9 (ha:PDT X a tA) (hb:PDW X (.BoolOp .Or (b :: cR) pos) tB):PDW X (.BoolOp .Or (a :: b :: cR) pos) (dOr tA tB) :=
 aEa (aLR ha hb) fun σ H Q ⟨ρ,M,Q',re,hm,q,k⟩=>⟨ρ,M,_,re,hm,q,fun c H1 ⟨M1,hm1,e1,q1⟩=>by
  cases c with
  | false=>exact ⟨ρ,M1,_,re.ext e1,hm1,q1,fun v H' z=>k v H' (z.back e1)⟩
  | true=>exact k true H1 ⟨M1,hm1,e1,q1⟩⟩
theorem aMd (h:PDW X e tA):PDT X e tA:=PW.pt h
theorem aKw (ha:PDT X a tA):PDT X (.UnaryOp .Not a pos) (aIn tA) :=
 aCe (aIc ha) fun σ H Q ⟨ρ,M,Q',re,hm,q,k⟩=>⟨ρ,M,_,re,hm,q,fun c H1 ⟨M1,hm1,e1,q1⟩=>k (!c) H1 ⟨M1,hm1,e1,q1⟩⟩
noncomputable def aD9 (ta tb:DE):DE:=fun ρ M Q=>ta ρ M fun x M1=>match x with
 | .bl c=>if c = true then tb ρ M1 Q else Q (.bl false) M1
 | _=>False
noncomputable def aJ0 (ta tb:DE):DE:=fun ρ M Q=>ta ρ M fun x M1=>match x with
 | .bl c=>if c = true then Q (.bl true) M1 else tb ρ M1 Q
 | _=>False
noncomputable def aEq (ta:DE):DE:=fun ρ M Q=>ta ρ M fun x M1=>match x with
 | .bl c=>Q (.bl (!c)) M1
 | _=>False
theorem aKf {op} (h:PDE X a ta):PDE X (.BoolOp op [a] pos) ta:=aJr h
theorem aIs (ha:PDE X a ta) (hb:PDE X (.BoolOp .And (b :: cR) pos) tb):PDE X (.BoolOp .And (a :: b :: cR) pos) (aD9 ta tb) :=
 cS (aJP ha hb) fun σ H Q ⟨ρ,M,Q',re,hm,q,k⟩=>⟨ρ,M,_,re,hm,q,fun x H1 ⟨d,M1,rd,hm1,e1,q1⟩=>by
  cases d with
  | bl c =>
   refine ⟨c,cH rd,?_⟩
   cases c with
   | true=>exact ⟨ρ,M1,_,re.ext e1,hm1,q1,fun v H' z=>k v H' (z.back e1)⟩
   | false=>exact k _ H1 ⟨_,M1,eU,hm1,e1,q1⟩
  | _=>exact q1.elim⟩
theorem aLO (ha:PDE X a ta) (hb:PDE X (.BoolOp .Or (b :: cR) pos) tb):PDE X (.BoolOp .Or (a :: b :: cR) pos) (aJ0 ta tb) :=
 cS (aKJ ha hb) fun σ H Q ⟨ρ,M,Q',re,hm,q,k⟩=>⟨ρ,M,_,re,hm,q,fun x H1 ⟨d,M1,rd,hm1,e1,q1⟩=>by
  cases d with
  | bl c =>
   refine ⟨c,cH rd,?_⟩
   cases c with
   | false=>exact ⟨ρ,M1,_,re.ext e1,hm1,q1,fun v H' z=>k v H' (z.back e1)⟩
   | true=>exact k _ H1 ⟨_,M1,eU,hm1,e1,q1⟩
  | _=>exact q1.elim⟩
theorem aIF (ha:PDE X a ta):PDE X (.UnaryOp .Not a pos) (aEq ta) :=
 cS (aJH ha) fun σ H Q ⟨ρ,M,Q',re,hm,q,k⟩=>⟨ρ,M,_,re,hm,q,fun x H1 ⟨d,M1,rd,hm1,e1,q1⟩=>by
  cases d with
  | bl c=>exact ⟨c,cH rd,k _ H1 ⟨_,M1,eU,hm1,e1,q1⟩⟩
  | _=>exact q1.elim⟩
noncomputable def aIS (t:DT) (ta tb:DE):DE:=fun ρ M Q=>t ρ M fun c M1=>if c = true then ta ρ M1 Q else tb ρ M1 Q
theorem aEm (hc:PDT X c tA) (ha:PDE X a ta) (hb:PDE X b tb):PDE X (.IfExp c a b pos) (aIS tA ta tb) :=
 cS (aFu hc ha hb) fun σ H Q ⟨ρ,M,Q',re,hm,q,k⟩=>⟨ρ,M,_,re,hm,q,fun c H1 ⟨M1,hm1,e1,q1⟩=>by
  cases c with
  | true=>exact ⟨ρ,M1,_,re.ext e1,hm1,q1,fun v H' z=>k v H' (z.back e1)⟩
  | false=>exact ⟨ρ,M1,_,re.ext e1,hm1,q1,fun v H' z=>k v H' (z.back e1)⟩⟩
noncomputable def uT:DA:=fun _ M Q=>Q [] M
noncomputable def qJ (ta:DE) (tr:DA):DA:=fun ρ M Q=>ta ρ M fun x M1=>tr ρ M1 fun xs M2=>Q (x :: xs) M2
theorem aAZ:PDA X [] uT:=aFE aEF fun σ H Q ⟨ρ,M,Q',re,hm,q,k⟩=>k [] H ⟨[],M,dF,hm,.refl H,q⟩
theorem wB (ha:PDE X e te) (hr:PDA X es t) (hs:starEach (e :: es) X.env = (false,eval e X.env) :: starEach es X.env:=by rfl):PDA X (e :: es) (qJ te t) :=
 aFE (aAY ha hr hs) fun σ H Q ⟨ρ,M,Q',re,hm,q,k⟩=>⟨ρ,M,_,re,hm,q,fun x H1 ⟨dx,M1,rx,hm1,e1,q1⟩=>⟨ρ,M1,_,re.ext e1,hm1,q1,fun xs H2 ⟨dxs,M2,rxs,hm2,e2,q2⟩ =>
  k _ H2 ⟨dx :: dxs,M2,cJ (rx.ext e2) rxs,hm2,e1.trans e2,q2⟩⟩⟩
noncomputable def aJB (t:DA):DE:=fun ρ M Q=>t ρ M fun xs M1=>xs.length<=1000/\Q (.tup xs) M1
noncomputable def aIw (t:DA):DE:=fun ρ M Q=>t ρ M fun xs M1=>xs.length<=1000/\∀ p:Addr,M1 p = none->Q (.ref p) (bJ M1 p xs)
theorem aJ2 {x1} (h:PDA X es t):PDE X (.Tuple es x1 pos) (aJB t) :=
 cS (aKc h) fun σ H Q ⟨ρ,M,Q',re,hm,q,k⟩=>⟨ρ,M,_,re,hm,q,fun xs H1 ⟨ds,M1,rs,hm1,e1,q1,q2⟩=>⟨by rw [<- rs.length];exact Nat.le_of_lt (fK q1),fun p hp =>
  k _ _ ⟨.tup ds,M1,cK (.of eN) (rs.ext (Ext.new hp _)),hm1.new hp _,e1.trans (Ext.new hp _),q2⟩⟩⟩
theorem aJc (h:PDA X es t):PDE X (.List es pos) (aIw t) :=
 cS (aH4 h) fun σ H Q ⟨ρ,M,Q',re,hm,q,k⟩=>⟨ρ,M,_,re,hm,q,fun xs H1 ⟨ds,M1,rs,hm1,e1,q1,q2⟩=>⟨by rw [<- rs.length];exact Nat.le_of_lt (fK q1),fun p hp =>
  k _ _ ⟨.ref p,_,jU,hm1.lnew hp rs,e1.trans (Ext.new hp _),q2 p (hm1.fresh hp)⟩⟩⟩
end
end Dd
namespace Dd
open PySem PySem.Spec PyProof.Rows L2
section
variable {X:Cx} {st:Stmt} {cR:List Stmt} {t u:DS} {e:Expr} {te:DE} {pos:Pos}
noncomputable def aFV:DS:=fun E ρ M=>E.nx ρ M
noncomputable def aJ5 (t u:DS):DS:=fun E ρ M=>t { E with nx:=u E } ρ M
theorem aGy:lJ X [] aFV:=aAj aHb fun E σ H ⟨ρ,M,D,re,hm,q,k⟩=>k.nx σ H ⟨ρ,M,re,hm,.refl H,q⟩
theorem aE5 (h1:PDS X st t) (h2:lJ X cR u):lJ X (st :: cR) (aJ5 t u) :=
 aAj (aBJ h1 h2) fun E σ H ⟨ρ,M,D,re,hm,q,k⟩=>⟨ρ,M,{ D with nx:=u D },re,hm,q,
  ⟨fun σ' H' ⟨ρ',M',re',hm',ex,q'⟩=>⟨ρ',M',D,re',hm',q',k.at ex⟩,k.rt,k.bk,k.ct⟩⟩
theorem aF4 (h1:PDS X st t):lJ X [st] t:=aC0 h1
noncomputable def aFo (te:DE):DS:=fun E ρ M=>te ρ M fun _ M1=>E.nx ρ M1
theorem aGC (he:PDE X e te) (hs:swapsWith e none pos.line X.env = pure false:=by rfl):PDS X (.Expr e pos) (aFo te) :=
 kM (aGd he hs) fun E σ H ⟨ρ,M,D,re,hm,q,k⟩=>⟨ρ,M,_,re,hm,q,fun v H1 ⟨d,M1,rd,hm1,ex,q1⟩=>k.nx σ H1 ⟨ρ,M1,re.ext ex,hm1,ex,q1⟩⟩
noncomputable def aH7 (te:DE):DS:=fun E ρ M=>te ρ M E.rt
theorem aIg (he:PDE X e te):PDS X (.Return (some e) pos) (aH7 te) :=
 kM (aHZ he) fun E σ H ⟨ρ,M,D,re,hm,q,k⟩=>⟨ρ,M,_,re,hm,q,k.rt⟩
noncomputable def aH5 (c:DT) (t u:DS):DS:=fun E ρ M=>c ρ M fun b M1=>if b = true then t E ρ M1 else u E ρ M1
theorem aKy {c:Expr} {a b:List Stmt} {tc:DT} (hc:PDT X c tc) (ha:lJ X a t) (hb:lJ X b u):PDS X (.If c a b pos) (aH5 tc t u) :=
 kM (aLH hc ha hb) fun E σ H ⟨ρ,M,D,re,hm,q,k⟩=>⟨ρ,M,_,re,hm,q,fun b H1 ⟨M1,hm1,ex,q1⟩=>by
  cases b with
  | true=>exact ⟨ρ,M1,D,re.ext ex,hm1,q1,k.at ex⟩
  | false=>exact ⟨ρ,M1,D,re.ext ex,hm1,q1,k.at ex⟩⟩
noncomputable def aCq:DS:=fun _ _ _=>False
theorem aEe:PDS X st aCq:=fun _ _ _ _ _ _ ⟨_,_,_,_,_,q,_⟩=>q.elim
end
section
variable {X:Cx} {pos:Pos} {e tg:Expr} {es:List Expr} {te:DE}
noncomputable def gN (i:Nat):DG:=fun d ρ M Q=>Q (ρ.set i (some d)) M
theorem aGI {i:Nat} {x:Str} (hN:X.N.Nodup) (hi:X.N[i]? = some x:=by rfl) (hx:Loc X.env.scope x:=by first | exact Or.inl rfl | exact Or.inr rfl) (hf:X.fn x = true ∨ X.env.scope.names.lookup x = some .local:=by first | exact .inl rfl | exact .inr rfl | assumption):PDG X (.Name x pos) (gN i) :=
 aFp (aGg (i:=i) hN hi hx hf) fun v σ H Q ⟨d,ρ,M,Q',rd,re,hm,q,k⟩=>k _ H ⟨_,M,re.set rd i,hm,.refl H,q⟩
noncomputable def gNl:DGs:=fun ds ρ M Q=>match ds with
 | []=>Q ρ M
 | _=>False
noncomputable def gCn (t:DG) (u:DGs):DGs:=fun ds ρ M Q=>match ds with
 | d :: r=>t d ρ M fun ρ' M'=>u r ρ' M' Q
 | []=>False
theorem aGV:aBY X [] gNl:=aDl aGk fun v σ H Q ⟨ds,ρ,M,Q',rd,re,hm,q,k⟩=>by
 cases ds with
 | nil=>exact ⟨bU rd,k σ H ⟨ρ,M,re,hm,.refl H,q⟩⟩
 | cons _ _=>exact q.elim
theorem aFC {t:DG} {u:DGs} (h1:PDG X e t) (h2:aBY X es u) (hs:(assignEach (e :: es) X.env).map (·.2) = assign e X.env :: (assignEach es X.env).map (·.2):=by rfl):aBY X (e :: es) (gCn t u) :=
 aDl (aEH h1 h2 hs) fun v σ H Q ⟨ds,ρ,M,Q',rd,re,hm,q,k⟩=>by
  cases ds with
  | nil=>exact q.elim
  | cons d r =>
   obtain ⟨x,xs,rfl,rx,rxs⟩:=aX rd
   exact ⟨x,xs,rfl,d,ρ,M,_,rx,re,hm,q,fun σ' H' ⟨ρ',M',re',hm',ex,q'⟩=>⟨r,ρ',M',Q',rxs.ext ex,re',hm',q',fun σ2 H2 z=>k σ2 H2 (z.back ex)⟩⟩
noncomputable def gT (n:Nat) (t:DGs):DG:=fun d ρ M Q=>match d with
 | .tup ds=>ds.length = n/\t ds ρ M Q
 | _=>False
theorem aIr {k:Nat} {t:DGs} {n:Nat} (hc:X.calm = true) (h:aBY X es t) (hn:(assignEach es X.env).length = n:=by rfl) (hst:(assignEach es X.env).findIdx? (·.1) = none:=by rfl):PDG X (.Tuple es k pos) (gT n t) :=
 aFp (aIe hc h hn hst) fun v σ H Q ⟨d,ρ,M,Q',rd,re,hm,q,k⟩=>by
  cases d with
  | tup ds =>
   obtain ⟨a,xs,rfl,sq,rs⟩:=cA rd
   exact ⟨a,xs,rfl,sq,by rw [<- rs.length];exact q.1,ds,ρ,M,Q',rs,re,hm,q.2,k⟩
  | _=>exact q.elim
noncomputable def aDq (te:DE) (g:DG):DS:=fun E ρ M=>te ρ M fun x M1=>g x ρ M1 E.nx
theorem aHu {g:DG} {σ:L2.St} {H:Hp} {E:sR} (h:aEf X.K (aDq te g) E σ H):low X.K te σ H fun x H1=>aCE X.K g x σ H1 E.nx:=by
 obtain ⟨ρ,M,D,re,hm,q,k⟩:=h
 exact ⟨ρ,M,_,re,hm,q,fun v H1 ⟨d,M1,rd,hm1,ex,q1⟩=>⟨d,ρ,M1,_,rd,re.ext ex,hm1,q1,fun σ' H' z=>k.nx σ' H' (z.back ex)⟩⟩
theorem aH8 {g:DG} (he:PDE X e te) (hg:PDG X tg g) (hs:swapsWithSole [tg] e pos.line X.env = pure false:=by rfl) (hw:swappedStores [tg] e X.env = pure none:=by rfl)
  (h1:(assignEach [tg] X.env).map (·.2) = [assign tg X.env]:=by rfl):PDS X (.Assign [tg] e pos) (aDq te g) :=
 kM (aJW he hg hs hw h1) fun E σ H h=>aHu h
theorem aId {i:Nat} {x:Str} {pos':Pos} (hN:X.N.Nodup) (he:PDE X e te) (hi:X.N[i]? = some x:=by rfl) (hx:Loc X.env.scope x:=by first | exact Or.inl rfl | exact Or.inr rfl) (hs:swapsWith e (some (.Name x pos')) pos.line X.env = pure false:=by rfl) (hf:X.fn x = true ∨ X.env.scope.names.lookup x = some .local:=by first | exact .inl rfl | exact .inr rfl | assumption) :
  PDS X (.Assign [.Name x pos'] e pos) (aDq te (gN i)) :=
 kM (aJ7 (i:=i) hN hi hx he hs hf) fun E σ H ⟨ρ,M,D,re,hm,q,k⟩=>⟨ρ,M,_,re,hm,q,fun v H1 ⟨d,M1,rd,hm1,ex,q1⟩=>k.nx _ H1 ⟨_,M1,(re.ext ex).set rd i,hm1,ex,q1⟩⟩
noncomputable def aIR (i j:Nat) (ta:DA):DS:=fun E ρ M=>ta ρ M fun ds M1=>match ds with
 | [x,y]=>E.nx ((ρ.set i (some x)).set j (some y)) M1
 | _=>False
theorem aKk {i j:Nat} {x y:Str} {a b:Expr} {ta:DA} {px py pt:Pos} {kt k2 pt2} (hc:X.calm = true) (hN:X.N.Nodup) (ha:PDA X [a,b] ta) (hi:X.N[i]? = some x:=by rfl) (hj:X.N[j]? = some y:=by rfl) (hij:i ≠ j:=by decide)
  (hx:X.env.scope.names.lookup x = some .local:=by rfl) (hy:X.env.scope.names.lookup y = some .local:=by rfl)
  (hw:swappedStores [.Tuple [.Name x px,.Name y py] kt pt] (.Tuple [a,b] k2 pt2) X.env = pure (some [x,y]):=by rfl)
  (hs:swapsWithSole [.Tuple [.Name x px,.Name y py] kt pt] (.Tuple [a,b] k2 pt2) pos.line X.env = pure false:=by rfl) :
  PDS X (.Assign [.Tuple [.Name x px,.Name y py] kt pt] (.Tuple [a,b] k2 pt2) pos) (aIR i j ta) :=
 kM (aJv (i:=i) (j:=j) hc hN hi hj hij hx hy ha hw hs) fun E σ H ⟨ρ,M,D,re,hm,q,k⟩=>⟨ρ,M,_,re,hm,q,fun vs H1 ⟨ds,M1,rs,hm1,ex,q1⟩=>by
  match ds,q1 with
  | [d1,d2],q1 =>
   obtain ⟨v1,r1,rfl,rv1,rr1⟩:=aX rs
   obtain ⟨v2,r2,rfl,rv2,rr2⟩:=aX rr1
   obtain rfl:=bU rr2
   exact ⟨v1,v2,rfl,k.nx _ H1 ⟨_,M1,((re.ext ex).set rv1 i).set rv2 j,hm1,ex,q1⟩⟩
  | [],q1=>exact q1.elim
  | [_],q1=>exact q1.elim
  | _ :: _ :: _ :: _,q1=>exact q1.elim⟩
end
section
variable {X:Cx} {pos:Pos}
noncomputable def aCf (c:DT) (tb:DS):DS:=fun E ρ M=>∃ W:Nat->cO->DM->Prop,(∃ m,W m ρ M)/\∀ m ρ M,W m ρ M ->
 c ρ M fun b M1=>if b = true then tb { E with nx:=fun ρ' M'=>∃ m',m' < m/\W m' ρ' M',ct:=fun ρ' M'=>∃ m',m' < m/\W m' ρ' M',bk:=E.nx } ρ M1 else E.nx ρ M1
theorem aER {c:Expr} {body:List Stmt} {tc:DT} {tb:DS} (hp:PassesOwn (model X.prog X.w) X.A X.env X.xe) (hc:PDT X c tc) (hb:lJ X body tb):PDS X (.While c body [] pos) (aCf tc tb) :=
 kM (aFD hp hc hb) fun E σ H ⟨ρ,M,D,re,hm,⟨W,⟨m0,w0⟩,turn⟩,k⟩=>by
  refine ⟨fun m σ' H'=>∃ ρ' M',hJ X.K H' ρ' σ'/\cN X.K M' H'/\Ext H H'/\W m ρ' M',⟨m0,ρ,M,re,hm,.refl H,w0⟩,?_⟩
  rintro m σ1 H1 ⟨ρ1,M1,re1,hm1,e1,w1⟩
  refine ⟨ρ1,M1,_,re1,hm1,turn m ρ1 M1 w1,fun b H2 ⟨M2,hm2,e2,q2⟩=>?_⟩
  cases b with
  | false=>exact k.nx σ1 H2 ⟨ρ1,M2,re1.ext e2,hm2,e1.trans e2,q2⟩
  | true =>
   refine ⟨fun σ' H'=>∃ m',m' < m/\∃ ρ' M',hJ X.K H' ρ' σ'/\cN X.K M' H'/\Ext H H'/\W m' ρ' M',fun σ' H' z=>z,?_⟩
   refine ⟨ρ1,M2,_,re1.ext e2,hm2,q2,?_⟩
   have ex:=e1.trans e2
   exact ⟨fun σ' H' ⟨ρ',M',a,b,c,m',l,d⟩=>⟨m',l,ρ',M',a,b,ex.trans c,d⟩,fun v H' z=>k.rt v H' (z.back ex),fun σ' H' z=>k.nx σ' H' (z.back ex),fun σ' H' ⟨ρ',M',a,b,c,m',l,d⟩=>⟨m',l,ρ',M',a,b,ex.trans c,d⟩⟩
theorem kB {c:DT} {tb:DS} {E:iM} {ρ:cO} {M:DM} (Pv:Nat->cO->DM->Prop) (m0:Nat) (h0:Pv m0 ρ M)
  (hs:∀ m ρ M,Pv m ρ M->c ρ M fun b M1=>if b = true then tb { E with nx:=fun ρ' M'=>∃ m',m' < m/\Pv m' ρ' M',ct:=fun ρ' M'=>∃ m',m' < m/\Pv m' ρ' M',bk:=E.nx } ρ M1 else E.nx ρ M1):aCf c tb E ρ M:=⟨Pv,⟨m0,h0⟩,hs⟩
noncomputable def dIt (at':Option Addr) (ds:List D) (g:DG) (tb:DS):DS:=fun E ρ M=>∃ Pv:Nat->cO->DM->Prop,Pv 0 ρ M /\
 (∀ i ρ M,i<=ds.length->Pv i ρ M->∀ a,at' = some a->M a = some ds) /\
 (∀ i d ρ M,ds[i]? = some d->Pv i ρ M->g d ρ M fun ρ2 M2=>tb { E with nx:=Pv (i + 1),ct:=Pv (i + 1),bk:=E.nx } ρ2 M2)/\∀ ρ M,Pv ds.length ρ M->E.nx ρ M
noncomputable def aBQ (tl:DE) (g:DG) (tb:DS):DS:=fun E ρ M=>tl ρ M fun d M1=>match d with
 | .tup ds=>dIt none ds g tb E ρ M1
 | _=>False
noncomputable def aBV (tl:DE) (g:DG) (tb:DS):DS:=fun E ρ M=>tl ρ M fun d M1=>match d with
 | .fz ds=>dIt none ds g tb E ρ M1
 | .ref a=>∃ ds,M1 a = some ds/\dIt (some a) ds g tb E ρ M1
 | _=>False
variable {iter tg:Expr} {body:List Stmt} {tl:DE} {g:DG} {tb:DS}
theorem aFQ {K:PySem.W.Frag} {a':Option Addr} {ds:List D} {E:sR} {Dn:iM} {σ:L2.St} {ρ:cO} {M:DM} {H0 H:Hp} {J:It} (ex0:Ext H0 H) (re:hJ K H ρ σ) (hm:cN K M H) (k:lF K H0 Dn E) (h:dIt a' ds g tb Dn ρ M)
  (seq:∀ H',Ext H H'->(∀ M',cN K M' H'->(∀ a,a' = some a->M' a = some ds)->∃ xs,bR K H' ds xs/\(∀ i,xs.length<=i->J.stop i H')/\(∀ i,i < xs.length->J.go i H')/\∀ i x H2,J.yld i H' x H2->H2 = H'/\xs[i]? = some x)) :
  ∃ W:Nat->Nat->L2.St->Hp->Prop,(∃ m,W 0 m σ H)/\∀ i m σ H,W i m σ H ->
   (J.stop i H/\E.nx σ H) ∨ (J.go i H/\∃ N:L2.St->Hp->Prop,(∀ σ' H',N σ' H'->∃ m',m' < m/\W (i + 1) m' σ' H')/\∀ x H',J.yld i H x H'->aCE K g x σ H' fun σ2 H2=>aEf K tb { E with nx:=N,ct:=N,bk:=E.nx } σ2 H2):=by
 obtain ⟨Pv,p0,hat,step,done⟩:=h
 refine ⟨fun i m σ' H'=>∃ ρ' M',hJ K H' ρ' σ'/\cN K M' H'/\Ext H H'/\m = ds.length - i/\i<=ds.length/\Pv i ρ' M',⟨ds.length,ρ,M,re,hm,.refl H,rfl,Nat.zero_le _,p0⟩,?_⟩
 rintro i m σ1 H1 ⟨ρ1,M1,re1,hm1,e1,rfl,hi,w1⟩
 obtain ⟨xs,rs,hst,hgo,hy⟩:=seq H1 e1 M1 hm1 (hat i ρ1 M1 hi w1)
 have hl:=rs.length
 by_cases hlt:i < ds.length
 ·refine .inr ⟨hgo i (by omega),fun σ' H'=>∃ ρ' M',hJ K H' ρ' σ'/\cN K M' H'/\Ext H H'/\Pv (i + 1) ρ' M',fun σ' H' ⟨ρ',M',a,b,c,d⟩=>⟨ds.length - (i + 1),by omega,ρ',M',a,b,c,rfl,hlt,d⟩,fun x H' y=>?_⟩
  obtain ⟨rfl,hx⟩:=hy i x H' y
  obtain ⟨d,hd,rd⟩:=rs.getV hx
  refine ⟨d,ρ1,M1,_,rd,re1,hm1,step i d ρ1 M1 hd w1,fun σ2 H2 ⟨ρ2,M2,re2,hm2,e2,q2⟩=>⟨ρ2,M2,_,re2,hm2,q2,?_⟩⟩
  have ex:=e1.trans e2
  exact ⟨fun σ' H' ⟨ρ',M',a,b,c,d⟩=>⟨ρ',M',a,b,ex.trans c,d⟩,fun v H' z=>k.rt v H' (z.back (ex0.trans ex)),fun σ' H' z=>k.nx σ' H' (z.back (ex0.trans ex)),fun σ' H' ⟨ρ',M',a,b,c,d⟩=>⟨ρ',M',a,b,ex.trans c,d⟩⟩
 ·have e:i = ds.length:=by omega
  subst e
  exact .inl ⟨hst _ (by omega),k.nx σ1 H1 ⟨ρ1,M1,re1,hm1,ex0.trans e1,done ρ1 M1 w1⟩⟩
noncomputable def aLK (lo:Int) (n:Nat) (g:DG) (tb:DS):DS:=fun E ρ M=>∃ Pv:Nat->cO->DM->Prop,Pv 0 ρ M /\
 (∀ i ρ M,i < n->Pv i ρ M->g (.int (lo + i)) ρ M fun ρ2 M2=>tb { E with nx:=Pv (i + 1),ct:=Pv (i + 1),bk:=E.nx } ρ2 M2)/\∀ ρ M,Pv n ρ M->E.nx ρ M
noncomputable def aEr (ta:DA) (g:DG) (tb:DS):DS:=fun E ρ M=>ta ρ M fun ds M1=>match ds with
 | [.int j]=>(-(2 ^ 62)<=j/\j < 2 ^ 62)/\aLK 0 j.toNat g tb E ρ M1
 | _=>False
theorem aKt {K:PySem.W.Frag} {lo:Int} {n:Nat} {E:sR} {Dn:iM} {σ:L2.St} {ρ:cO} {M:DM} {H0 H:Hp} (ex0:Ext H0 H) (re:hJ K H ρ σ) (hm:cN K M H) (k:lF K H0 Dn E) (h:aLK lo n g tb Dn ρ M) :
  ∃ W:Nat->Nat->L2.St->Hp->Prop,(∃ m,W 0 m σ H)/\∀ i m σ H,W i m σ H ->
   ((Itr lo n).stop i H/\E.nx σ H) ∨ ((Itr lo n).go i H/\∃ N:L2.St->Hp->Prop,(∀ σ' H',N σ' H'->∃ m',m' < m/\W (i + 1) m' σ' H')/\∀ x H',(Itr lo n).yld i H x H'->aCE K g x σ H' fun σ2 H2=>aEf K tb { E with nx:=N,ct:=N,bk:=E.nx } σ2 H2):=by
 obtain ⟨Pv,p0,step,done⟩:=h
 refine ⟨fun i m σ' H'=>∃ ρ' M',hJ K H' ρ' σ'/\cN K M' H'/\Ext H H'/\m = n - i/\i<=n/\Pv i ρ' M',⟨n,ρ,M,re,hm,.refl H,rfl,Nat.zero_le _,p0⟩,?_⟩
 rintro i m σ1 H1 ⟨ρ1,M1,re1,hm1,e1,rfl,hi,w1⟩
 by_cases hlt:i < n
 ·refine .inr ⟨hlt,fun σ' H'=>∃ ρ' M',hJ K H' ρ' σ'/\cN K M' H'/\Ext H H'/\Pv (i + 1) ρ' M',fun σ' H' ⟨ρ',M',a,b,c,d⟩=>⟨n - (i + 1),by omega,ρ',M',a,b,c,rfl,hlt,d⟩,fun x H' y=>?_⟩
  obtain ⟨rfl,rfl⟩:=y
  refine ⟨_,ρ1,M1,_,bL,re1,hm1,step i ρ1 M1 hlt w1,fun σ2 H2 ⟨ρ2,M2,re2,hm2,e2,q2⟩=>⟨ρ2,M2,_,re2,hm2,q2,?_⟩⟩
  have ex:=e1.trans e2
  exact ⟨fun σ' H' ⟨ρ',M',a,b,c,d⟩=>⟨ρ',M',a,b,ex.trans c,d⟩,fun v H' z=>k.rt v H' (z.back (ex0.trans ex)),fun σ' H' z=>k.nx σ' H' (z.back (ex0.trans ex)),fun σ' H' ⟨ρ',M',a,b,c,d⟩=>⟨ρ',M',a,b,ex.trans c,d⟩⟩
 ·have e:i = n:=by omega
  subst e
  exact .inl ⟨Nat.le_refl _,k.nx σ1 H1 ⟨ρ1,M1,re1,hm1,ex0.trans e1,done ρ1 M1 w1⟩⟩
end
end Dd
namespace Dd
open PySem PySem.Spec PyProof.Rows L2
section
variable {X:Cx} {pos:Pos} {iter tg:Expr} {body:List Stmt} {tl:DE} {g:DG} {tb:DS} {ta:DA}
theorem aCV (hp:PassesOwn (model X.prog X.w) X.A X.env X.xe) (hc:X.calm = true) (hi:PDE X iter tl) (hg:PDG X tg g) (hb:lJ X body tb) (hs:∀ x,foldedSetIterable iter X.env x = pure x:=by intro _;rfl):PDS X (.For tg iter body [] pos) (aBQ tl g tb) :=
 kM (aCv hp hc (aEE hi) hg hb hs) fun E σ H ⟨ρ,M,Dn,re,hm,q,k⟩=>⟨ρ,M,_,re,hm,q,fun v H1 ⟨d,M1,rd,hm1,ex,q1⟩=>by
  cases d with
  | tup ds =>
   obtain ⟨a,xs,rfl,sq,rs⟩:=cA rd
   refine ⟨a,rfl,⟨xs,sq⟩,aFQ ex (re.ext ex) hm1 k q1 fun H' e' M' hm' _=>⟨xs,rs.ext e',fun i hi=>⟨xs,mQ e' sq,hi⟩,fun i hi=>⟨xs,xs[i],mQ e' sq,by simp [hi]⟩,fun i x H2 y=>⟨y.1,y.2 xs (mQ e' sq)⟩⟩⟩
  | _=>exact q1.elim⟩
theorem aDg (hp:PassesOwn (model X.prog X.w) X.A X.env X.xe) (hc:X.calm = true) (hi:PDE X iter tl) (hg:PDG X tg g) (hb:lJ X body tb) (hs:∀ x,foldedSetIterable iter X.env x = pure x:=by intro _;rfl):PDS X (.For tg iter body [] pos) (aBV tl g tb) :=
 kM (aCv hp hc (aCX hi) hg hb hs) fun E σ H ⟨ρ,M,Dn,re,hm,q,k⟩=>⟨ρ,M,_,re,hm,q,fun v H1 ⟨d,M1,rd,hm1,ex,q1⟩=>by
  cases d with
  | fz ds =>
   obtain ⟨a,xs,rfl,sq,rs⟩:=pC rd
   exact ⟨a,rfl,⟨xs,sq.sq⟩,aFQ ex (re.ext ex) hm1 k q1 fun H' e' M' hm' _=>⟨xs,rs.ext e',fun i hi=>⟨xs,(nN e' sq).sq,hi⟩,fun i hi=>⟨xs,xs[i],(nN e' sq).sq,by simp [hi]⟩,fun i x H2 y=>⟨y.1,y.2 xs (nN e' sq).sq⟩⟩⟩
  | ref a =>
   obtain ⟨ds,ha,q1⟩:=q1
   obtain rfl:=bK rd
   obtain ⟨xs,hx,rs⟩:=hm1.l a ds ha
   refine ⟨a,rfl,⟨xs,.of hx⟩,aFQ ex (re.ext ex) hm1 k q1 fun H' e' M' hm' hat=>?_⟩
   obtain ⟨ys,hy,rs'⟩:=hm'.l a ds (hat a rfl)
   exact ⟨ys,rs',fun i hi=>⟨ys,.of hy,hi⟩,fun i hi=>⟨ys,ys[i],.of hy,by simp [hi]⟩,fun i x H2 y=>⟨y.1,y.2 ys (.of hy)⟩⟩
  | _=>exact q1.elim⟩
theorem aG1 {a:Expr} {p pos':Pos} (hp:PassesOwn (model X.prog X.w) X.A X.env X.xe) (hc:X.calm = true) (hmg:X.mg "range" = none) (ha:PDA X [a] ta) (hg:PDG X tg g) (hb:lJ X body tb) (hgl:Gl X "range":=by rfl) (hse:starEach [a] X.env = [(false,eval a X.env)]:=by rfl)
  (hs:∀ x,foldedSetIterable (.Call (.Name "range" p) [a] [] pos') X.env x = pure x:=by intro _;rfl):PDS X (.For tg (.Call (.Name "range" p) [a] [] pos') body [] pos) (aEr ta g tb) :=
 kM (aCv hp hc (aDE hgl hmg ha hse) hg hb hs) fun E σ H ⟨ρ,M,Dn,re,hm,q,k⟩=>⟨ρ,M,_,re,hm,q,fun vs H1 ⟨ds,M1,rs,hm1,ex,q1⟩=>by
  rcases ds with _ | ⟨d,_ | ⟨d2,r⟩⟩
  ·exact q1.elim
  ·cases d with
   | int j =>
    obtain ⟨⟨j1,j2⟩,q1⟩:=q1
    obtain ⟨v1,r1,rfl,rv1,rr1⟩:=aX rs
    obtain rfl:=bU rr1
    obtain rfl:=aU rv1
    exact ⟨j,rfl,j1,j2,aKt ex (re.ext ex) hm1 k q1⟩
   | _=>exact q1.elim
  ·cases d<;>exact q1.elim⟩
end
mutual
noncomputable def eqD:D->D->Bool
 | .tup xs,.tup ys=>mC xs ys
 | .non,.non=>true
 | .bl a,.bl b=>a == b
 | .bl a,.int b=>(if a then 1 else 0) == b
 | .int a,.bl b=>a == (if b then 1 else 0)
 | .int a,.int b=>a == b
 | .str a,.str b=>a == b
 | _,_=>false
noncomputable def mC:List D->List D->Bool
 | [],[]=>true
 | x :: xs,y :: ys=>eqD x y && mC xs ys
 | _,_=>false
end
noncomputable def aW:Nat->D->Bool
 | _,.ref _=>false
 | _,.fz _=>false
 | 0,.tup _=>false
 | n + 1,.tup ds=>ds.all (aW n)
 | _,_=>true
noncomputable def vE:List D->List D->Nat->Bool
 | x :: _,y :: _,0=>eqD x y
 | _ :: xs,_ :: ys,j + 1=>vE xs ys j
 | _,_,_=>true
theorem wX (n:Nat) (e:Nat->Bool):(List.range (n + 1)).all e = (e 0 && (List.range n).all fun j=>e (j + 1)):=by
 rw [List.range_succ_eq_map,List.all_cons,List.all_map]
 rfl
theorem kF:∀ (xs ys:List D),mC xs ys = ((List.range (min xs.length ys.length)).all (vE xs ys) && xs.length == ys.length)
 | [],[]=>by simp [mC]
 | [],_ :: _=>by simp [mC]
 | _ :: _,[]=>by simp [mC]
 | x :: xs,y :: ys=>by
  have ih:=kF xs ys
  have e1:min (x :: xs).length (y :: ys).length = min xs.length ys.length + 1:=by simp only [List.length_cons];omega
  have e2:((x :: xs).length == (y :: ys).length) = (xs.length == ys.length):=by simp
  rw [e1,e2,wX]
  show (eqD x y && mC xs ys) = ((eqD x y && (List.range (min xs.length ys.length)).all fun j=>vE xs ys j) && xs.length == ys.length)
  rw [ih,Bool.and_assoc]
section
variable {X:Cx} {pins:List (Addr × Obj)} {σ:L2.St} {H:Hp} {s:Shared}
theorem zZ {n:Nat} {d:D} (p:aW n d = true) (h:∀ xs,d ≠ .tup xs):aW 0 d = true:=by
 cases d with
 | tup xs=>exact absurd rfl (h xs)
 | ref b=>cases n<;>exact absurd p Bool.false_ne_true
 | fz b=>cases n<;>exact absurd p Bool.false_ne_true
 | _=>rfl
theorem aB7 {d d':D} {v:V} (p:aW 0 d = true) (p':aW 0 d' = true) (r:Rep X.K H d v) (r':Rep X.K H d' v):eqD d d' = true:=by
 cases d<;>cases d'<;>first
  | (exact absurd p Bool.false_ne_true)
  | (exact absurd p' Bool.false_ne_true)
  | (unfold Rep at r r';subst r;cases r'<;>simp [eqD])
theorem aBD {d:D} {a:Addr} (p:aW 0 d = true) (r:Rep X.K H d (.ref a)):False:=by
 cases d<;>first
  | (exact absurd p Bool.false_ne_true)
  | (unfold Rep at r;cases r)
theorem aBK {n:Nat} (ih:∀ {d d':D} {v:V},aW n d = true->aW n d' = true->Rep X.K H d v->Rep X.K H d' v->eqD d d' = true) :
  ∀ {xs ys:List D} {us:List V},xs.all (aW n) = true->ys.all (aW n) = true->bR X.K H xs us->bR X.K H ys us->mC xs ys = true
 | [],[],_,_,_,_,_=>by simp [mC]
 | [],_ :: _,_,_,_,r,r'=>by
  rw [bU r] at r'
  obtain ⟨_,_,z,_⟩:=aX r'
  cases z
 | _ :: _,[],_,_,_,r,r'=>by
  rw [bU r'] at r
  obtain ⟨_,_,z,_⟩:=aX r
  cases z
 | x :: xs,y :: ys,_,p1,p2,r,r'=>by
  obtain ⟨v0,r0,rfl,h1,h2⟩:=aX r
  obtain ⟨v0',r0',e0,h1',h2'⟩:=aX r'
  cases e0
  rw [List.all_cons,Bool.and_eq_true] at p1 p2
  show (eqD x y && mC xs ys) = true
  rw [ih p1.1 p2.1 h1 h1',aBK ih p1.2 p2.2 h2 h2']
  rfl
theorem aGH (I:Inv X pins σ H s):∀ (n:Nat) {d d':D} {v:V},aW n d = true->aW n d' = true->Rep X.K H d v->Rep X.K H d' v->eqD d d' = true:=by
 intro n
 induction n with
 | zero=>intro d d' v p p' r r';exact aB7 p p' r r'
 | succ n ih =>
  intro d d' v p p' r r'
  by_cases h1:∃ xs,d = .tup xs
  ·obtain ⟨xs,rfl⟩:=h1
   obtain ⟨a,us,rfl,sq,rs⟩:=cA r
   by_cases h2:∃ ys,d' = .tup ys
   ·obtain ⟨ys,rfl⟩:=h2
    obtain ⟨a',us',e1',sq',rs'⟩:=cA r'
    cases e1'
    obtain rfl:=I.tuple_inj sq sq'
    exact aBK ih p p' rs rs'
   ·exact (aBD (zZ p' fun xs e=>h2 ⟨xs,e⟩) r').elim
  ·have p0:=zZ p fun xs e=>h1 ⟨xs,e⟩
   by_cases h2:∃ ys,d' = .tup ys
   ·obtain ⟨ys,rfl⟩:=h2
    obtain ⟨a',us',rfl,sq',rs'⟩:=cA r'
    exact (aBD p0 r).elim
   ·exact aB7 p0 (zZ p' fun xs e=>h2 ⟨xs,e⟩) r r'
theorem kN (I:Inv X pins σ H s) {a:Addr} {xs:List V} (sq:SqT X.K H a xs):∃ its:List Value,cD xs its/\s.heap.IsTuple a its.toArray:=let ⟨its,r,p,_⟩:=I.tuple sq;⟨its,r,p⟩
theorem vW {d:D} {v:V} {n:Nat} (h:Rep X.K H d v) (p:aW 0 d = true):aEw v = true:=by
 cases d with
 | non=>unfold Rep at h;subst h;rfl
 | bl b=>unfold Rep at h;subst h;rfl
 | int b=>unfold Rep at h;subst h;rfl
 | str b=>unfold Rep at h;subst h;rfl
 | tup b=>exact absurd p Bool.false_ne_true
 | ref b=>exact absurd p Bool.false_ne_true
 | fz b=>exact absurd p Bool.false_ne_true
theorem sQ {A:Around} {n:Nat} (ih:∀ {d d':D} {v v':V} {u u':Value},aW n d = true->aW n d' = true->Rep X.K H d v->Rep X.K H d' v'->cM v u->cM v' u'->SeqAt.EqAt A s u u' (eqD d d')) :
  ∀ {xs ys:List D} {us us':List V} {its its':List Value},xs.all (aW n) = true->ys.all (aW n) = true->bR X.K H xs us->bR X.K H ys us'->cD us its->cD us' its'->∀ j (h1:j < its.length) (h2:j < its'.length),SeqAt.EqAt A s its[j] its'[j] (vE xs ys j)
 | [],ys,us,us',its,its',_,_,r1,_,v1,_,j,h1,_=>by rw [bU r1] at v1;cases v1;exact absurd h1 (Nat.not_lt_zero _)
 | _ :: _,[],us,us',its,its',_,_,_,r2,_,v2,j,_,h2=>by rw [bU r2] at v2;cases v2;exact absurd h2 (Nat.not_lt_zero _)
 | x :: xs,y :: ys,us,us',its,its',p1,p2,r1,r2,v1,v2,j,h1,h2=>by
  obtain ⟨a,ra,rfl,ha,hra⟩:=aX r1
  obtain ⟨b,rb,rfl,hb,hrb⟩:=aX r2
  rw [List.all_cons,Bool.and_eq_true] at p1 p2
  cases v1 with
  | cons q1 w1 =>
   cases v2 with
   | cons q2 w2 =>
    cases j with
    | zero=>exact ih p1.1 p2.1 ha hb q1 q2
    | succ j=>exact sQ ih p1.2 p2.2 hra hrb w1 w2 j (Nat.lt_of_succ_lt_succ h1) (Nat.lt_of_succ_lt_succ h2)
theorem aEy {d d':D} {v v':V} (p:aW 0 d = true) (p':aW 0 d' = true) (r:Rep X.K H d v) (r':Rep X.K H d' v'):eqV v v' = eqD d d':=by
 cases d<;>cases d'<;>first
  | (exact absurd p Bool.false_ne_true)
  | (exact absurd p' Bool.false_ne_true)
  | (unfold Rep at r r';subst r;subst r';simp [eqD,eqV])
theorem aHD (I:Inv X pins σ H s):∀ (n:Nat) {A:Around} {d d':D} {v v':V} {u u':Value},A.units + n < cLine->aW n d = true->aW n d' = true->Rep X.K H d v->Rep X.K H d' v'->cM v u->cM v' u'->SeqAt.EqAt A s u u' (eqD d d'):=by
 intro n
 induction n with
 | zero =>
  intro A d d' v v' u u' hu p p' r r' q q'
  have:=aFJ (A:=A) (s:=s) q q' (vW (n:=0) r p) (vW (n:=0) r' p')
  rw [aEy p p' r r'] at this
  exact this
 | succ n ih =>
  intro A d d' v v' u u' hu p p' r r' q q'
  by_cases h1:∃ xs,d = .tup xs
  ·obtain ⟨xs,rfl⟩:=h1
   obtain ⟨a,us,rfl,sq,rs⟩:=cA r
   obtain ⟨its,rv,ht⟩:=kN I sq
   cases q
   by_cases h2:∃ ys,d' = .tup ys
   ·obtain ⟨ys,rfl⟩:=h2
    obtain ⟨a',us',rfl,sq',rs'⟩:=cA r'
    obtain ⟨its',rv',ht'⟩:=kN I sq'
    cases q'
    by_cases hll:a = a'
    ·subst hll
     rw [aGH I (n + 1) p p' r r']
     exact SeqAt.EqAt.same _
    ·have e1:=rs.length
     have e2:=rv.length
     have e3:=rs'.length
     have e4:=rv'.length
     show SeqAt.EqAt A s (.ref a) (.ref a') (mC xs ys)
     rw [kF,show xs.length = its.toArray.size by rw [List.size_toArray];omega,show ys.length = its'.toArray.size by rw [List.size_toArray];omega]
     refine SeqAt.EqAt.of_refs hll (SeqAt.RcAt.tuples ht ht' (by omega) fun j j1 j2=>?_)
     have hu':A.in1.units + n < cLine:=by show A.units + 1 + n < cLine;omega
     have:=sQ (A:=A.in1) (s:=s) (fun {d d' v v' u u'} p p' r r' q q'=>ih hu' p p' r r' q q') p p' rs rs' rv rv' j (by simpa using j1) (by simpa using j2)
     simpa using this
   ·have p0:=zZ p' (fun xs e=>h2 ⟨xs,e⟩)
    cases d' with
    | non=>rw [eC r'] at q';cases q';exact SeqAt.EqAt.tuple_none ht (by omega)
    | bl b=>rw [cH r'] at q';cases q';exact SeqAt.EqAt.tuple_bool b ht (by omega)
    | int b=>rw [aU r'] at q';obtain ⟨t,rfl⟩:=q';exact SeqAt.EqAt.tuple_int b t ht (by omega)
    | str b=>rw [cP r'] at q';obtain ⟨t,rfl⟩:=q';exact SeqAt.EqAt.tuple_str b t ht (by omega)
    | tup b=>exact absurd p0 Bool.false_ne_true
    | ref b=>exact absurd p0 Bool.false_ne_true
    | fz b=>exact absurd p0 Bool.false_ne_true
  ·have p0:=zZ p (fun xs e=>h1 ⟨xs,e⟩)
   by_cases h2:∃ ys,d' = .tup ys
   ·obtain ⟨ys,rfl⟩:=h2
    obtain ⟨a',us',rfl,sq',rs'⟩:=cA r'
    obtain ⟨its',rv',ht'⟩:=kN I sq'
    cases q'
    cases d with
    | non=>rw [eC r] at q;cases q;exact SeqAt.EqAt.none_tuple ht' (by omega)
    | bl b=>rw [cH r] at q;cases q;exact SeqAt.EqAt.bool_tuple b ht' (by omega)
    | int b=>rw [aU r] at q;obtain ⟨t,rfl⟩:=q;exact SeqAt.EqAt.int_tuple b t ht' (by omega)
    | str b=>rw [cP r] at q;obtain ⟨t,rfl⟩:=q;exact SeqAt.EqAt.str_tuple b t ht' (by omega)
    | tup b=>exact absurd p0 Bool.false_ne_true
    | ref b=>exact absurd p0 Bool.false_ne_true
    | fz b=>exact absurd p0 Bool.false_ne_true
   ·have p0':=zZ p' (fun xs e=>h2 ⟨xs,e⟩)
    have:=aFJ (A:=A) (s:=s) q q' (vW (n:=0) r p0) (vW (n:=0) r' p0')
    rw [aEy p0 p0' r r'] at this
    exact this
theorem aL1 (I:Inv X pins σ H s) {A:Around} (hu:A.units + 60 < cLine) {d d':D} {v v':V} {u u':Value} (p:aW 60 d = true) (p':aW 60 d' = true) (r:Rep X.K H d v) (r':Rep X.K H d' v') (q:cM v u) (q':cM v' u') :
  SeqAt.RcAt A s u u' (eqD d d')/\SeqAt.RcNeAt A s u u' (!eqD d d'):=by
 have hu0:A.units < cLine:=by omega
 cases d with
 | ref b=>exact absurd p Bool.false_ne_true
 | fz b=>exact absurd p Bool.false_ne_true
 | tup xs =>
  obtain ⟨a,us,rfl,sq,rs⟩:=cA r
  obtain ⟨its,rv,ht⟩:=kN I sq
  cases q
  cases d' with
  | ref b=>exact absurd p' Bool.false_ne_true
  | fz b=>exact absurd p' Bool.false_ne_true
  | non=>rw [eC r'] at q';cases q';exact ⟨SeqAt.RcAt.tuple_none ht hu0,SeqAt.RcNeAt.tuple_none ht hu0⟩
  | bl b=>rw [cH r'] at q';cases q';exact ⟨SeqAt.RcAt.tuple_bool b ht hu0,SeqAt.RcNeAt.tuple_bool b ht hu0⟩
  | int b=>rw [aU r'] at q';obtain ⟨t,rfl⟩:=q';exact ⟨SeqAt.RcAt.tuple_int b t ht hu0,SeqAt.RcNeAt.tuple_int b t ht hu0⟩
  | str b=>rw [cP r'] at q';obtain ⟨t,rfl⟩:=q';exact ⟨SeqAt.RcAt.tuple_str b t ht hu0,SeqAt.RcNeAt.tuple_str b t ht hu0⟩
  | tup ys =>
   obtain ⟨a',us',rfl,sq',rs'⟩:=cA r'
   obtain ⟨its',rv',ht'⟩:=kN I sq'
   cases q'
   have e1:=rs.length
   have e2:=rv.length
   have e3:=rs'.length
   have e4:=rv'.length
   have hit:∀ j (h1:j < its.toArray.size) (h2:j < its'.toArray.size),SeqAt.EqAt A.in1 s its.toArray[j] its'.toArray[j] (vE xs ys j):=fun j j1 j2=>by
    have hu':A.in1.units + 59 < cLine:=by show A.units + 1 + 59 < cLine;omega
    have:=sQ (A:=A.in1) (s:=s) (fun {d d' v v' u u'} p p' r r' q q'=>aHD I 59 hu' p p' r r' q q') p p' rs rs' rv rv' j (by simpa using j1) (by simpa using j2)
    simpa using this
   have hz:eqD (.tup xs) (.tup ys) = ((List.range (min its.toArray.size its'.toArray.size)).all (vE xs ys) && its.toArray.size == its'.toArray.size):=by
    show mC xs ys = _
    rw [kF,show xs.length = its.toArray.size by rw [List.size_toArray];omega,show ys.length = its'.toArray.size by rw [List.size_toArray];omega]
   rw [hz]
   exact ⟨SeqAt.RcAt.tuples ht ht' hu0 hit,SeqAt.RcNeAt.tuples ht ht' hu0 hit⟩
 | non =>
  rw [eC r] at q;cases q
  cases d' with
  | ref b=>exact absurd p' Bool.false_ne_true
  | fz b=>exact absurd p' Bool.false_ne_true
  | non=>rw [eC r'] at q';cases q';exact ⟨SeqAt.RcAt.none_none,SeqAt.RcNeAt.none_none⟩
  | bl b=>rw [cH r'] at q';cases q';exact ⟨SeqAt.RcAt.none_bool b,SeqAt.RcNeAt.none_bool b⟩
  | int b=>rw [aU r'] at q';obtain ⟨t,rfl⟩:=q';exact ⟨SeqAt.RcAt.none_int b t,SeqAt.RcNeAt.none_int b t⟩
  | str b=>rw [cP r'] at q';obtain ⟨t,rfl⟩:=q';exact ⟨SeqAt.RcAt.none_str b t,SeqAt.RcNeAt.none_str b t⟩
  | tup ys =>
   obtain ⟨a',us',rfl,sq',rs'⟩:=cA r'
   obtain ⟨its',rv',ht'⟩:=kN I sq'
   cases q'
   exact ⟨SeqAt.RcAt.none_tuple ht' hu0,SeqAt.RcNeAt.none_tuple ht' hu0⟩
 | bl z =>
  rw [cH r] at q;cases q
  cases d' with
  | ref b=>exact absurd p' Bool.false_ne_true
  | fz b=>exact absurd p' Bool.false_ne_true
  | non=>rw [eC r'] at q';cases q';exact ⟨SeqAt.RcAt.bool_none z,SeqAt.RcNeAt.bool_none z⟩
  | bl b=>rw [cH r'] at q';cases q';exact ⟨SeqAt.RcAt.bool_bool z b,SeqAt.RcNeAt.bool_bool z b⟩
  | int b=>rw [aU r'] at q';obtain ⟨t,rfl⟩:=q';exact ⟨SeqAt.RcAt.bool_int z b t,SeqAt.RcNeAt.bool_int z b t⟩
  | str b=>rw [cP r'] at q';obtain ⟨t,rfl⟩:=q';exact ⟨SeqAt.RcAt.bool_str z b t,SeqAt.RcNeAt.bool_str z b t⟩
  | tup ys =>
   obtain ⟨a',us',rfl,sq',rs'⟩:=cA r'
   obtain ⟨its',rv',ht'⟩:=kN I sq'
   cases q'
   exact ⟨SeqAt.RcAt.bool_tuple z ht' hu0,SeqAt.RcNeAt.bool_tuple z ht' hu0⟩
 | int z =>
  rw [aU r] at q;obtain ⟨tz,rfl⟩:=q
  cases d' with
  | ref b=>exact absurd p' Bool.false_ne_true
  | fz b=>exact absurd p' Bool.false_ne_true
  | non=>rw [eC r'] at q';cases q';exact ⟨SeqAt.RcAt.int_none z tz,SeqAt.RcNeAt.int_none z tz⟩
  | bl b=>rw [cH r'] at q';cases q';exact ⟨SeqAt.RcAt.int_bool z tz b,SeqAt.RcNeAt.int_bool z tz b⟩
  | int b=>rw [aU r'] at q';obtain ⟨t,rfl⟩:=q';exact ⟨SeqAt.RcAt.int_int z tz b t,SeqAt.RcNeAt.int_int z tz b t⟩
  | str b=>rw [cP r'] at q';obtain ⟨t,rfl⟩:=q';exact ⟨SeqAt.RcAt.int_str z tz b t,SeqAt.RcNeAt.int_str z tz b t⟩
  | tup ys =>
   obtain ⟨a',us',rfl,sq',rs'⟩:=cA r'
   obtain ⟨its',rv',ht'⟩:=kN I sq'
   cases q'
   exact ⟨SeqAt.RcAt.int_tuple z tz ht' hu0,SeqAt.RcNeAt.int_tuple z tz ht' hu0⟩
 | str z =>
  rw [cP r] at q;obtain ⟨tz,rfl⟩:=q
  cases d' with
  | ref b=>exact absurd p' Bool.false_ne_true
  | fz b=>exact absurd p' Bool.false_ne_true
  | non=>rw [eC r'] at q';cases q';exact ⟨SeqAt.RcAt.str_none z tz,SeqAt.RcNeAt.str_none z tz⟩
  | bl b=>rw [cH r'] at q';cases q';exact ⟨SeqAt.RcAt.str_bool z tz b,SeqAt.RcNeAt.str_bool z tz b⟩
  | int b=>rw [aU r'] at q';obtain ⟨t,rfl⟩:=q';exact ⟨SeqAt.RcAt.str_int z tz b t,SeqAt.RcNeAt.str_int z tz b t⟩
  | str b=>rw [cP r'] at q';obtain ⟨t,rfl⟩:=q';exact ⟨SeqAt.RcAt.str_str z tz b t,SeqAt.RcNeAt.str_str z tz b t⟩
  | tup ys =>
   obtain ⟨a',us',rfl,sq',rs'⟩:=cA r'
   obtain ⟨its',rv',ht'⟩:=kN I sq'
   cases q'
   exact ⟨SeqAt.RcAt.str_tuple z tz ht' hu0,SeqAt.RcNeAt.str_tuple z tz ht' hu0⟩
end
end Dd
namespace Dd
open PySem PySem.Spec PyProof.Rows L2
section
variable {X:Cx} {a b e o:Expr} {es:List Expr} {ta tb te to:DE} {t:DA} {pos:Pos}
noncomputable def d2I (C:Int->Int->Prop) (g:Int->Int->D):D2:=fun x y M Q=>match x,y with
 | .int i,.int j=>C i j/\Q (g i j) M
 | _,_=>False
noncomputable def d2J (g:Int->Int->D):D2:=fun x y M Q=>match x,y with
 | .int i,.int j=>Q (g i j) M
 | _,_=>False
theorem aGJ {f:Value->Value->Sem Value} {C:Int->Int->Prop} {g:Int->Int->D} {g':Int->Int->V} (h:OpR X f (rI C g')) (hg:∀ H i j,Rep X.K H (g i j) (g' i j)):OpD X f (d2I C g) :=
 OpD.of h fun x y H M dx dy Q rx ry hm q=>by
  cases dx with
  | int i =>
   cases dy with
   | int j=>exact ⟨i,j,aU rx,aU ry,q.1,_,M,hg H i j,hm,.refl H,q.2⟩
   | _=>exact q.elim
  | _=>exact q.elim
theorem aFO {f:Value->Value->Sem Value} {g:Int->Int->D} {g':Int->Int->V} (h:OpR X f (rI0 g')) (hg:∀ H i j,Rep X.K H (g i j) (g' i j)):OpD X f (d2J g) :=
 OpD.of h fun x y H M dx dy Q rx ry hm q=>by
  cases dx with
  | int i =>
   cases dy with
   | int j=>exact ⟨i,j,aU rx,aU ry,_,M,hg H i j,hm,.refl H,q⟩
   | _=>exact q.elim
  | _=>exact q.elim
theorem lO:OpD X (binaryOp .Sub) (d2J fun i j=>.int (i - j)):=aFO aIW fun _ _ _=>bL
theorem aGX:OpR X (binaryOp .Mult) (rI IntMulOk fun i j=>.int (i * j)):=opI fun _ _ _ _ _ _ _ hc q=>mul_int q hc
theorem bD:OpD X (binaryOp .Mult) (d2I IntMulOk fun i j=>.int (i * j)):=aGJ aGX fun _ _ _=>bL
noncomputable def CFd (i j:Int):Prop:=j ≠ 0/\j.natAbs.log2 < 9000
theorem aIo:OpR X (binaryOp .FloorDiv) (rI CFd fun i j=>.int (i.fdiv j)):=opI fun _ _ _ _ _ _ _ hc q=>floordiv_int hc.1 q (.inl (PyProof.noPylong_of_log2 hc.2))
theorem dI:OpD X (binaryOp .FloorDiv) (d2I CFd fun i j=>.int (i.fdiv j)):=aGJ aIo fun _ _ _=>bL
theorem cW:OpD X (binaryOp .Mod) (d2I (fun _ j=>j ≠ 0) fun i j=>.int (i.fmod j)):=aGJ aGt fun _ _ _=>bL
theorem tO:OpD X (binaryOp .Pow) (d2I aLu fun i j=>.int (i ^ j.toNat)):=aGJ aIv fun _ _ _=>bL
theorem wW:OpD X (compareOp .Lt) (d2J fun i j=>.bl (decide (i < j))):=aFO aK5 fun _ _ _=>eU
theorem sL:OpD X (compareOp .LtE) (d2J fun i j=>.bl (decide (i<=j))):=aFO aLj fun _ _ _=>eU
theorem gE:OpD X (compareOp .Gt) (d2J fun i j=>.bl (decide (j < i))):=aFO aKB fun _ _ _=>eU
theorem aKM:OpD X (compareOp .GtE) (d2J fun i j=>.bl (decide (j<=i))):=aFO aKS fun _ _ _=>eU
noncomputable def aLx:D2:=fun x y M Q=>match x,y with
 | .int i,.int j=>Q (.int (i + j)) M
 | .ref a,.ref b=>∃ xs ys,M a = some xs/\M b = some ys/\xs.length + ys.length<=1000/\∀ p:Addr,M p = none->Q (.ref p) (bJ M p (xs ++ ys))
 | .fz xs,.ref b=>∃ ys,M b = some ys/\xs.length + ys.length<=1000/\∀ p:Addr,M p = none->Q (.ref p) (bJ M p (xs ++ ys))
 | .tup xs,.tup ys=>xs ≠ []/\ys ≠ []/\xs.length + ys.length<=1000/\Q (.tup (xs ++ ys)) M
 | _,_=>False
theorem aFP {pins:List (Addr × Obj)} {σ:L2.St} {H:Hp} {s:Shared} (I:Inv X pins σ H s) {a:Addr} {xs:List V} (h:SqX X.K H a xs):xs.length<=sizeLine/\∃ (its:List Value) (n:Nat),cD xs its/\s.heap.get? a = some { cls:=.type "list",data:=.seq its.toArray n }:=by
 rcases h with ⟨o,h⟩ | ⟨its,n,hk,hz,r⟩
 ·obtain ⟨_,z,its,n,r,e⟩:=I.hok a _ h
  exact ⟨z,its,n,r,e⟩
 ·have e:=r.length
  simp only [Array.length_toList] at e
  exact ⟨by omega,its.toList,n,r,by simpa using I.kIn a _ hk⟩
theorem cF:OpD X (binaryOp .Add) aLx:=by
 intro pins s σ H x y v u Q I rx ry ⟨dx,dy,M,Q',r1,r2,hm,q,k⟩
 cases dx with
 | int i =>
  cases dy with
  | int j=>exact aI3 pins s σ H x y v u Q I rx ry ⟨i,j,aU r1,aU r2,k _ H ⟨_,M,bL,hm,.refl H,q⟩⟩
  | _=>exact q.elim
 | ref a =>
  cases dy with
  | ref b =>
   obtain ⟨xs,ys,ha,hb,hl,q⟩:=q
   obtain ⟨us,hu,ru⟩:=hm.l a xs ha
   obtain ⟨ws,hw,rw'⟩:=hm.l b ys hb
   refine aKl pins s σ H x y v u Q I rx ry ⟨a,b,us,ws,bK r1,bK r2,hu,hw,?_,fun p hp=>k _ _ ⟨.ref p,_,jU,hm.lnew hp (ru.append rw'),Ext.new hp _,q p (hm.fresh hp)⟩⟩
   rw [<- ru.length,<- rw'.length];exact Nat.le_of_lt (fK hl)
  | _=>exact q.elim
 | fz xs =>
  cases dy with
  | ref b =>
   obtain ⟨ys,hb,hl,q⟩:=q
   obtain ⟨a,us,rfl,sq,ru⟩:=pC r1
   obtain ⟨ws,hw,rw'⟩:=hm.l b ys hb
   obtain rfl:=bK r2
   cases rx
   cases ry
   obtain ⟨z,its,n,r,e⟩:=aFP I sq
   obtain ⟨z2,its2,n2,r3,hl2,e2⟩:=I.lstM hw
   have l1:=r.length
   have l2:=r3.length
   have l3:=ru.length
   have l4:=rw'.length
   have hz:=fK hl
   refine PySem.P.add_list e e2 ?_ (by rw [List.size_toArray,List.size_toArray];omega)
   have ea:its.toArray ++ its2.toArray = (its ++ its2).toArray:=by simp
   rw [ea]
   refine ⟨.ref _,_,I.lnew (t':=s.toks) (r.append r3) (by rw [List.length_append];omega),rfl,k _ _ ⟨.ref _,_,jU,hm.lnew I.fresh (ru.append rw'),Ext.new I.fresh _,q _ (hm.fresh I.fresh)⟩⟩
  | _=>exact q.elim
 | tup xs =>
  cases dy with
  | tup ys =>
   obtain ⟨h1,h2,hl,q⟩:=q
   obtain ⟨a,us,rfl,sq,ru⟩:=cA r1
   obtain ⟨b,ws,rfl,sq2,rw'⟩:=cA r2
   have l3:=ru.length
   have l4:=rw'.length
   refine aC6 pins s σ H _ _ v u Q I rx ry ?_
   have n1:us ≠ []:=fun z=>by rw [z] at l3;exact h1 (List.length_eq_zero_iff.mp l3)
   have n2:ws ≠ []:=fun z=>by rw [z] at l4;exact h2 (List.length_eq_zero_iff.mp l4)
   exact ⟨a,b,us,ws,rfl,rfl,sq,sq2,n1,by rw [<- l3,<- l4];exact Nat.le_of_lt (fK hl),fun z=>absurd z n2,fun _ p hp=>k _ _ ⟨.tup _,M,cK (.of eN) ((ru.append rw').ext (Ext.new hp _)),hm.new hp _,Ext.new hp _,q⟩⟩
  | _=>exact q.elim
 | _=>exact q.elim
noncomputable def dEq (g:Bool->Bool):D2:=fun x y M Q=>match x,y with
 | .ref a,.ref b=>∃ xs ys,M a = some xs/\M b = some ys/\(a ≠ b)/\xs.all (aW 59) = true/\ys.all (aW 59) = true/\Q (.bl (g (mC xs ys))) M
 | x,y=>aW 60 x = true/\aW 60 y = true/\Q (.bl (g (eqD x y))) M
theorem aE8 {pins:List (Addr × Obj)} {σ:L2.St} {H:Hp} {s:Shared} (I:Inv X pins σ H s) {A:Around} (hu:A.units + 60 < cLine) {a b:Addr} {us ws:List V} {xs ys:List D} (ha:H a = some (.lst us)) (hb:H b = some (.lst ws)) (ru:bR X.K H xs us) (rw':bR X.K H ys ws)
  (p:xs.all (aW 59) = true) (p':ys.all (aW 59) = true):SeqAt.RcAt A s (.ref a) (.ref b) (mC xs ys)/\SeqAt.RcNeAt A s (.ref a) (.ref b) (!mC xs ys):=by
 obtain ⟨z,its,n,r,hl,e⟩:=I.lstM ha
 obtain ⟨z2,its2,n2,r3,hl2,e2⟩:=I.lstM hb
 have i1:s.heap.IsList a its.toArray:=⟨_,e,rfl,_,rfl⟩
 have i2:s.heap.IsList b its2.toArray:=⟨_,e2,rfl,_,rfl⟩
 have l3:=ru.length
 have l4:=rw'.length
 have hu0:A.units < cLine:=by omega
 by_cases hz:its.toArray.size = its2.toArray.size
 ·have hz':=hz
  rw [List.size_toArray,List.size_toArray] at hz'
  have hit:∀ j (h1:j < its.toArray.size) (h2:j < its2.toArray.size),SeqAt.EqAt A.in1 s its.toArray[j] its2.toArray[j] (vE xs ys j):=fun j j1 j2=>by
   have hu':A.in1.units + 59 < cLine:=by show A.units + 1 + 59 < cLine;omega
   have:=sQ (A:=A.in1) (s:=s) (fun {d d' v v' u u'} p p' r r' q q'=>aHD I 59 hu' p p' r r' q q') p p' ru rw' r r3 j (by simpa using j1) (by simpa using j2)
   simpa using this
  have hz2:mC xs ys = (List.range its.toArray.size).all (vE xs ys):=by
   rw [kF,show min xs.length ys.length = its.toArray.size by rw [List.size_toArray];omega,show (xs.length == ys.length) = true by simp;omega,Bool.and_true]
  rw [hz2]
  exact ⟨SeqAt.RcAt.lists i1 i2 hz hu0 hit,SeqAt.RcNeAt.lists i1 i2 hz hu0 hit⟩
 ·have hz':=hz
  rw [List.size_toArray,List.size_toArray] at hz'
  have hz2:mC xs ys = false:=by
   rw [kF,show (xs.length == ys.length) = false by simp;omega,Bool.and_false]
  rw [hz2]
  exact ⟨SeqAt.RcAt.lists_lengths i1 i2 (by simpa using hz) hu0,SeqAt.RcNeAt.lists_lengths i1 i2 (by simpa using hz) hu0⟩
theorem aEK (hu:X.A.units + 60 < cLine):OpD X (compareOp .Eq) (dEq id)/\OpD X (compareOp .NotEq) (dEq not):=by
 have key:∀ {pins:List (Addr × Obj)} {s:Shared} {σ:L2.St} {H:Hp} {x y:V} {v u:Value} {dx dy:D} {M:DM} {Q':DQ} {g:Bool->Bool},Inv X pins σ H s->cM x v->cM y u->Rep X.K H dx x->Rep X.K H dy y->cN X.K M H->dEq g dx dy M Q' ->
   ∃ b,SeqAt.RcAt X.A s v u b/\SeqAt.RcNeAt X.A s v u (!b)/\Q' (.bl (g b)) M:=by
  intro pins s σ H x y v u dx dy M Q' g I rx ry r1 r2 hm q
  have gen:aW 60 dx = true->aW 60 dy = true->Q' (.bl (g (eqD dx dy))) M->∃ b,SeqAt.RcAt X.A s v u b/\SeqAt.RcNeAt X.A s v u (!b)/\Q' (.bl (g b)) M:=fun p p' q=>let ⟨h1,h2⟩:=aL1 I hu p p' r1 r2 rx ry;⟨_,h1,h2,q⟩
  cases dx with
  | ref a =>
   cases dy with
   | ref b =>
    obtain ⟨xs,ys,ha,hb,_,p,p',q⟩:=q
    obtain ⟨us,hu',ru⟩:=hm.l a xs ha
    obtain ⟨ws,hw,rw'⟩:=hm.l b ys hb
    obtain rfl:=bK r1
    obtain rfl:=bK r2
    cases rx
    cases ry
    obtain ⟨h1,h2⟩:=aE8 I hu hu' hw ru rw' p p'
    exact ⟨_,h1,h2,q⟩
   | _=>exact gen q.1 q.2.1 q.2.2
  | _=>exact gen q.1 q.2.1 q.2.2
 refine ⟨fun pins s σ H x y v u Q I rx ry ⟨dx,dy,M,Q',r1,r2,hm,q,k⟩=>?_,fun pins s σ H x y v u Q I rx ry ⟨dx,dy,M,Q',r1,r2,hm,q,k⟩=>?_⟩
 ·obtain ⟨b,h1,_,q⟩:=key I rx ry r1 r2 hm q
  exact h1 X.prog X.w X.xe _ ⟨.bl b,H,I,rfl,k _ H ⟨.bl b,M,eU,hm,.refl H,q⟩⟩
 ·obtain ⟨b,_,h2,q⟩:=key I rx ry r1 r2 hm q
  exact h2 X.prog X.w X.xe _ ⟨.bl (!b),H,I,rfl,k _ H ⟨.bl (!b),M,eU,hm,.refl H,q⟩⟩
theorem bT {k:Nat} (hr:eF k X.A):OpD X (compareOp .Eq) (dEq id):=(aEK (by have:=hr.un;omega)).1
theorem pT {k:Nat} (hr:eF k X.A):OpD X (compareOp .NotEq) (dEq not):=(aEK (by have:=hr.un;omega)).2
noncomputable def aH1 (ta:DE):DE:=fun ρ M Q=>ta ρ M fun x M1=>match x with
 | .int i=>Q (.int (-i)) M1
 | _=>False
theorem aIi (ha:PDE X a ta):PDE X (.UnaryOp .USub a pos) (aH1 ta) :=
 cS (aLL aJ9 ha) fun σ H Q ⟨ρ,M,Q',re,hm,q,k⟩=>⟨ρ,M,_,re,hm,q,fun x H1 ⟨d,M1,rd,hm1,ex,q1⟩=>by
  cases d with
  | int i=>exact ⟨i,aU rd,k _ H1 ⟨_,M1,bL,hm1,ex,q1⟩⟩
  | _=>exact q1.elim⟩
noncomputable def mH:D2:=fun x y M Q=>match x,y with
 | .tup ds,.int i=>match atI ds i with
  | some d=>Q d M
  | none=>False
 | .fz ds,.int i=>match atI ds i with
  | some d=>Q d M
  | none=>False
 | .ref a,.int i=>∃ ds d,M a = some ds/\atI ds i = some d/\Q d M
 | _,_=>False
theorem xY {K:PySem.W.Frag} {H:Hp} {ds:List D} {xs:List V} {i:Int} {d:D} (r:bR K H ds xs) (h:atI ds i = some d):∃ v,atI xs i = some v/\Rep K H d v:=by
 unfold atI at h ⊢
 rw [<- r.length]
 cases e:ixN ds.length i with
 | none=>rw [e] at h;cases h
 | some j =>
  rw [e] at h
  exact r.get h
theorem ixd:IxR X fun x y H Q=>∃ dx dy M Q',Rep X.K H dx x/\Rep X.K H dy y/\cN X.K M H/\mH dx dy M Q'/\∀ v H',LQ X.K H Q' v H'->Q v H':=by
 intro value slice pins s σ H x y v u Q I rx ry ⟨dx,dy,M,Q',r1,r2,hm,q,k⟩ hs
 cases dx with
 | tup ds =>
  cases dy with
  | int i =>
   obtain ⟨a,us,rfl,sq,ru⟩:=cA r1
   obtain rfl:=aU r2
   cases e:atI ds i with
   | none=>exact absurd q (by show ¬ (match atI ds i with | some d=>Q' d M | none=>False);rw [e];exact id)
   | some d =>
    have q':Q' d M:=by
     have z:(match atI ds i with | some d=>Q' d M | none=>False):=q
     rw [e] at z;exact z
    obtain ⟨w,hw,rw'⟩:=xY ru e
    exact aJo value slice pins s σ H _ _ v u Q I rx ry ⟨a,us,i,w,rfl,rfl,sq,hw,k _ H ⟨d,M,rw',hm,.refl H,q'⟩⟩ hs
  | _=>exact q.elim
 | fz ds =>
  cases dy with
  | int i =>
   obtain ⟨a,us,rfl,sq,ru⟩:=pC r1
   obtain rfl:=aU r2
   cases e:atI ds i with
   | none=>exact absurd q (by show ¬ (match atI ds i with | some d=>Q' d M | none=>False);rw [e];exact id)
   | some d =>
    have q':Q' d M:=by
     have z:(match atI ds i with | some d=>Q' d M | none=>False):=q
     rw [e] at z;exact z
    obtain ⟨w,hw,rw'⟩:=xY ru e
    exact aDb value slice pins s σ H _ _ v u Q I rx ry ⟨a,us,i,w,rfl,rfl,sq.sq,hw,k _ H ⟨d,M,rw',hm,.refl H,q'⟩⟩ hs
  | _=>exact q.elim
 | ref a =>
  cases dy with
  | int i =>
   obtain ⟨ds,d,ha,e,q'⟩:=q
   obtain rfl:=bK r1
   obtain rfl:=aU r2
   obtain ⟨us,hu,ru⟩:=hm.l a ds ha
   obtain ⟨w,hw,rw'⟩:=xY ru e
   exact aDb value slice pins s σ H _ _ v u Q I rx ry ⟨a,us,i,w,rfl,rfl,.of hu,hw,k _ H ⟨d,M,rw',hm,.refl H,q'⟩⟩ hs
  | _=>exact q.elim
 | _=>exact q.elim
theorem aKO (ha:PDE X a ta) (hb:PDE X b tb) (hs:tI b:=by exact fun _ _=>rfl):PDE X (.Subscript a b pos) (dOp mH ta tb) :=
 cS (aKT ixd ha hb hs) fun σ H Q h=>aAr (fun _ _ _ _ z=>z) h
noncomputable abbrev DO:=cO->DM->(Option Int->DM->Prop)->Prop
noncomputable def xA (K:PySem.W.Frag) (t:DO):TO:=fun σ H Q=>∃ ρ M Q',hJ K H ρ σ/\cN K M H/\t ρ M Q'/\∀ i H',(∃ M',cN K M' H'/\Ext H H'/\Q' i M')->Q i H'
noncomputable def aJm:DO:=fun _ M Q=>Q none M
noncomputable def dPt (t:DE):DO:=fun ρ M Q=>t ρ M fun x M1=>match x with
 | .int i=>Q (some i) M1
 | _=>False
theorem aGW:PO X none (xA X.K aJm):=fun pins s σ H Q I ⟨ρ,M,Q',re,hm,q,k⟩=>aGE pins s σ H Q I (k none H ⟨M,hm,.refl H,q⟩)
theorem aG5 (h:PDE X e te):PO X (some e) (xA X.K (dPt te)):=fun pins s σ H Q I ⟨ρ,M,Q',re,hm,q,k⟩=>aGj h pins s σ H Q I ⟨ρ,M,_,re,hm,q,fun v H1 ⟨d,M1,rd,hm1,ex,q1⟩=>by
 cases d with
 | int i=>exact ⟨i,aU rd,k (some i) H1 ⟨M1,hm1,ex,q1⟩⟩
 | _=>exact q1.elim⟩
noncomputable def cutD (xs:List D) (lo hi:Option Int):List D:=(xs.drop (HT.sIx xs.length 0 lo)).take (HT.sIx xs.length xs.length hi - HT.sIx xs.length 0 lo)
theorem sN {K:PySem.W.Frag} {H:Hp} {ds:List D} {xs:List V} (r:bR K H ds xs) (lo hi:Option Int):bR K H (cutD ds lo hi) (aBZ xs lo hi):=by
 unfold cutD aBZ
 rw [r.length]
 exact (r.drop _).take _
noncomputable def aLT (x:D) (lo hi:Option Int) (M:DM) (Q:DQ):Prop:=match x with
 | .fz ds=>∀ p:Addr,M p = none->Q (.ref p) (bJ M p (cutD ds lo hi))
 | .ref a=>∃ ds,M a = some ds/\∀ p:Addr,M p = none->Q (.ref p) (bJ M p (cutD ds lo hi))
 | _=>False
noncomputable def dSl (te:DE) (tl th:DO):DE:=fun ρ M Q=>te ρ M fun x M1=>tl ρ M1 fun l M2=>th ρ M2 fun h M3=>aLT x l h M3 Q
variable {lo hi:Option Expr} {tl th:DO} {p2:Pos}
theorem aEs (he:PDE X e te) (hl:PO X lo (xA X.K tl)) (hu:PO X hi (xA X.K th)):PDE X (.Subscript e (.Slice lo hi none p2) pos) (dSl te tl th) :=
 cS (wO aGe he hl hu) fun σ H Q ⟨ρ,M,Q',re,hm,q,k⟩=>⟨ρ,M,_,re,hm,q,fun v H1 ⟨d,M1,rd,hm1,e1,q1⟩=>⟨ρ,M1,_,re.ext e1,hm1,q1,fun l H2 ⟨M2,hm2,e2,q2⟩=>⟨ρ,M2,_,(re.ext e1).ext e2,hm2,q2,fun h H3 ⟨M3,hm3,e3,q3⟩=>by
  have rd3:=(rd.ext e2).ext e3
  have ex:=(e1.trans e2).trans e3
  cases d with
  | fz ds =>
   obtain ⟨a,us,rfl,sq,ru⟩:=pC rd3
   exact ⟨a,us,rfl,sq.sq,fun p hp=>k _ _ ⟨.ref p,_,jU,hm3.lnew hp (sN ru l h),ex.trans (Ext.new hp _),q3 p (hm3.fresh hp)⟩⟩
  | ref a =>
   obtain ⟨ds,ha,q3⟩:=q3
   obtain rfl:=bK rd
   obtain ⟨us,hu,ru⟩:=hm3.l a ds ha
   exact ⟨a,us,rfl,.of hu,fun p hp=>k _ _ ⟨.ref p,_,jU,hm3.lnew hp (sN ru l h),ex.trans (Ext.new hp _),q3 p (hm3.fresh hp)⟩⟩
  | _=>exact q3.elim⟩⟩⟩
noncomputable abbrev DSp:=List D->DM->DQ->Prop
noncomputable def tK (K:PySem.W.Frag) (sp:DSp):Sp:=fun vs H Q _=>∃ ds M Q',bR K H ds vs/\cN K M H/\sp ds M Q'/\∀ v H',LQ K H Q' v H'->Q v H'
noncomputable def nV (sp:DSp) (t:DA):DE:=fun ρ M Q=>t ρ M fun ds M1=>sp ds M1 Q
variable {CX:CXT} {k:Nat} {f:Addr} {fd:FuncData} {ps:List Str} {sp:DSp} {E:XK} {x:Str} {p:Pos}
theorem aHr (F:jK X.prog X.w X.K X.mg X.base CX k f fd ps (tK X.K sp)) (hr:eF k X.A) (hm:X.mg x = some (.ref f)) (hk:PySem.W.keepIn X.K (.ref f) = true) (hb:mF X.K fd ps []) (hx:uW CX X E) (ha:PDA X (e :: es) t) (hg:Gl X x:=by rfl)
  (hdb:(x == ("__debug__":Str)) = false:=by decide) (he:starEach (e :: es) X.env = (false,eval e X.env) :: starEach es X.env:=by rfl) (hpl:(backTo pos (starEach es X.env)).any (·.1) = false:=by rfl) :
  PDE X (.Call (.Name x p) (e :: es) [] pos) (nV sp t) :=
 cS (aGz F hr hg hm hk hb .nil hx ha hdb he hpl) fun σ H Q ⟨ρ,M,Q',re,hm,q,k⟩=>⟨ρ,M,_,re,hm,q,fun vs H1 ⟨ds,M1,rs,hm1,ex,q1⟩=>⟨ds,M1,Q',by rw [List.append_nil];exact rs,hm1,q1,fun v H' z=>k v H' (z.back ex)⟩⟩
theorem aEU (F:jK X.prog X.w X.K X.mg X.base CX k f fd ps (tK X.K sp)) (hr:eF k X.A) (hm:X.mg x = some (.ref f)) (hk:PySem.W.keepIn X.K (.ref f) = true) (hb:mF X.K fd ps []) (hx:uW CX X E) (hg:Gl X x:=by rfl)
  (hdb:(x == ("__debug__":Str)) = false:=by decide):PDE X (.Call (.Name x p) [] [] pos) (nV sp uT) :=
 cS (aE9 F hr hg hm hk hb .nil hx hdb) fun σ H Q ⟨ρ,M,Q',re,hm,q,k⟩=>⟨[],M,Q',dF,hm,q,k⟩
noncomputable def gS (X:Cx) (fv:Value) (r:DSp):Prop:=mK X fv fun vs H Q=>∃ ds M Q',bR X.K H ds vs/\cN X.K M H/\r ds M Q'/\∀ v H',LQ X.K H Q' v H'->Q v H'
theorem gS.of {fv:Value} {r:List V->Hp->VK->Prop} {r':DSp} (h:mK X fv r) (l:∀ vs H M ds Q,bR X.K H ds vs->cN X.K M H->r' ds M Q->r vs H (LQ X.K H Q)):gS X fv r':=fun pins s σ H xs us Q I rs ⟨ds,M,Q',r1,hm,q,k⟩ =>
 thn (h pins s σ H xs us _ I rs (l xs H M ds Q' r1 hm q)) fun v s h=>aC7 h k
theorem aFq {r:DSp} {σ:L2.St} {H:Hp} {Q:VK} (h:low X.K (nV r t) σ H Q):aLC X.K t σ H fun vs H1=>∃ ds M Q',bR X.K H1 ds vs/\cN X.K M H1/\r ds M Q'/\∀ v H',LQ X.K H1 Q' v H'->Q v H':=by
 obtain ⟨ρ,M,Q',re,hm,q,k⟩:=h
 exact ⟨ρ,M,_,re,hm,q,fun vs H1 ⟨ds,M1,rs,hm1,ex,q1⟩=>⟨ds,M1,Q',rs,hm1,q1,fun v H' z=>k v H' (z.back ex)⟩⟩
theorem aE3 {id:String} {r:DSp} (hc:gS X (.builtin id) r) (hm:X.mg x = none) (ha:PDA X (e :: es) t) (hv:bootBuiltins x = some (.builtin id):=by rfl) (hg:Gl X x:=by rfl) (hn:x ≠ "__name__":=by decide) (hdb:(x == ("__debug__":Str)) = false:=by decide)
  (he:starEach (e :: es) X.env = (false,eval e X.env) :: starEach es X.env:=by rfl) (hpl:(backTo pos (starEach es X.env)).any (·.1) = false:=by rfl):PDE X (.Call (.Name x p) (e :: es) [] pos) (nV r t) :=
 cS (aBu hc hg hm hv ha hn hdb he hpl) fun σ H Q h=>aFq h
theorem aDS {T:String} {r:DSp} (hc:gS X (.type T) r) (hm:X.mg x = none) (ha:PDA X (e :: es) t) (hv:bootBuiltins x = some (.type T):=by rfl) (hg:Gl X x:=by rfl) (hn:x ≠ "__name__":=by decide) (hdb:(x == ("__debug__":Str)) = false:=by decide)
  (he:starEach (e :: es) X.env = (false,eval e X.env) :: starEach es X.env:=by rfl) (hpl:(backTo pos (starEach es X.env)).any (·.1) = false:=by rfl):PDE X (.Call (.Name x p) (e :: es) [] pos) (nV r t) :=
 cS (aDU hc hg hm hv ha hn hdb he hpl) fun σ H Q h=>aFq h
end
end Dd
namespace Dd
open PySem PySem.Spec PyProof.Rows L2
section
variable {X:Cx} {a b e o:Expr} {es:List Expr} {ta tb te to:DE} {t:DA} {pos:Pos}
noncomputable def aLI:DSp:=fun ds M Q=>match ds with
 | [.int i]=>Q (.int (if i < 0 then -i else i)) M
 | _=>False
theorem iX {K:PySem.W.Frag} {H:Hp} {d:D} {vs:List V} (h:bR K H [d] vs):∃ v,vs = [v]/\Rep K H d v:=by
 obtain ⟨v,r,rfl,rv,rr⟩:=aX h
 obtain rfl:=bU rr
 exact ⟨v,rfl,rv⟩
theorem aJq {K:PySem.W.Frag} {H:Hp} {d d2:D} {vs:List V} (h:bR K H [d,d2] vs):∃ v v2,vs = [v,v2]/\Rep K H d v/\Rep K H d2 v2:=by
 obtain ⟨v,r,rfl,rv,rr⟩:=aX h
 obtain ⟨v2,rfl,rv2⟩:=iX rr
 exact ⟨v,v2,rfl,rv,rv2⟩
theorem yG:gS X (.builtin "abs") aLI:=gS.of aFU fun vs H M ds Q rs hm q=>by
 rcases ds with _ | ⟨d,_ | ⟨d2,r⟩⟩
 ·exact q.elim
 ·cases d with
  | int i =>
   obtain ⟨v,rfl,rv⟩:=iX rs
   obtain rfl:=aU rv
   exact ⟨i,rfl,_,M,bL,hm,.refl H,q⟩
  | _=>exact q.elim
 ·cases d<;>exact q.elim
noncomputable def aLV:DSp:=fun ds M Q=>match ds with
 | [.int i]=>Q (.int i) M
 | [.bl k]=>Q (.int (if k then 1 else 0)) M
 | _=>False
theorem uQ:gS X (.type "int") aLV:=gS.of aDJ fun vs H M ds Q rs hm q=>by
 rcases ds with _ | ⟨d,_ | ⟨d2,r⟩⟩
 ·exact q.elim
 ·cases d with
  | int i =>
   obtain ⟨v,rfl,rv⟩:=iX rs
   obtain rfl:=aU rv
   exact .inl ⟨i,rfl,_,M,bL,hm,.refl H,q⟩
  | bl i =>
   obtain ⟨v,rfl,rv⟩:=iX rs
   obtain rfl:=cH rv
   exact .inr ⟨i,rfl,_,M,bL,hm,.refl H,q⟩
  | _=>exact q.elim
 ·cases d<;>exact q.elim
noncomputable def tH:DSp:=fun ds M Q=>match ds with
 | [.tup xs]=>Q (.int xs.length) M
 | [.fz xs]=>Q (.int xs.length) M
 | [.ref a]=>∃ xs,M a = some xs/\Q (.int xs.length) M
 | _=>False
theorem iU:gS X (.builtin "len") tH:=gS.of aAJ fun vs H M ds Q rs hm q=>by
 rcases ds with _ | ⟨d,_ | ⟨d2,r⟩⟩
 ·exact q.elim
 ·cases d with
  | tup xs =>
   obtain ⟨v,rfl,rv⟩:=iX rs
   obtain ⟨a,us,rfl,sq,ru⟩:=cA rv
   exact ⟨a,us,rfl,.inr sq,_,M,by rw [<- ru.length];exact bL,hm,.refl H,q⟩
  | fz xs =>
   obtain ⟨v,rfl,rv⟩:=iX rs
   obtain ⟨a,us,rfl,sq,ru⟩:=pC rv
   exact ⟨a,us,rfl,.inl sq.sq,_,M,by rw [<- ru.length];exact bL,hm,.refl H,q⟩
  | ref a =>
   obtain ⟨v,rfl,rv⟩:=iX rs
   obtain rfl:=bK rv
   obtain ⟨xs,ha,q⟩:=q
   obtain ⟨us,hu,ru⟩:=hm.l a xs ha
   exact ⟨a,us,rfl,.inl (.of hu),_,M,by rw [<- ru.length];exact bL,hm,.refl H,q⟩
  | _=>exact q.elim
 ·cases d<;>exact q.elim
noncomputable def aKm:DSp:=fun ds M Q=>match ds with
 | [.tup xs]=>Q (.tup xs) M
 | [.ref a]=>∃ xs,M a = some xs/\Q (.tup xs) M
 | _=>False
theorem tG:gS X (.type "tuple") aKm:=gS.of yW fun vs H M ds Q rs hm q=>by
 rcases ds with _ | ⟨d,_ | ⟨d2,r⟩⟩
 ·exact q.elim
 ·cases d with
  | tup xs =>
   obtain ⟨v,rfl,rv⟩:=iX rs
   obtain ⟨a,us,rfl,sq,ru⟩:=cA rv
   exact ⟨a,us,rfl,.inr ⟨sq,_,M,cK sq ru,hm,.refl H,q⟩⟩
  | ref a =>
   obtain ⟨v,rfl,rv⟩:=iX rs
   obtain rfl:=bK rv
   obtain ⟨xs,ha,q⟩:=q
   obtain ⟨us,hu,ru⟩:=hm.l a xs ha
   exact ⟨a,us,rfl,.inl ⟨.of hu,fun p hp=>⟨.tup xs,M,cK (.of eN) (ru.ext (Ext.new hp _)),hm.new hp _,Ext.new hp _,q⟩⟩⟩
  | _=>exact q.elim
 ·cases d<;>exact q.elim
noncomputable def aAq (to te:DE):DE:=fun ρ M Q=>to ρ M fun x M1=>match x with
 | .ref p=>(∃ ds,M1 p = some ds)/\qJ te uT ρ M1 fun ys M2=>∃ ds y,ys = [y]/\M2 p = some ds/\ds.length < 1000/\Q .non (bJ M2 p (ds ++ [y]))
 | _=>False
theorem aDT {apos cpos:Pos} (ho:PDE X o to) (he:PDE X e te) (hse:starEach [e] X.env = (false,eval e X.env) :: starEach [] X.env:=by rfl)
  (hbase:attributeBase o "append" X.env (eval o X.env) = eval o X.env:=by rfl)
  (hfew:((backTo cpos (starEach [e] X.env)).all (fun x=>!x.1) && (backToKw cpos (keywordEach [] X.env)).all (fun x=>x.1.isSome)
   && decide ([e].length + ([]:List Keyword).length + (if ([]:List Keyword).isEmpty then 0 else 1) < 30)) = true:=by rfl)
  (hline:(apos.endLine == cpos.line) = true:=by rfl) (hplain:(backTo cpos (starEach [] X.env)).any (·.1) = false:=by rfl) :
  PDE X (.Call (.Attribute o "append" apos) [e] [] cpos) (aAq to te) :=
 cS (aL3 PySem.F.plainAttrs_list PySem.F.slot_list_append PySem.F.type_list_append aDA ho (wB he aAZ hse) hbase hfew hline hse hplain) fun σ H Q ⟨ρ,M,Q',re,hm,q,k⟩=>⟨ρ,M,_,re,hm,q,fun v H1 ⟨d,M1,rd,hm1,e1,q1⟩=>by
  cases d with
  | ref p =>
   obtain rfl:=bK rd
   obtain ⟨⟨ds0,h0⟩,q1⟩:=q1
   obtain ⟨us0,hu0,_⟩:=hm1.l p ds0 h0
   refine ⟨.inl ⟨rfl,us0,.of hu0⟩,ρ,M1,_,re.ext e1,hm1,q1,fun vs H2 ⟨dvs,M2,rs,hm2,e2,ds,y,ey,hp,hl,q2⟩=>?_⟩
   subst ey
   obtain ⟨w,rfl,rw'⟩:=iX rs
   obtain ⟨us,hu,ru⟩:=hm2.l p ds hp
   exact ⟨p,us,w,rfl,rfl,hu,by rw [<- ru.length];exact fK (Nat.le_of_lt hl),k _ _ ⟨.non,_,wD,hm2.put hu (ru.append (cJ rw' dF)),(e1.trans e2).trans (Ext.put hu _),q2⟩⟩
  | _=>exact q1.elim⟩
noncomputable def tyD:D->Option String
 | .non=>some "NoneType"
 | .bl _=>some "bool"
 | .int _=>some "int"
 | .str _=>some "str"
 | .tup _=>some "tuple"
 | .fz _=>some "list"
 | .ref _=>none
theorem tyT {K:PySem.W.Frag} {H:Hp} {s:Shared} {pins:List (Addr × Obj)} {σ:L2.St} (I:Inv X pins σ H s) {a:Addr} {xs:List V} (sq:SqT X.K H a xs):∃ o,s.heap.get? a = some o/\o.cls = .type "tuple":=by
 obtain ⟨its,_,⟨o,h1,h2,_⟩,_⟩:=I.tuple sq
 exact ⟨o,h1,h2⟩
theorem aK2 {K:PySem.W.Frag} {H:Hp} {s:Shared} {pins:List (Addr × Obj)} {σ:L2.St} {A:Around} {E:Value->Shared->Prop} {Q:Value->Shared->Prop} {c:Value} {d:D} {v:V} {u:Value} {T:String} {k:Bool} (I:Inv X pins σ H s) (rd:Rep X.K H d v) (rv:cM v u) (ty:tyD d = some T)
  (e:PySem.W.kitOne X.K (.type T) c = some k) (h:∀ tk,Q (.bool k) { s with toks:=tk }):wpAny (model X.prog X.w) A (call (.builtin "isinstance") [u,c]) Q E s:=by
 cases d with
 | non=>cases ty;rw [eC rd] at rv;exact mB I rv (.non) e h
 | bl b=>cases ty;rw [cH rd] at rv;exact mB I rv (.bl b) e h
 | int b=>cases ty;rw [aU rd] at rv;exact mB I rv (.int b) e h
 | str b=>cases ty;rw [cP rd] at rv;exact mB I rv (.str b) e h
 | ref b=>cases ty
 | tup b =>
  cases ty
  obtain ⟨a,us,rfl,sq,ru⟩:=cA rd
  cases rv
  obtain ⟨o,h1,h2⟩:=tyT (K:=K) I sq
  exact PySem.W.kia_one PySem.W.kitx_tuple I.kIn ⟨o,h1,h2⟩ e (fun z=>nomatch z) h
 | fz b =>
  cases ty
  obtain ⟨a,us,rfl,sq,ru⟩:=pC rd
  cases rv
  obtain ⟨z,its,n,r,e1⟩:=aFP I sq
  exact PySem.W.kia_one PySem.W.kitx_list I.kIn ⟨_,e1,rfl⟩ e (fun z=>nomatch z) h
noncomputable def dIs (K:PySem.W.Frag) (c:Value) (te:DE):DE:=fun ρ M Q=>te ρ M fun d M1=>(∃ T k,tyD d = some T/\PySem.W.kitOne K (.type T) c = some k/\Q (.bl k) M1) ∨ (∃ (p:Addr) (xs:List D) (k:Bool),d = .ref p/\M1 p = some xs/\PySem.W.kitOne K (.type "list") c = some k/\Q (.bl k) M1)
theorem aHf {T:String} {x:Str} {p p2:Pos} (he:PDE X e te) (hm:X.mg "isinstance" = none) (hmx:X.mg x = none) (hv:bootBuiltins x = some (.type T):=by rfl) (hg:Gl X "isinstance":=by rfl) (hgx:Gl X x:=by rfl) (hn:x ≠ "__name__":=by decide) (hdb:(x == ("__debug__":Str)) = false:=by decide)
  (hse:starEach [e,.Name x p2] X.env = (false,eval e X.env) :: starEach [.Name x p2] X.env:=by rfl) (hse2:starEach [.Name x p2] X.env = (false,eval (.Name x p2) X.env) :: starEach [] X.env:=by rfl) (hpl:(backTo pos (starEach [.Name x p2] X.env)).any (·.1) = false:=by rfl) :
  PDE X (.Call (.Name "isinstance" p) [e,.Name x p2] [] pos) (dIs X.K (.type T) te):=by
 have hc:mK X (.builtin "isinstance") fun vs H Q=>∃ d M Q' v,vs = [v,.ty T]/\Rep X.K H d v/\cN X.K M H/\((∃ T' k,tyD d = some T'/\PySem.W.kitOne X.K (.type T') (.type T) = some k/\Q' (.bl k) M) ∨ (∃ (p:Addr) (xs:List D) (k:Bool),d = .ref p/\M p = some xs/\PySem.W.kitOne X.K (.type "list") (.type T) = some k/\Q' (.bl k) M))/\∀ v H',LQ X.K H Q' v H'->Q v H':=by
  intro pins s σ H xs us Q I rs ⟨d,M,Q',v,e1,rd,hm,q,k⟩
  subst e1
  obtain ⟨u1,u2,rfl,rv,rt⟩:=rs.two
  cases rt
  rcases q with ⟨T',b,ty,e2,q⟩ | ⟨p,ys,b,rfl,hp,e2,q⟩
  ·exact aK2 (K:=X.K) I rd rv ty e2 fun tk=>⟨.bl b,H,I.tok tk,rfl,k _ H ⟨_,M,eU,hm,.refl H,q⟩⟩
  ·obtain rfl:=bK rd
   obtain ⟨us,hu,ru⟩:=hm.l p ys hp
   exact mB I rv (.lst hu) e2 fun tk=>⟨.bl b,H,I.tok tk,rfl,k _ H ⟨_,M,eU,hm,.refl H,q⟩⟩
 refine cS (aBu hc hg hm rfl (aAY he (aAY (aGf hgx hmx hv (v:=.ty T) rfl hn hdb) aEF hse2) hse) (by decide) (by decide) hse hpl) fun σ H Q ⟨ρ,M,Q',re,hm,q,k⟩=>?_
 exact ⟨ρ,M,_,re,hm,q,fun v H1 ⟨d,M1,rd,hm1,ex,q1⟩=>⟨d,M1,Q',v,rfl,rd,hm1,q1,fun v H' z=>k v H' (z.back ex)⟩⟩
end
noncomputable def iD (N:List Str) (ds:List D):cO:=ds.map some ++ List.replicate (N.length - ds.length) none
noncomputable def Dn (Q:DQ):DQ:=fun d M=>∃ M',bC M' M/\Q d M'
section
variable {P:Program} {w:World} {K:PySem.W.Frag} {mg:Str->Option Value} {base:Heap}
theorem qW {H:Hp} {ds:List D} {vs:List V} (r:bR K H ds vs) (N:List Str):hJ K H (iD N ds) (L2.start N vs):=by
 have hl:=r.length
 refine ⟨by unfold iD L2.start;simp only [List.length_append,List.length_map,List.length_replicate,hl],fun i d q=>?_⟩
 unfold iD at q
 unfold L2.start
 by_cases hi:i < ds.length
 ·rw [List.getElem?_append_left (by simpa using hi),List.getElem?_map] at q
  rw [List.getElem?_append_left (by simpa [<- hl] using hi),List.getElem?_map]
  cases e:ds[i]? with
  | none=>rw [e] at q;cases q
  | some d' =>
   rw [e] at q
   cases q
   obtain ⟨v,e2,rv⟩:=r.get e
   exact ⟨v,by rw [e2];rfl,rv⟩
 ·rw [List.getElem?_append_right (by simpa using hi),List.getElem?_replicate] at q
  split at q<;>cases q
theorem Fun.okD {x qual:Str} {st:Stmt} {f:Addr} {fd:FuncData} {N ps:List Str} {k:Nat} {sp:DSp} (F:L2.Fun K x qual st f fd) (S:aR N ps (aI st)) (len:∀ ds M Q,sp ds M Q->ds.length = ps.length)
  (hbody:∀ (cdv:Value) (A:Around) (outer:List Env) (s:Shared) (H:Hp) (ds:List D) (M:DM) (Q:DQ) (E:XK),eF k (A.deeper (envOfC qual (aI st) s.heap.objs.size f cdv))->sp ds M Q ->
   ∃ t,lJ (jV CX0 P w K mg base N qual (aI st) f cdv A outer s H E).nox (eR st) t/\t { nx:=fun _ M'=>Dn Q .non M',rt:=Dn Q } (iD N ds) M):jK P w K mg base CX0 (k + 1) f fd ps (tK K sp):=by
 refine F.ok S (fun vs H Q E ⟨ds,M,Q',rs,hm,q,_⟩=>by rw [<- rs.length];exact len ds M Q' q) fun cdv A outer s H vs Q E hr ⟨ds,M,Q',rs,hm,q,k'⟩=>?_
 obtain ⟨t,h1,h2⟩:=hbody cdv A outer s H ds M Q' E hr q
 have fin:∀ v H',LQ K H (Dn Q') v H'->Q v H':=fun v H' ⟨d,M1,rd,hm1,ex,M2,sub,q2⟩=>k' v H' ⟨d,M2,rd,hm1.sub sub,ex,q2⟩
 refine ⟨_,h1,iD N ds,M,_,qW rs N,hm,h2,⟨fun σ' H' ⟨ρ',M',_,hm',ex,q'⟩=>fin _ H' ⟨.non,M',wD,hm',ex,q'⟩,fin,fun σ' H' ⟨_,_,_,_,_,z⟩=>z.elim,fun σ' H' ⟨_,_,_,_,_,z⟩=>z.elim⟩⟩
end
theorem aDp {P:Program} {w:World} {K:PySem.W.Frag} {mg mb:Str->Option Value} {CX:CXT} {k:Nat} {fa a:Addr} {fd:FuncData} {x:Str} {sp:Sp} {s₁:Shared} {vs:List Value} {ns:List Int}
  (KX:K.In s₁.heap) (hns:s₁.heap.Ns mainGlobals mg) (hb:s₁.heap.Ns builtinsNs mb) (hbb:∀ x:Str,x ≠ "__name__"->mb x = bootBuiltins x) (hlim:s₁.heap.NoLimit) (hg:s₁.gens = #[])
  (ha:s₁.heap.get? a = some { cls:=.type "list",data:=.seq vs.toArray }) (hi:IntsAre vs ns) (hl:ns.length<=sizeLine) (hr:eF k callerA)
  (F:∀ base:Heap,K.In base->base.Ns mainGlobals mg->jK P w K mg base CX k fa fd [x] sp) (hbind:∀ (s:Shared) (u:Value),BindsTo s fd ⟨[u],[]⟩ [(x,u)])
  (hsp:∀ H:Hp,aKp H->SqX K H a (ns.map V.int)->sp [.ref a] H (fun v _=>v = .bl true) fun _ _ _=>False)
  (hCX:∀ H e s',CX [] H s₁ (fun _ _ _=>False) e s'->False) :
  codeAny (model P w) callerA (.call (.ref fa) ⟨[.ref a],[]⟩) (fun r s'=>r = .ok (.ret (.bool true))/\OldK s₁.heap s'.heap/\s'.os = s₁.os/\AllBare s'.gens) s₁:=by
 have rv:=uV hi
 have lenV:=hi.length
 refine aEN (ns:=ns) (sp:=fun vs H Q E=>SqX K H a (ns.map V.int)/\sp vs H Q E) KX hns hb hbb hlim hg ha hi hl hr (fun base h1 h2=>(F base h1 h2).imp fun _ _ _ _ z=>z.2) hbind (fun H hO hS=>?_) hCX
 have sx:SqX K H a (ns.map V.int):=by
  rcases hS with (h | h) | ⟨o,its,n,hk,hc,hd,hs,hz,r⟩
  ·rcases hO a with z | ⟨o,xs,z⟩
   ·rw [h] at z;cases z
   ·rw [h] at z;cases z
  ·exact .inl h
  ·have e:=KX a o hk
   rw [ha] at e
   cases e
   cases hs
   exact .inr ⟨_,_,hk,hz,r⟩
 exact ⟨sx,hsp H hO sx⟩
theorem walk_ofD {l:PySem.W.OpenLaw} {n k:Nat} {q:Program} {loose:List Str} {XP:(Str->Option Value)->Heap->Prop} {YP:World->Heap->Prop} {d:DefRec} {K:Params->PySem.W.Frag} {sp:DSp} {x:Str}
  (hn:l.most = some n) (hn2:n<=sizeLine) (hdf:d.params.defaults = []) (hr:eF k callerA)
  (hY:∀ (w:World) (h:Heap),YP w h->(K w.params).In h)
  (F:∀ (w:World) (mg:Str->Option Value) (fa:Addr) (h:Heap),(K w.params).In h->h.Ns mainGlobals mg->mg d.name = some (.ref fa) ->
   ∃ fd:FuncData,(∀ (s:Shared) (u:Value),BindsTo s fd ⟨[u],[]⟩ [(x,u)]) /\
    ∀ base:Heap,(K w.params).In base->base.Ns mainGlobals mg->jK l.prog w (K w.params) mg base CX0 k fa fd [x] (tK (K w.params) sp))
  (hsp:∀ (ns:List Int),ns.length<=n->∀ M,sp [.fz (ns.map D.int)] M fun d _=>d = .bl true) :
  PySem.W.WalkO q loose XP YP l.row.toRowW d [] (fun f vs=>PySem.call f vs):=by
 refine Att.attach_call hn hdf fun w s₀ s₁ mg mb fa o pm cd doc a vs ns G Y ho hd hcd hmg hobj hints hlen hg=>?_
 have KX:=hY w _ Y
 obtain ⟨fd,hb,hF⟩:=F w mg fa _ KX G.T.g hmg
 refine aDp KX G.T.g G.T.b G.T.builtins G.T.nolimit hg hobj hints (Nat.le_trans hlen hn2) hr hF hb (fun H hO hS=>?_) fun H e s' h=>h
 refine ⟨[.fz (ns.map D.int)],fun _=>none,_,cJ (by unfold Rep;exact ⟨a,_,rfl,hS,zX ns⟩) dF,⟨(fun _ _ z=>by cases z),(fun _ _ z=>by cases z)⟩,hsp ns hlen _,fun v H' z=>?_⟩
 obtain ⟨d,M',rd,_,_,e⟩:=z
 have e':d = .bl true:=e
 subst e'
 exact cH rd
end Dd
namespace Dd
open PySem PySem.Spec PyProof.Rows L2
noncomputable def bV (K:PySem.W.Frag) (mg:Str->Option Value) (x:Str) (st:Stmt) (ps:List Str):Prop:=∃ f fd,L2.Fun K x x st f fd/\mg x = some (.ref f)/\mF K fd ps []
noncomputable def Has (P:Program) (w:World) (K:PySem.W.Frag) (mg:Str->Option Value) (base:Heap) (k:Nat) (x:Str) (ps:List Str) (sp:DSp):Prop :=
 ∃ f fd,jK P w K mg base CX0 k f fd ps (tK K sp)/\mg x = some (.ref f)/\PySem.W.keepIn K (.ref f) = true/\mF K fd ps []
noncomputable def eY (K:PySem.W.Frag) (mg:Str->Option Value) (x:Str) (d:D):Prop:=∃ u v,mg x = some u/\cM v u/\∀ H,Rep K H d v
section
variable {P:Program} {w:World} {K:PySem.W.Frag} {mg:Str->Option Value} {base:Heap}
theorem Has.mk {x:Str} {st:Stmt} {N ps:List Str} {k:Nat} {sp:DSp} (h:bV K mg x st ps) (S:aR N ps (aI st)) (len:∀ ds M Q,sp ds M Q->ds.length = ps.length)
  (hbody:∀ (f:Addr) (cdv:Value) (A:Around) (outer:List Env) (s:Shared) (H:Hp) (ds:List D) (M:DM) (Q:DQ) (E:XK),eF k (A.deeper (envOfC x (aI st) s.heap.objs.size f cdv))->sp ds M Q ->
   ∃ t,lJ (jV CX0 P w K mg base N x (aI st) f cdv A outer s H E).nox (eR st) t/\t { nx:=fun _ M'=>Dn Q .non M',rt:=Dn Q } (iD N ds) M):Has P w K mg base (k + 1) x ps sp:=by
 obtain ⟨f,fd,F,hm,hb⟩:=h
 exact ⟨f,fd,Fun.okD F S len fun cdv A outer s H ds M Q E hr q=>hbody f cdv A outer s H ds M Q E hr q,hm,F.kp,hb⟩
theorem Has.imp {x:Str} {ps:List Str} {k:Nat} {sp sp':DSp} (h:Has P w K mg base k x ps sp) (i:∀ ds M Q,sp' ds M Q->sp ds M Q):Has P w K mg base k x ps sp':=by
 obtain ⟨f,fd,F,hm,hk,hb⟩:=h
 exact ⟨f,fd,F.imp fun vs H Q E ⟨ds,M,Q',a,b,c,d⟩=>⟨ds,M,Q',a,b,i _ _ _ c,d⟩,hm,hk,hb⟩
end
section
variable {X:Cx} {a b c e:Expr} {es:List Expr} {ta tb te:DE} {t:DA} {pos p:Pos} {x:Str} {ps:List Str} {sp:DSp} {k j:Nat}
theorem aFZ (h:Has X.prog X.w X.K X.mg X.base k x ps sp) (hr:eF j X.A) (hkj:k<=j) (ha:PDA X (e :: es) t) (hg:Gl X x:=by rfl)
  (hdb:(x == ("__debug__":Str)) = false:=by decide) (he:starEach (e :: es) X.env = (false,eval e X.env) :: starEach es X.env:=by rfl) (hpl:(backTo pos (starEach es X.env)).any (·.1) = false:=by rfl) :
  PDE X (.Call (.Name x p) (e :: es) [] pos) (nV sp t):=by
 obtain ⟨f,fd,F,hm,hk,hb⟩:=h
 exact aHr F (hr.mono hkj) hm hk hb aFI ha hg hdb he hpl
theorem aDu (h:Has X.prog X.w X.K X.mg X.base k x ps sp) (hr:eF j X.A) (hkj:k<=j) (hg:Gl X x:=by rfl) (hdb:(x == ("__debug__":Str)) = false:=by decide):PDE X (.Call (.Name x p) [] [] pos) (nV sp uT):=by
 obtain ⟨f,fd,F,hm,hk,hb⟩:=h
 exact aEU F (hr.mono hkj) hm hk hb aFI hg hdb
theorem aFG {d:D} (h:eY X.K X.mg x d) (hg:Gl X x:=by rfl) (hd:(x == ("__debug__":Str)) = false:=by decide):PDE X (.Name x pos) (dC d):=by
 obtain ⟨u,v,hm,rv,hr⟩:=h
 exact aHp hg hm rv hr hd
noncomputable def aHw (i:Nat) (te:DE) (g:Int->Int->Int):DS:=fun E ρ M=>match ρ[i]? with
 | some (some (.int z))=>te ρ M fun y M1=>match y with
  | .int j=>E.nx (ρ.set i (some (.int (g z j)))) M1
  | _=>False
 | _=>False
theorem aG3 {i:Nat} {op:Operator} {g:Int->Int->Int} {pos':Pos} (ho:PIp X op (ipI g)) (hN:X.N.Nodup) (he:PDE X e te) (hi:X.N[i]? = some x:=by rfl) (hx:Loc X.env.scope x:=by first | exact Or.inl rfl | exact Or.inr rfl) (hf:X.fn x = true ∨ X.env.scope.names.lookup x = some .local:=by first | exact .inl rfl | exact .inr rfl | assumption) :
  PDS X (.AugAssign (.Name x pos') op e pos) (aHw i te g) :=
 kM (aI1 (i:=i) hN hi hx he ho hf) fun E σ H ⟨ρ,M,Dn,re,hm,q,k⟩=>by
  unfold aHw at q
  split at q
  ·rename_i z e1
   obtain ⟨v,e2,rv⟩:=re.get i _ e1
   obtain rfl:=aU rv
   refine ⟨_,e2,ρ,M,_,re,hm,q,fun w H1 ⟨d,M1,rd,hm1,ex,q1⟩=>?_⟩
   cases d with
   | int j=>exact ⟨z,j,rfl,aU rd,k.nx _ H1 ⟨_,M1,(re.ext ex).set bL i,hm1,ex,q1⟩⟩
   | _=>exact q1.elim
  ·exact q.elim
end
theorem dif {c A B:Prop} [Decidable c] (h1:c->A) (h2:¬ c->B):if decide c = true then A else B:=by
 by_cases h:c
 ·rw [decide_eq_true h];exact h1 h
 ·rw [decide_eq_false h];exact h2 h
theorem aLN {b:Bool} {A B:Prop} (h1:b = true->A) (h2:b = false->B):if b = true then A else B:=by
 cases b
 ·exact h2 rfl
 ·exact h1 rfl
end Dd
namespace Dd
open PySem PySem.Spec PyProof.Rows L2
section
variable {prog:Program} {w:World} {A:Around} {E:Value->Shared->Prop} {s:Shared}
theorem wM {h h':Heap} {it t:Addr} {items:Array Value} (ht:h.IsList t items) (hs:Heap.SameBut it h h') (hne:t ≠ it):h'.IsList t items:=by
 obtain ⟨o,e,r⟩:=ht
 exact ⟨o,(hs.2 t hne).trans e,r⟩
theorem vK {h:Heap} {t:Addr} {items:Array Value} (ht:h.IsList t items) (o:Obj):(h.push o).IsList t items:=by
 obtain ⟨o',e,r⟩:=ht
 exact ⟨o',Heap.get?_push_of_some _ e,r⟩
theorem zO {it t:Addr} {items:Array Value} (hne:t ≠ it):∀ (n i:Nat) (s:Shared) (Q:List Value->Shared->Prop),s.heap.IsListIter it t i->s.heap.IsList t items->i + n<=items.size ->
  (∀ h',h'.IsListIter it t (i + n)->Heap.SameBut it s.heap h'->Q ((items.toList.drop i).take n) { s with heap:=h' })->wpAny (model prog w) A (draw (.ref it) n) Q E s
 | 0,i,s,Q,hit,_,_,hQ=>by
  show wpAny _ _ (pure []) Q E s
  exact wpAny_pure (by simpa using hQ s.heap hit (Heap.SameBut.refl ..))
 | n + 1,i,s,Q,hit,ht,hle,hQ=>by
  have hlt:i < items.size:=by omega
  show wpAny _ _ (pyNext (.ref it) >>= _) Q E s
  refine wpAny_bind (wpAny_pyNext_list_item hit ht (x:=items[i]) (by simp [hlt]) fun h₁ hit₁ hs₁=>?_)
  refine wpAny_bind (wpAny_holding (zO hne n (i + 1) _ _ hit₁ (wM ht hs₁ hne) (by omega) fun h₂ hit₂ hs₂=>wpAny_pure ?_))
  have hd:items.toList.drop i = items[i] :: items.toList.drop (i + 1):=by simp [List.drop_eq_getElem_cons,hlt]
  have:=hQ h₂ (by rw [show i + (n + 1) = i + 1 + n by omega];exact hit₂) (hs₁.trans hs₂)
  rw [hd,List.take_succ_cons] at this
  exact this
theorem uA {t:Addr} {items:Array Value} {Q:List Value->Shared->Prop} (hh:A.handled = none) (ht:s.heap.IsList t items)
  (hQ:∀ h',Heap.ExtBut s.heap.objs.size s.heap h'->Q items.toList { s with heap:=h' }):wpAny (model prog w) A (unpackItems (.ref t) items.size none) Q E s:=by
 have hlt:t ≠ s.heap.objs.size:=by obtain ⟨o,ho,_⟩:=ht;exact Nat.ne_of_lt (Heap.lt_size ho)
 unfold unpackItems
 refine wpAny_bind ?_
 ·unfold notIterableAtAll
  refine wpAny_bind (wpAny_specialOf ht.typeIs slot_list_iter.lookup ?_)
  refine wpAny_pure ?_
  simp only [Bool.false_eq_true,if_false]
  refine wpAny_bind (wpAny_holding (wpAny_pyIter_list ht ?_))
  refine wpAny_bind (wpAny_holding (zO hlt items.size 0 _ _ ⟨_,Heap.get?_push_size _ rfl,rfl,rfl⟩ (vK ht _) (by omega) fun h₁ hit₁ hs₁=>?_))
  have hall:List.take items.size (List.drop 0 items.toList) = items.toList:=by
   rw [List.drop_zero];exact List.take_of_length_le (by simp)
  rw [hall]
  rw [if_neg (by simp)]
  have ht₁:h₁.IsList t items:=wM (vK ht _) hs₁ hlt
  refine wpAny_bind (wpAny_holding (wpAny_pyNext_list_end hh hit₁ ht₁ (by simp) fun h₂ he₂=>?_))
  simp only [Option.isSome_none,Bool.false_eq_true,if_false]
  refine wpAny_pure (hQ h₂ fun b o hb e=>he₂ b o hb (hs₁.extBut b o hb (Heap.get?_push_of_some _ e)))
theorem rX {env:Env} {elts:List Expr} {x1} {pos:Pos} {t:Addr} {items:Array Value} {Q:Unit->Shared->Prop} (hh:A.handled = none) (ht:s.heap.IsList t items)
  (hn:(assignEach elts env).length = items.size) (hstar:(assignEach elts env).findIdx? (·.1) = none)
  (h:∀ h',Heap.ExtBut s.heap.objs.size s.heap h'->wpAny (model prog w) A (assignInOrder ((assignEach elts env).map (·.2)) items.toList) Q E { s with heap:=h' }) :
  wpAny (model prog w) A (assign (.Tuple elts x1 pos) env (.ref t)) Q E s:=by
 rw [assign_Tuple]
 refine wpAny_bind (wpAny_standAt ?_)
 unfold unpack
 rw [hn,hstar]
 exact wpAny_bind (wpAny_holding (uA hh ht h))
end
section
variable {X:Cx} {pos:Pos} {e a b:Expr} {es:List Expr} {te ta tb:DE}
noncomputable def gU (n:Nat) (t:DGs):DG:=fun d ρ M Q=>match d with
 | .tup ds=>ds.length = n/\t ds ρ M Q
 | .ref a=>∃ ds,M a = some ds/\ds.length = n/\t ds ρ M Q
 | _=>False
theorem aJs {k:Nat} {t:DGs} {n:Nat} (hc:X.calm = true) (h:aBY X es t) (hn:(assignEach es X.env).length = n:=by rfl) (hst:(assignEach es X.env).findIdx? (·.1) = none:=by rfl):PDG X (.Tuple es k pos) (gU n t):=by
 intro pins s σ H v u Q I r ⟨d,ρ,M,Q',rd,re,hm,q,k'⟩
 cases d with
 | tup ds=>exact aIr hc h hn hst pins s σ H v u Q I r ⟨.tup ds,ρ,M,Q',rd,re,hm,q,k'⟩
 | ref p =>
  obtain ⟨ds,hp,hl,q⟩:=q
  obtain rfl:=bK rd
  cases r
  obtain ⟨us,hu,ru⟩:=hm.l p ds hp
  obtain ⟨z,its,nn,rv,hlen,e1⟩:=I.lstM hu
  have l1:=ru.length
  refine rX (I.ok.hd hc) ⟨_,e1,rfl,_,rfl⟩ (by rw [hn,List.size_toArray];omega) hst fun h' hx=>?_
  have I1:Inv X pins σ H { s with heap:=h' }:=I.kept (t':=s.toks) fun b o e=>hx b o (Nat.ne_of_lt (Heap.lt_size e)) e
  exact h pins _ σ H us _ Q I1 (by simpa using rv) ⟨ds,ρ,M,Q',ru,re,hm,q,k'⟩
 | _=>exact q.elim
noncomputable def isV:D->D->Option Bool
 | .non,.non=>some true
 | .bl a,.bl b=>some (a == b)
 | .non,.bl _=>some false
 | .bl _,.non=>some false
 | .int _,.non=>some false
 | .str _,.non=>some false
 | .tup _,.non=>some false
 | .ref _,.non=>some false
 | .fz _,.non=>some false
 | .tup _,.bl _=>some false
 | _,_=>none
noncomputable def aFA (g:Bool->Bool):D2:=fun x y M Q=>match isV x y with
 | some k=>Q (.bl (g k)) M
 | none=>False
theorem aEt {K:PySem.W.Frag} {H:Hp} {x y:V} {v u:Value} {dx dy:D} {k:Bool} (rx:cM x v) (ry:cM y u) (r1:Rep K H dx x) (r2:Rep K H dy y) (h:isV dx dy = some k):plainIs v u = true/\(v == u) = k:=by
 cases dx<;>cases dy<;>first
  | (cases (show (none:Option Bool) = some k from h))
  | (
    first
    | (rw [eC r1] at rx;cases rx)
    | (rw [cH r1] at rx;cases rx)
    | (rw [aU r1] at rx;obtain ⟨t,rfl⟩:=rx)
    | (rw [cP r1] at rx;obtain ⟨t,rfl⟩:=rx)
    | (rw [bK r1] at rx;cases rx)
    | (obtain ⟨a,us,rfl,_,_⟩:=cA r1;cases rx)
    | (obtain ⟨a,us,rfl,_,_⟩:=pC r1;cases rx)
    first
    | (rw [eC r2] at ry;cases ry)
    | (rw [cH r2] at ry;cases ry)
    simp only [isV,Option.some.injEq] at h
    subst h
    constructor<;>first | rfl | (rename_i b1 b2;cases b1<;>cases b2<;>rfl))
theorem aFT:OpD X (compareOp .Is) (aFA id):=fun pins s σ H x y v u Q I rx ry ⟨dx,dy,M,Q',r1,r2,hm,q,k⟩=>by
 unfold aFA at q
 split at q
 ·rename_i b e
  obtain ⟨h1,h2⟩:=aEt rx ry r1 r2 e
  exact wpAny_is_plain h1 (by rw [h2];exact ⟨.bl b,H,I,rfl,k _ H ⟨_,M,eU,hm,.refl H,q⟩⟩)
 ·exact q.elim
theorem wV:OpD X (compareOp .IsNot) (aFA not):=fun pins s σ H x y v u Q I rx ry ⟨dx,dy,M,Q',r1,r2,hm,q,k⟩=>by
 unfold aFA at q
 split at q
 ·rename_i b e
  obtain ⟨h1,h2⟩:=aEt rx ry r1 r2 e
  exact wpAny_isNot_plain h1 (by rw [h2];exact ⟨.bl (!b),H,I,rfl,k _ H ⟨_,M,eU,hm,.refl H,q⟩⟩)
 ·exact q.elim
end
end Dd
namespace Dd
open PySem PySem.Spec PyProof.Rows L2
section
variable {M:DM} {Q:DQ} {g:Bool->Bool} {ds:List D} {i:Int} {a:Addr} {α:Type} {x0 x1 x2 x3 x4 x5:α} {l:List α}
theorem ixT:mH (.tup ds) (.int i) M Q = (match atI ds i with | some d=>Q d M | none=>False):=rfl
theorem ixF:mH (.fz ds) (.int i) M Q = (match atI ds i with | some d=>Q d M | none=>False):=rfl
theorem aMl:mH (.ref a) (.int i) M Q = (∃ ds d,M a = some ds/\atI ds i = some d/\Q d M):=rfl
theorem aH3:atI [x0] 0 = some x0:=rfl
theorem aJS:atI [x0] (-1) = some x0:=rfl
theorem aJM:atI [x0,x1] 0 = some x0:=rfl
theorem aJX:atI [x0,x1] 1 = some x1:=rfl
theorem aKu:atI [x0,x1] (-1) = some x1:=rfl
theorem aKh:atI [x0,x1,x2] 0 = some x0:=rfl
theorem aIY:atI [x0,x1,x2] 1 = some x1:=rfl
theorem aIt:atI [x0,x1,x2] 2 = some x2:=rfl
theorem aJb:atI [x0,x1,x2] (-1) = some x2:=rfl
theorem aJQ:atI [x0,x1,x2,x3] 0 = some x0:=rfl
theorem aHU:atI [x0,x1,x2,x3] 1 = some x1:=rfl
theorem aKv:atI [x0,x1,x2,x3] 2 = some x2:=rfl
theorem aH0:atI [x0,x1,x2,x3] 3 = some x3:=rfl
theorem aJZ:atI [x0,x1,x2,x3] (-1) = some x3:=rfl
theorem aH9:atI [x0,x1,x2,x3,x4] 0 = some x0:=rfl
theorem aJT:atI [x0,x1,x2,x3,x4] 1 = some x1:=rfl
theorem aIG:atI [x0,x1,x2,x3,x4] 2 = some x2:=rfl
theorem aJR:atI [x0,x1,x2,x3,x4] 3 = some x3:=rfl
theorem aJK:atI [x0,x1,x2,x3,x4] 4 = some x4:=rfl
theorem aIk:atI [x0,x1,x2,x3,x4] (-1) = some x4:=rfl
theorem aJk:atI [x0,x1,x2,x3,x4,x5] 0 = some x0:=rfl
theorem aIL:atI [x0,x1,x2,x3,x4,x5] 1 = some x1:=rfl
theorem aIJ:atI [x0,x1,x2,x3,x4,x5] 2 = some x2:=rfl
theorem aIZ:atI [x0,x1,x2,x3,x4,x5] 3 = some x3:=rfl
theorem aKb:atI [x0,x1,x2,x3,x4,x5] 4 = some x4:=rfl
theorem aJG:atI [x0,x1,x2,x3,x4,x5] 5 = some x5:=rfl
theorem aI5:atI [x0,x1,x2,x3,x4,x5] (-1) = some x5:=rfl
theorem aI7 {n:Nat} {t:DGs} {ρ:cO} {R:cO->DM->Prop}:gU n t (.tup ds) ρ M R = (ds.length = n/\t ds ρ M R):=rfl
theorem aI6 {n:Nat} {t:DGs} {ρ:cO} {R:cO->DM->Prop}:gU n t (.ref a) ρ M R = (∃ ds,M a = some ds/\ds.length = n/\t ds ρ M R):=rfl
theorem bI {i j:Int}:dEq g (.int i) (.int j) M Q = Q (.bl (g (decide (i = j)))) M:=by
 show (aW 60 (.int i) = true/\aW 60 (.int j) = true/\Q (.bl (g (eqD (.int i) (.int j)))) M) = _
 have e:eqD (.int i) (.int j) = decide (i = j):=by show (i == j) = _;by_cases h:i = j<;>simp [h]
 rw [e]
 exact propext ⟨fun h=>h.2.2,fun h=>⟨rfl,rfl,h⟩⟩
theorem aL {x y:Str}:dEq g (.str x) (.str y) M Q = Q (.bl (g (decide (x = y)))) M:=by
 show (aW 60 (.str x) = true/\aW 60 (.str y) = true/\Q (.bl (g (eqD (.str x) (.str y)))) M) = _
 have e:eqD (.str x) (.str y) = decide (x = y):=by show (x == y) = _;by_cases h:x = y<;>simp [h]
 rw [e]
 exact propext ⟨fun h=>h.2.2,fun h=>⟨rfl,rfl,h⟩⟩
theorem le2 {α:Type} {x y:α}:([x,y]:List α).length<=1000:=by show (2:Nat)<=1000;decide
noncomputable def isK (K:PySem.W.Frag) (c:Value) (d:D) (M:DM) (Q:DQ):Prop:=(∃ T k,tyD d = some T/\PySem.W.kitOne K (.type T) c = some k/\Q (.bl k) M) ∨ (∃ (p:Addr) (xs:List D) (k:Bool),d = .ref p/\M p = some xs/\PySem.W.kitOne K (.type "list") c = some k/\Q (.bl k) M)
theorem aIK {K:PySem.W.Frag} {c:Value} {te:DE} {ρ:cO}:dIs K c te ρ M Q = te ρ M fun d M1=>isK K c d M1 Q:=rfl
end
end Dd
namespace L2
open PySem PySem.Spec PyProof.Rows
noncomputable def clo (cells:List (Str × Addr)):List (Str × NameKind)->List (Str × Addr)->List (Str × Addr)
 | [],cs=>cs
 | (n,k) :: r,cs=>clo cells r (if k == .free then (n,(cells.lookup n).getD 0) :: cs else cs)
noncomputable def aBk (env:Env) (x:Str × NameKind) (r:List (Str × Addr)):Sem (ForInStep (List (Str × Addr))) :=
 if (x.2 == NameKind.free) = true then do let a <- cellOf env x.1;pure (ForInStep.yield ((x.1,a) :: r)) else pure (ForInStep.yield r)
theorem aB3 {env:Env}:∀ (names:List (Str × NameKind)) (cs:List (Str × Addr)),(∀ y ∈ names,y.2 = .free->∃ c,env.cells.lookup y.1 = some c)->(forIn names cs (aBk env):Sem (List (Str × Addr))) = pure (clo env.cells names cs)
 | [],cs,_=>rfl
 | (n,k) :: r,cs,hh=>by
  rw [List.forIn_cons]
  have ih:=fun cs=>aB3 (env:=env) r cs fun z hz=>hh z (List.mem_cons_of_mem _ hz)
  cases hk:k == NameKind.free with
  | true =>
   have hf:k = .free:=by simpa using hk
   obtain ⟨c,hc⟩:=hh (n,k) List.mem_cons_self hf
   have hc:env.cells.lookup n = some c:=hc
   have e:aBk env (n,k) cs = pure (ForInStep.yield ((n,c) :: cs)):=by
    unfold aBk
    rw [if_pos hk]
    show (cellOf env n >>= _) = _
    unfold cellOf
    rw [hc]
    rfl
   rw [e]
   refine Eq.trans (b:=(forIn r ((n,c) :: cs) (aBk env):Sem (List (Str × Addr)))) rfl ?_
   rw [ih]
   show _ = pure (clo env.cells r (if k == .free then (n,(env.cells.lookup n).getD 0) :: cs else cs))
   rw [hk,if_pos rfl,hc]
   rfl
  | false =>
   have e:aBk env (n,k) cs = pure (ForInStep.yield cs):=by
    unfold aBk
    rw [if_neg (by rw [hk];decide)]
   rw [e]
   refine Eq.trans (b:=(forIn r cs (aBk env):Sem (List (Str × Addr)))) rfl ?_
   rw [ih]
   show _ = pure (clo env.cells r (if k == .free then (n,(env.cells.lookup n).getD 0) :: cs else cs))
   rw [hk,if_neg (by decide)]
theorem aBq {scope:Scope} {env:Env} (h:∀ y ∈ scope.names,y.2 = .free->∃ c,env.cells.lookup y.1 = some c):closureFor scope env = pure (clo env.cells scope.names []):=by
 have e:closureFor scope env = ((forIn scope.names [] (aBk env):Sem (List (Str × Addr))) >>= fun cs=>pure cs):=rfl
 rw [e,aB3 _ _ h]
 rfl
theorem aC5 {cells:List (Str × Addr)} {x:Str} {c:Addr}:∀ {names:List (Str × NameKind)} {cs:List (Str × Addr)},(∀ y ∈ names,y.2 = .free->∃ c,cells.lookup y.1 = some c)->(cs.lookup x = some c->cells.lookup x = some c)->(clo cells names cs).lookup x = some c->cells.lookup x = some c
 | [],cs,_,h,e=>h e
 | (n,k) :: r,cs,hh,h,e=>by
  unfold clo at e
  refine aC5 (fun y hy=>hh y (List.mem_cons_of_mem _ hy)) (fun e2=>?_) e
  cases hk:k == NameKind.free with
  | false=>rw [hk,if_neg (by decide)] at e2;exact h e2
  | true =>
   rw [hk,if_pos rfl] at e2
   have hk':k = .free:=by simpa using hk
   obtain ⟨c',hc'⟩:=hh (n,k) List.mem_cons_self hk'
   have hc':cells.lookup n = some c':=hc'
   rw [List.lookup_cons] at e2
   cases hx:x == n with
   | true =>
    rw [hx] at e2
    have:x = n:=by simpa using hx
    subst this
    rw [hc'] at e2 ⊢
    exact e2
   | false=>rw [hx] at e2;exact h e2
theorem aAp {cells:List (Str × Addr)} {x:Str}:∀ {names:List (Str × NameKind)} {cs:List (Str × Addr)},((x,NameKind.free) ∈ names ∨ ∃ c,cs.lookup x = some c)->∃ c,(clo cells names cs).lookup x = some c
 | [],cs,h=>by
  rcases h with h | h
  ·exact nomatch h
  ·exact h
 | (n,k) :: r,cs,h=>by
  unfold clo
  refine aAp ?_
  have ins:∀ {v:Addr},(∃ c,cs.lookup x = some c)->∃ c,((n,v) :: cs).lookup x = some c:=fun {v} ⟨c,e⟩=>by
   rw [List.lookup_cons]
   cases x == n with
   | true=>exact ⟨_,rfl⟩
   | false=>exact ⟨c,e⟩
  rcases h with h | h
  ·rcases List.mem_cons.mp h with e | e
   ·cases e
    refine .inr ⟨_,by rw [if_pos (by rfl),List.lookup_cons,beq_self_eq_true]⟩
   ·exact .inl e
  ·cases hk:k == NameKind.free with
   | true=>rw [if_pos rfl];exact .inr (ins h)
   | false=>rw [if_neg (by decide)];exact .inr h
theorem vC {g:Str->NameKind->NameKind} {x:Str}:∀ {names:List (Str × NameKind)},(names.map fun p=>(p.1,g p.1 p.2)).lookup x = (names.lookup x).map (g x)
 | []=>rfl
 | (n,k) :: r=>by
  rw [List.map_cons,List.lookup_cons,List.lookup_cons]
  cases hx:x == n with
  | true =>
   have:x = n:=by simpa using hx
   subst this
   rfl
  | false=>exact vC
theorem pN {scope:Scope} {env:Env} {x:Str}:(relabel scope env).names.lookup x = (scope.names.lookup x).map fun k=>if (k == NameKind.free && env.scope.kind == .function && env.kindOf x == some .cell) = true then .cell else k:=by
 rw [<- vC (g:=fun x k=>if (k == NameKind.free && env.scope.kind == .function && env.kindOf x == some .cell) = true then .cell else k)]
 unfold relabel
 dsimp only
 congr 1
 refine List.map_congr_left fun p _=>?_
 obtain ⟨n,k⟩:=p
 dsimp only
 split<;>rfl
noncomputable abbrev Cx.blk (X:Cx) (N':List Str) (scope:Scope) (C:Addr) (s:Shared) (H:Hp) (fp:List Addr) (pins:List (Addr × Obj)):Cx :=
 { X with N:=N',s₀:=s,H₀:=H,env:=compEnvC scope (clo X.env.cells scope.names []) C X.env,outer:=X.stack,ex:=fp,fn:=fun _=>false,pn:=X.pn ++ pins,xe:=fun _ _=>False }
structure gF (X:Cx) (N':List Str) (fr:List (Option Nat)) (scope:Scope):Prop where
 kind:scope.kind = .function
 nocell:∀ y ∈ scope.names,y.2 ≠ .cell
 names:∀ y ∈ scope.names,y.2 = .local->scope.names.lookup y.1 = some .local
 free:∀ y ∈ scope.names,y.2 = .free->X.env.scope.names.lookup y.1 = some .cell
 len:fr.length = N'.length
 at':∀ (i j:Nat) (x:Str),N'[i]? = some x->fr[i]? = some (some j)->X.N[j]? = some x/\scope.names.lookup x = some .free
structure aB8 (oN:List Str) (osc:Scope) (N':List Str) (fr:List (Option Nat)) (scope:Scope):Prop where
 kind:scope.kind = .function
 nocell:∀ y ∈ scope.names,y.2 ≠ .cell
 names:∀ y ∈ scope.names,y.2 = .local->scope.names.lookup y.1 = some .local
 free:∀ y ∈ scope.names,y.2 = .free->osc.names.lookup y.1 = some .cell
 len:fr.length = N'.length
 at':∀ p ∈ N'.zip fr,∀ j ∈ p.2,oN[j]? = some p.1/\scope.names.lookup p.1 = some .free
theorem aB8.scope {X:Cx} {oN:List Str} {osc:Scope} {N':List Str} {fr:List (Option Nat)} {scope:Scope} (B:aB8 oN osc N' fr scope) (hN:X.N = oN) (ho:X.env.scope = osc):gF X N' fr scope:=by
 subst hN ho
 refine ⟨B.kind,B.nocell,B.names,B.free,B.len,fun i j x h1 h2=>?_⟩
 have:(x,some j) ∈ N'.zip fr:=by
  refine List.mem_of_getElem? (i:=i) ?_
  rw [List.getElem?_zip_eq_some]
  exact ⟨h1,h2⟩
 exact B.at' _ this j rfl
noncomputable def tW (fr:List (Option Nat)) (σ:St):St:=fr.map fun o=>match o with
 | some j=>(σ[j]?).join
 | none=>none
section
variable {X:Cx} {pins:List (Addr × Obj)} {σ:St} {H:Hp} {s:Shared} {N':List Str} {fr:List (Option Nat)} {scope:Scope} {C:Addr} {fp:List Addr}
theorem gF.hasC (S:gF X N' fr scope) (ok:X.Ok):∀ y ∈ scope.names,y.2 = .free->∃ c,X.env.cells.lookup y.1 = some c:=fun y hy e=>ok.has y.1 (.inl (S.free y hy e))
theorem gF.sub (S:gF X N' fr scope) (ok:X.Ok) {x:Str} {c:Addr} (h:(clo X.env.cells scope.names []).lookup x = some c):X.env.cells.lookup x = some c:=aC5 (S.hasC ok) (fun z=>by cases z) h
theorem aCS (S:gF X N' fr scope) (I:Inv X pins σ H s) {h':Heap} {m:Str->Option Value} (k:∀ x c v,(clo X.env.cells scope.names []).lookup x = some c->s.heap.IsCell c v->h'.IsCell c v) :
  ∀ (i:Nat) (x:Str) (v:V),N'[i]? = some x->(tW fr σ)[i]? = some (some v)->∃ u,cM v u/\aLo (compEnvC scope (clo X.env.cells scope.names []) C X.env) h' m x u:=by
 intro i x v hx hv
 unfold tW at hv
 rw [List.getElem?_map] at hv
 cases hf:fr[i]? with
 | none=>rw [hf] at hv;cases hv
 | some o =>
  rw [hf] at hv
  cases o with
  | none=>cases hv
  | some j =>
   have hv:(σ[j]?).join = some v:=Option.some.inj hv
   obtain ⟨hN,hfree⟩:=S.at' i j x hx hf
   have hσ:σ[j]? = some (some v):=by
    cases e:σ[j]? with
    | none=>rw [e] at hv;cases hv
    | some o=>rw [e] at hv;rw [show o = some v from hv]
   have hmem:(x,NameKind.free) ∈ scope.names:=PySem.mem_of_lookup hfree
   have hcell:=S.free _ hmem rfl
   obtain ⟨mm,_,hl⟩:=I.loc
   obtain ⟨u,r,l⟩:=hl j x v hN hσ (.inr (.inl hcell))
   refine ⟨u,r,.inr ⟨.inl ?_,?_⟩⟩
   ·show (relabel scope X.env).names.lookup x = some .cell
    rw [pN,hfree]
    have h1:X.env.scope.kind = .function:=I.ok.kind
    have h2:X.env.kindOf x = some .cell:=hcell
    rw [h1,h2]
    rfl
   ·rcases l with ⟨k1,_⟩ | ⟨_,c,e,z⟩
    ·have:X.env.scope.names.lookup x = some .local:=k1
     rw [hcell] at this;cases this
    ·obtain ⟨c',e'⟩:=aAp (cells:=X.env.cells) (x:=x) (names:=scope.names) (cs:=[]) (.inl hmem)
     have e2:=S.sub I.ok e'
     rw [e] at e2
     cases e2
     exact ⟨c,e',k x c _ e' z⟩
theorem aHk (S:gF X N' fr scope) (I:Inv X pins σ H s) (hf:∀ b ∈ fp,aB9 X pins H b) (ho:∀ b ∈ fp,∃ o,s.heap.get? b = some o) {s1:Shared} {m:Str->Option Value} (hos:s1.os = s.os) (hg:s1.gens = s.gens) (hC:s.heap.objs.size<=C) (k:∀ b o,s.heap.get? b = some o->s1.heap.get? b = some o) (hn:s1.heap.Ns C m) :
  Inv (X.blk N' scope C s H fp pins) [] (tW fr σ) H s1:=by
 have lt:∀ b o,s.heap.get? b = some o->b ≠ C:=fun b o e=>Nat.ne_of_lt (Nat.lt_of_lt_of_le (Heap.lt_size e) hC)
 have stk:∀ b,b ≠ X.env.locals->b ∉ X.fs->b ∉ frs X.stack:=fun b h1 h2 hb=>(List.mem_cons.mp (I.stkSub b hb)).elim h1 h2
 have cellK:∀ x c v,(clo X.env.cells scope.names []).lookup x = some c->s.heap.IsCell c v->s1.heap.IsCell c v:=fun x c v _ ⟨o,e,d⟩=>⟨o,k c o e,d⟩
 refine ⟨⟨I.ok.mod,S.kind,I.ok.glob,I.ok.blt,hC,fun x y c h1 h2=>I.ok.inj x y c (S.sub I.ok h1) (S.sub I.ok h2),fun x hx=>?_,(fun x c z=>by cases z),I.ok.hd,I.ok.frames,.inl rfl,fun b hb=>?_,I.bs,Nat.le_trans I.ok.bsz I.sz,fun b o e hb=>?_,fun b hb=>?_,I.stack,I.stkFree⟩,
  hos,by rw [hg];exact I.bare,Un.kept k,⟨m,hn,fun i x v h1 h2 _=>aCS S I cellK i x v h1 h2⟩,fun x c e=>?_,I.hok.fresh hC,fun x c e=>I.freeC x c (S.sub I.ok e),fun p hp=>?_,I.hok.kept k,?_⟩
 ·have hx:(relabel scope X.env).names.lookup x = some .cell ∨ (relabel scope X.env).names.lookup x = some .free:=hx
  rw [pN] at hx
  have hfree:(x,NameKind.free) ∈ scope.names:=by
   cases e:scope.names.lookup x with
   | none=>rw [e] at hx;rcases hx with z | z<;>cases z
   | some kk =>
    rw [e] at hx
    have hm:=PySem.mem_of_lookup e
    cases kk with
    | free=>exact hm
    | cell=>exact absurd rfl (S.nocell _ hm)
    | _=>rcases hx with z | z<;>cases z
  exact aAp (.inl hfree)
 ·obtain ⟨o,e⟩:=ho b hb
  obtain ⟨_,_,_,_,f4,_⟩:=hf b hb
  exact ⟨lt b o e,fun x c z=>f4 x c (S.sub I.ok z)⟩
 ·obtain ⟨_,_,_,f3,_⟩:=hf b hb
  rcases f3 with z | z
  ·exact I.ok.noex b o e z
  ·exact absurd (Nat.lt_of_lt_of_le (Heap.lt_size e) (Nat.le_trans I.ok.bsz z)) (Nat.lt_irrefl _)
 ·obtain ⟨_,f1,f2,_⟩:=hf b hb
  exact stk b f1 f2
 ·obtain ⟨v,z⟩:=I.cell x c (S.sub I.ok e)
  exact ⟨v,cellK x c v e z⟩
 ·rw [List.append_nil] at hp
  obtain ⟨e,n,ne,nf,d⟩:=I.pin p hp
  exact ⟨k p.1 p.2 e,n,lt p.1 p.2 e,stk p.1 ne nf,d⟩
 ·unfold tW
  rw [List.length_map]
  exact S.len
theorem aDV (S:gF X N' fr scope) {s1:Shared} {H1:Hp} {σ1:St} {pl:List (Addr × Obj)} (I:Inv X pins σ H s) (J:Inv (X.blk N' scope C s H fp pins) pl σ1 H1 s1):Inv (X.blk N' scope C s H fp pins) pl (tW fr σ) H1 s1:=by
 obtain ⟨m,hn,_⟩:=id J.loc
 refine ⟨J.ok,J.os,J.bare,J.base,⟨m,hn,fun i x v h1 h2 _=>aCS S I (fun x c v e z=>?_) i x v h1 h2⟩,J.cell,J.free,J.freeC,J.pin,J.hok,?_⟩
 ·obtain ⟨o,eo,d⟩:=z
  have e':=S.sub I.ok e
  have hfree:=I.freeC x c e'
  have nex:c ∉ fp:=fun hb=>(J.ok.exf c hb).2 x c e rfl
  by_cases hfs:c ∈ frs X.stack
  ·obtain ⟨sl,q⟩:=J.base.slot c o eo hfree hfs nex
   exact ⟨_,q,d⟩
  ·exact ⟨o,J.base.keep c o eo hfree hfs nex,d⟩
 ·unfold tW
  rw [List.length_map]
  exact S.len
end
section
variable {prog:Program} {w:World} {A:Around} {R:Result->Shared->Prop} {s:Shared}
theorem oF {elt target iter:Expr} {scope:Scope} {pos:Pos} {it acc:Value} {env:Env} (I:Nat->Shared->Prop)
  (turn:∀ n s,I n s->wpAny (model prog w) A (pyNext it) (fun r s₁=>match r with
   | none=>R (.ok .next) s₁
   | some v=>wpAny (model prog w) A (letOwnedTupleGo target it v) (fun _ s₁'=>wpAny (model prog w) A (assign target env v) (fun _ s₂=>wpAny (model prog w) A (eval elt env) (fun x s₃ =>
     wpAny (model prog w) A (call (.builtin "list.append") [acc,x]) (fun _ s₄=>∃ m,m < n/\I m s₄) (fun _ _=>False) s₃)
     (fun _ _=>False) s₂) (fun _ _=>False) s₁') (fun _ _=>False) s₁) (fun _ _=>False) s)
  (n:Nat) (h:I n s):codeAny (model prog w) A (.compLoop (.ListComp elt [⟨target,iter,[],0⟩] scope pos) 0 it acc env) R s:=by
 refine codeAny_loop rfl I (fun n s hI=>?_) n h
 show wpAny _ _ ((compTurn (.ListComp elt [⟨target,iter,[],0⟩] scope pos) 0 it acc env).onRaise (fun x=>do noteFrame x env;theTreesLotGoes x)) _ _ s
 refine wpAny_noted ?_
 rw [compTurn_list1]
 refine wpAny_bind (wpAny_standAt (wpAny_bind (wpAny_mono (turn n s hI) (fun r s₁ h₁=>?_) fun _ _ h'=>h'.elim)))
 cases r with
 | none=>exact wpAny_pure h₁
 | some v =>
  exact wpAny_bind (wpAny_mono h₁ (fun _ s₁' h₁'=>wpAny_bind (wpAny_mono h₁' (fun _ s₂ h₂=>wpAny_bind (wpAny_bind (wpAny_mono h₂ (fun x s₃ h₃=>wpAny_bind (wpAny_mono h₃
   (fun _ s₄ h₄=>wpAny_pure (wpAny_pure ⟨rfl,h₄⟩)) fun _ _ h'=>h'.elim)) fun _ _ h'=>h'.elim))) fun _ _ h'=>h'.elim)) fun _ _ h'=>h'.elim)
end
theorem Inv.track {X:Cx} {pins:List (Addr × Obj)} {σ:St} {H:Hp} {s:Shared} {d:Addr} {ys:List V} (I:Inv X pins σ H s) (hn:H d = none) (hs:X.s₀.heap.objs.size<=d) (hL:d ≠ X.env.locals) (hc:∀ x c,X.env.cells.lookup x = some c->c ≠ d) (hp:∀ p ∈ X.pn ++ pins,p.1 ≠ d) (new:fN X.prog X.w (upd H d (.lst ys)) s.heap d (.lst ys)):Inv X pins σ (upd H d (.lst ys)) s:=by
 have ne0:∀ b o,X.s₀.heap.get? b = some o->b ≠ d:=fun b o e=>Nat.ne_of_lt (Nat.lt_of_lt_of_le (Heap.lt_size e) hs)
 refine ⟨I.ok,I.os,I.bare,⟨I.base.keep,I.base.slot,fun b o e n hx=>?_,I.base.there,fun b xs e=>?_,fun b o u e=>?_,fun b ps e=>?_⟩,I.loc,I.cell,?_,fun x c e=>?_,fun p hpp=>?_,fun b u e=>?_,I.len⟩
 ·rw [bO (ne0 b o e)];exact I.base.free b o e n hx
 ·have:=I.base.tups b xs e
  rw [bO (cG this hn)];exact this
 ·have:=I.base.frzs b o u e
  rw [bO (cG this hn)];exact this
 ·obtain ⟨more,q⟩:=I.base.tbls b ps e
  exact ⟨more,by rw [bO (cG q hn)];exact q⟩
 ·rw [bO (Ne.symm hL)];exact I.free
 ·rw [bO (hc x c e)];exact I.freeC x c e
 ·obtain ⟨e,n,r⟩:=I.pin p hpp
  exact ⟨e,by rw [bO (hp p hpp)];exact n,r⟩
 ·by_cases hb:b = d
  ·subst hb;rw [eN] at e;cases e;exact new
  ·rw [bO hb] at e
   exact (I.hok b u e).stay (fun c v _ q=>q) (fun c q=>by rw [bO (cG q hn)];exact q) fun c xs q=>by rw [bO (cG q hn)];exact q
noncomputable def tLc (wi:TI) (fr:List (Option Nat)) (g:TG) (te:TE):TE:=fun σ H Q=>wi σ H fun J H1=>∃ W:Nat->Nat->List V->Hp->Prop,(∃ m,W 0 m [] H1)/\∀ i m ys H,W i m ys H ->
 (J.stop i H/\ys.length<=sizeLine/\∀ p,H p = none->Q (.ref p) (upd H p (.lst ys))) ∨
 (J.go i H/\ys.length<=sizeLine/\∀ x H',J.yld i H x H'->g x (tW fr σ) H' fun σ2 H2=>te σ2 H2 fun y H3=>∃ m',m' < m/\W (i + 1) m' (ys ++ [y]) H3)
structure CF (X:Cx) (pins:List (Addr × Obj)) (H:Hp) (C:Addr):Prop where
 none:H C = none
 loc:C ≠ X.env.locals
 sz:X.s₀.heap.objs.size<=C
 cel:∀ x c,X.env.cells.lookup x = some c->c ≠ C
 pin:∀ p ∈ X.pn ++ pins,p.1 ≠ C
theorem aGZ {X:Cx} {elt iter tg:Expr} {scope:Scope} {pos pos2:Pos} {N':List Str} {fr:List (Option Nat)} {wi:TI} {g:TG} {te:TE} (S:gF X N' fr scope) (hc:X.calm = true) (hi:PI X tg iter wi)
  (hg:∀ C s H fp pins,PG (X.blk N' scope C s H fp pins) tg g) (he:∀ C s H fp pins,PE (X.blk N' scope C s H fp pins) elt te) (hs:∀ x,foldedSetIterable iter X.env x = pure x)
  {pins:List (Addr × Obj)} {s:Shared} {σ:St} {H:Hp} {Q:VK} (I:Inv X pins σ H s) (h:tLc wi fr g te σ H Q) (use:Option (Value->Sem Unit)) (Post:Value->Shared->Prop)
  (fin:∀ D C H' s4 m,Inv X pins σ H' s4->s4.heap.Ns C m->CF X pins H' C->Q (.ref D) H'->compPost (model X.prog X.w) X.A X.xe use Post (.ref D) C (.ok .next) s4) :
  wpAny (model X.prog X.w) X.A (comprehension (.ListComp elt [⟨tg,iter,[],0⟩] scope pos) scope X.env pos2 (newList []) false (eval iter X.env) use) Post X.xe s:=by
 refine wpAny_comprehension_free (use:=use) rfl hs (aBq (S.hasC I.ok)) S.kind S.names ?_
 show wpAny _ _ (eval iter X.env) _ _ s
 refine thn (hi pins s σ H _ I h) fun v s1 h1=>thn h1 fun itv s2 h2=>?_
 obtain ⟨it,fp,tn,J,H2,e,I2,T,st2,f2,W,⟨m0,w0⟩,turn⟩:=h2
 subst e
 refine wpAny_newObj_type (wpAny_newFunctionEnv S.nocell (by intro y hy;simp at hy) (fun h₁ hns₁ hsb₁=>?_) S.kind)
 dsimp only at hns₁ hsb₁ ⊢
 generalize hHp:s2.heap.push { cls:=.type "list",dict:=none,data:=.seq ([]:List Value).toArray } = HP at hns₁ hsb₁ ⊢
 have hC:HP.objs.size = s2.heap.objs.size + 1:=by rw [<- hHp,Heap.size_push]
 generalize hCe:HP.objs.size = C at hns₁ hsb₁ ⊢
 generalize hDe:s2.heap.objs.size = D at hC ⊢
 have hDC:D ≠ C:=by omega
 have hCle:s2.heap.objs.size<=C:=by omega
 have old:∀ b o,s2.heap.get? b = some o->h₁.get? b = some o:=fun b o e=>hsb₁.extBut b o (Nat.ne_of_lt (Nat.lt_of_lt_of_le (Heap.lt_size e) hCle)) (Heap.get?_push_of_some _ (hHp ▸ Heap.get?_push_of_some _ e))
 have hD1:h₁.PlainList D #[]:=⟨_,by
  refine hsb₁.extBut _ _ hDC (Heap.get?_push_of_some _ ?_)
  rw [<- hHp,<- hDe]
  exact Heap.get?_push_size _ rfl⟩
 have ltf:∀ b ∈ fp,b < D:=fun b hb=>by
  obtain ⟨o,e,_⟩:=T.obj _ _ st2 b hb
  exact Nat.lt_of_lt_of_eq (Heap.lt_size e) hDe
 have J0:=aHk (s1:={ s2 with heap:=h₁,toks:=s2.toks + ([]:List (Str × Value)).length }) S I2 f2 (fun b hb=>let ⟨o,e,_⟩:=T.obj _ _ st2 b hb;⟨o,e⟩) rfl rfl hCle old hns₁
 have ltC:∀ b,b < D->b ≠ C:=fun b hb=>Nat.ne_of_lt (Nat.lt_of_lt_of_le hb (by rw [<- hDe];exact hCle))
 have old2:∀ b o,s2.heap.get? b = some o->b < D:=fun b o e=>Nat.lt_of_lt_of_eq (Heap.lt_size e) hDe
 have neD:∀ b o,s2.heap.get? b = some o->b ≠ D:=fun b o e=>Nat.ne_of_lt (old2 b o e)
 have hDs:s2.heap.objs.size<=D:=Nat.le_of_eq hDe
 have hDfs:D ∉ frs X.stack:=fun hb=>by
  rcases List.mem_cons.mp (I2.stkSub D hb) with z | z
  ·have:=I2.lt
   rw [<- z] at this
   exact absurd (Nat.lt_of_lt_of_le this hDs) (Nat.lt_irrefl _)
  ·exact I2.nofs hDs z
 have cellD:∀ x c,X.env.cells.lookup x = some c->c ≠ D/\c ≠ C:=fun x c e=>by
  obtain ⟨v,o,ho,_⟩:=I2.cell x c e
  exact ⟨neD c o ho,ltC c (old2 c o ho)⟩
 have pinD:∀ p ∈ X.pn ++ pins,p.1 ≠ D/\p.1 ≠ C:=fun p hp=>by
  have e:=(I2.pin p hp).1
  exact ⟨neD _ _ e,ltC _ (old2 _ _ e)⟩
 have fpok:∀ (pl:List (Addr × Obj)) (H':Hp),(∀ b ∈ fp,H' b = none)->(∀ p ∈ pl,∀ b ∈ fp,p.1 ≠ b)->∀ b ∈ fp,aB9 (X.blk N' scope C s2 H2 fp pins) pl H' b:=fun pl H' hn hpl b hb=>by
  refine ⟨hn b hb,ltC b (ltf b hb),J0.ok.exfs b hb,.inl hb,(J0.ok.exf b hb).2,fun p hp=>?_⟩
  rcases List.mem_append.mp hp with z | z
  ·exact (f2 b hb).2.2.2.2.2 p z
  ·exact hpl p z b hb
 have loop:codeAny (model X.prog X.w) X.A (.compLoop (.ListComp elt [⟨tg,iter,[],0⟩] scope pos) 0 (.ref it) (.ref D) (compEnvC scope (clo X.env.cells scope.names []) C X.env))
   (compPost (model X.prog X.w) X.A X.xe use Post (.ref D) C) { s2 with heap:=h₁,toks:=s2.toks + ([]:List (Str × Value)).length }:=by
  refine oF (fun n s'=>∃ i H' ys its,Inv (X.blk N' scope C s2 H2 fp pins) [] (tW fr σ) H' s'/\tn i s'.heap/\(∀ b ∈ fp,H' b = none)/\s'.heap.PlainList D its/\H' D = none/\cD ys its.toList/\W i n ys H') ?_ m0
   ⟨0,H2,[],#[],J0,T.keep _ _ _ st2 fun b hb o e=>old b o e,fun b hb=>(f2 b hb).1,hD1,I2.hok.fresh hDs,.nil,w0⟩
  rintro n s3 ⟨i,H3,ys,its,I3,st3,fr3,⟨nn,pl3⟩,hD3,rv3,w3⟩
  have I3p:Inv (X.blk N' scope C s2 H2 fp pins) [(D,{ cls:=.type "list",data:=.seq its nn })] (tW fr σ) H3 s3:=I3.pins_of fun p hp=>by
   have e:=List.mem_singleton.mp hp
   subst e
   exact ⟨pl3,hD3,hDC,hDfs,fun v z=>by cases z⟩
  have pf:∀ p ∈ [((D,{ cls:=.type "list",data:=.seq its nn }):Addr × Obj)],∀ b ∈ fp,p.1 ≠ b:=fun p hp b hb=>by
   have e:=List.mem_singleton.mp hp
   subst e
   exact (Nat.ne_of_lt (ltf b hb)).symm
  rcases turn i n ys H3 w3 with ⟨stop,hz,q⟩ | ⟨go,hz,step⟩
  ·refine thn (T.done (X.blk N' scope C s2 H2 fp pins) rfl rfl rfl hc i _ s3 _ H3 (fun _ _=>False) I3p (fpok _ H3 fr3 pf) st3 stop) fun r s4 ⟨hr,I4⟩=>?_
   subst hr
   obtain ⟨mm,hn4,_⟩:=id I4.loc
   have pD:=(I4.pin _ (List.mem_append_right _ List.mem_cons_self)).1
   have IX:Inv X pins σ H3 s4:=I2.call' I4.os I4.base I4.hok I4.bare fun b hb=>⟨(f2 b hb).2.2.2.1,(f2 b hb).2.1,(f2 b hb).2.2.2.2.1,(f2 b hb).2.2.2.2.2⟩
   have CL:C ≠ X.env.locals:=(Nat.ne_of_lt (Nat.lt_of_lt_of_le I2.lt hCle)).symm
   have DL:D ≠ X.env.locals:=(Nat.ne_of_lt (Nat.lt_of_lt_of_le I2.lt hDs)).symm
   refine fin D C (upd H3 D (.lst ys)) s4 mm (IX.track hD3 (Nat.le_trans I2.sz hDs) DL (fun x c e=>(cellD x c e).1) (fun p hp=>(pinD p hp).1) ⟨hz,its.toList,nn,rv3,pD⟩) hn4 ⟨by rw [bO (Ne.symm hDC)];exact I4.free,CL,Nat.le_trans I2.sz hCle,fun x c e=>(cellD x c e).2,fun p hp=>(pinD p hp).2⟩ (q D hD3)
  ·refine thn (T.item (X.blk N' scope C s2 H2 fp pins) rfl rfl rfl hc i _ s3 _ H3 (fun _ _=>False) I3p (fpok _ H3 fr3 pf) st3 go) fun r s4 ⟨u,hr,h4⟩=>?_
   subst hr
   refine thn h4 fun _ s5 ⟨x,H5,I5,r5,y5,st5,fr5⟩=>?_
   have I5':=I5.pinned (fpok _ H5 fr5 pf) (T.obj _ _ st5)
   refine thn (hg C s2 H2 fp pins _ s5 _ H5 x u _ I5' r5 (step x H5 y5)) fun _ s6 ⟨σ6,H6,I6,q6⟩=>?_
   refine thn (he C s2 H2 fp pins _ s6 σ6 H6 _ I6 q6) fun yv s7 ⟨y,H7,I7,ry,m',hm,w7⟩=>?_
   obtain ⟨pD,nD,_⟩:=I7.pin _ (List.mem_append_right _ (List.mem_append_left _ List.mem_cons_self))
   have lz:its.size<=sizeLine:=by
    have e:ys.length = its.size:=by rw [rv3.length];simp
    rw [<- e];exact hz
   refine wpAny_list_append_plain (hsz:=lz) ⟨nn,pD⟩ fun h8 pl8 sb8=>?_
   have I7a:Inv (X.blk N' scope C s2 H2 fp pins) [] σ6 H7 s7:=I7.pins_of fun p hp=>nomatch hp
   have I8:Inv (X.blk N' scope C s2 H2 fp pins) [] σ6 H7 { s7 with heap:=h8,toks:=s7.toks }:=I7a.turned (it:=D) (fun b o hb e=>sb8.extBut b o hb e) nD hDC (.inr hDs) (fun x c e=>(cellD x c (S.sub I2.ok e)).1) fun p hp=>by
    rw [List.append_nil] at hp
    exact (pinD p hp).1
   refine ⟨m',hm,i + 1,H7,ys ++ [y],its.push yv,aDV S I2 I8,?_,fun b hb=>?_,pl8,nD,?_,w7⟩
   ·refine T.keep _ _ _ st5 fun b hb o e=>sb8.extBut b o (Nat.ne_of_lt (ltf b hb)) (I7.pin (b,o) (List.mem_append_right _ (List.mem_append_right _ (mU hb e)))).1
   ·obtain ⟨o,e,d⟩:=T.obj _ _ st5 b hb
    exact (I7.pin (b,o) (List.mem_append_right _ (List.mem_append_right _ (mU hb e)))).2.1
   ·rw [Array.toList_push]
    exact rv3.append (.cons ry .nil)
 exact codeAny_compStart_list loop (T.self _ _ _ _ _ (T.keep _ _ _ st2 fun b hb o e=>old b o e) loop)
theorem aHA {X:Cx} {elt iter tg:Expr} {scope:Scope} {pos:Pos} {N':List Str} {fr:List (Option Nat)} {wi:TI} {g:TG} {te:TE} (S:gF X N' fr scope) (hc:X.calm = true) (hi:PI X tg iter wi)
  (hg:∀ C s H fp pins,PG (X.blk N' scope C s H fp pins) tg g) (he:∀ C s H fp pins,PE (X.blk N' scope C s H fp pins) elt te) (hs:∀ x,foldedSetIterable iter X.env x = pure x:=by intro _;rfl) :
  PE X (.ListComp elt [⟨tg,iter,[],0⟩] scope pos) (tLc wi fr g te):=by
 intro pins s σ H Q I h
 rw [eval_ListComp]
 refine aGZ S hc hi hg he hs I h none (EP X pins σ Q) fun D C H' s4 m J hn F q=>⟨m,hn,fun h' sb=>?_⟩
 exact ⟨.ref D,H',J.turned (t':=s4.toks) (it:=C) (fun b o hb e=>sb.extBut b o hb e) F.none F.loc (.inr F.sz) F.cel F.pin,rfl,q⟩
end L2
namespace Dd
open PySem PySem.Spec PyProof.Rows L2
noncomputable def yS (fr:List (Option Nat)) (ρ:cO):cO:=fr.map fun o=>match o with
 | some j=>(ρ[j]?).join
 | none=>none
section
variable {K:PySem.W.Frag} {H:Hp} {ρ:cO} {σ:L2.St}
theorem aE6 (re:hJ K H ρ σ) (fr:List (Option Nat)):hJ K H (yS fr ρ) (tW fr σ):=by
 refine ⟨by unfold yS tW;rw [List.length_map,List.length_map],fun i d e=>?_⟩
 unfold yS at e
 unfold tW
 rw [List.getElem?_map] at e ⊢
 cases hf:fr[i]? with
 | none=>rw [hf] at e;cases e
 | some o =>
  rw [hf] at e
  cases o with
  | none=>cases e
  | some j =>
   have e:(ρ[j]?).join = some d:=Option.some.inj e
   have e2:ρ[j]? = some (some d):=by
    cases h:ρ[j]? with
    | none=>rw [h] at e;cases e
    | some o=>rw [h] at e;rw [show o = some d from e]
   obtain ⟨v,hv,r⟩:=re.get j d e2
   refine ⟨v,?_,r⟩
   show some (σ[j]?).join = some (some v)
   rw [hv]
   rfl
end
noncomputable def aBR (at':Option Addr) (ds:List D) (ρ0:cO) (g:DG) (te:DE) (M:DM) (Q:DQ):Prop:=ds.length<=1000/\∃ Pv:Nat->List D->DM->Prop,Pv 0 [] M /\
 (∀ i ys M,i<=ds.length->Pv i ys M->∀ a,at' = some a->M a = some ds) /\
 (∀ i d ys M,ds[i]? = some d->Pv i ys M->g d ρ0 M fun ρ2 M2=>te ρ2 M2 fun y M3=>Pv (i + 1) (ys ++ [y]) M3) /\
 ∀ ys M,ys.length = ds.length->Pv ds.length ys M->∀ p:Addr,M p = none->Q (.ref p) (bJ M p ys)
noncomputable def aIy (tl:DE) (fr:List (Option Nat)) (g:DG) (te:DE):DE:=fun ρ M Q=>tl ρ M fun d M1=>match d with
 | .fz ds=>aBR none ds (yS fr ρ) g te M1 Q
 | .ref a=>∃ ds,M1 a = some ds/\aBR (some a) ds (yS fr ρ) g te M1 Q
 | _=>False
noncomputable def aJz (tl:DE) (fr:List (Option Nat)) (g:DG) (te:DE):DE:=fun ρ M Q=>tl ρ M fun d M1=>match d with
 | .tup ds=>aBR none ds (yS fr ρ) g te M1 Q
 | _=>False
section
variable {X:Cx} {g:DG} {te:DE}
theorem aCb {K:PySem.W.Frag} {a':Option Addr} {ds:List D} {fr:List (Option Nat)} {σ:L2.St} {ρ:cO} {M:DM} {H0 H:Hp} {J:It} {Q:VK} {Q':DQ} (ex0:Ext H0 H) (re:hJ K H ρ σ) (hm:cN K M H) (h:aBR a' ds (yS fr ρ) g te M Q') (kq:∀ v H',LQ K H0 Q' v H'->Q v H')
  (seq:∀ H',Ext H H'->(∀ M',cN K M' H'->(∀ a,a' = some a->M' a = some ds)->∃ xs,bR K H' ds xs/\(∀ i,xs.length<=i->J.stop i H')/\(∀ i,i < xs.length->J.go i H')/\∀ i x H2,J.yld i H' x H2->H2 = H'/\xs[i]? = some x)) :
  ∃ W:Nat->Nat->List V->Hp->Prop,(∃ m,W 0 m [] H)/\∀ i m ys H,W i m ys H ->
   (J.stop i H/\ys.length<=sizeLine/\∀ p,H p = none->Q (.ref p) (upd H p (.lst ys))) ∨
   (J.go i H/\ys.length<=sizeLine/\∀ x H',J.yld i H x H'->aCE K g x (tW fr σ) H' fun σ2 H2=>low K te σ2 H2 fun y H3=>∃ m',m' < m/\W (i + 1) m' (ys ++ [y]) H3):=by
 obtain ⟨hl,Pv,p0,hat,step,done⟩:=h
 refine ⟨fun i m ysV H'=>∃ ys M',bR K H' ys ysV/\cN K M' H'/\Ext H H'/\m = ds.length - i/\i<=ds.length/\ys.length = i/\Pv i ys M',⟨ds.length,[],M,dF,hm,.refl H,rfl,Nat.zero_le _,rfl,p0⟩,?_⟩
 rintro i m ysV H1 ⟨ys,M1,ry,hm1,e1,rfl,hi,ly,w1⟩
 obtain ⟨xs,rs,hst,hgo,hy⟩:=seq H1 e1 M1 hm1 (hat i ys M1 hi w1)
 have hll:=rs.length
 have lz:ysV.length<=sizeLine:=by rw [<- ry.length];exact Nat.le_of_lt (fK (by omega))
 by_cases hlt:i < ds.length
 ·refine .inr ⟨hgo i (by omega),lz,fun x H' y=>?_⟩
  obtain ⟨rfl,hx⟩:=hy i x H' y
  obtain ⟨d,hd,rd⟩:=rs.getV hx
  refine ⟨d,yS fr ρ,M1,_,rd,aE6 (re.ext e1) fr,hm1,step i d ys M1 hd w1,fun σ2 H2 ⟨ρ2,M2,re2,hm2,e2,q2⟩=>?_⟩
  refine ⟨ρ2,M2,_,re2,hm2,q2,fun v H3 ⟨dy,M3,rdy,hm3,e3,q3⟩=>?_⟩
  exact ⟨ds.length - (i + 1),by omega,ys ++ [dy],M3,(ry.ext (e2.trans e3)).append (cJ rdy dF),hm3,(e1.trans e2).trans e3,rfl,hlt,by rw [List.length_append,ly];rfl,q3⟩
 ·have e:i = ds.length:=by omega
  subst e
  exact .inl ⟨hst _ (by omega),lz,fun p hp=>kq _ _ ⟨.ref p,_,jU,hm1.lnew hp ry,(ex0.trans e1).trans (Ext.new hp _),done ys M1 ly w1 p (hm1.fresh hp)⟩⟩
variable {elt iter tg:Expr} {scope:Scope} {pos:Pos} {N':List Str} {fr:List (Option Nat)} {tl:DE} {ta:DA} {oN:List Str} {osc:Scope}
theorem aJU (B:aB8 oN osc N' fr scope) (hc:X.calm = true) (hi:PDE X iter tl) (hg:∀ C s H fp pins,PG (X.blk N' scope C s H fp pins) tg (aCE X.K g)) (he:∀ C s H fp pins,PE (X.blk N' scope C s H fp pins) elt (low X.K te)) (hN:X.N = oN:=by rfl) (ho:X.env.scope = osc:=by rfl) (hs:∀ x,foldedSetIterable iter X.env x = pure x:=by intro _;rfl) :
  PDE X (.ListComp elt [⟨tg,iter,[],0⟩] scope pos) (aIy tl fr g te) :=
 cS (aHA (B.scope hN ho) hc (aCX hi) hg he hs) fun σ H Q ⟨ρ,M,Q',re,hm,q,k⟩=>⟨ρ,M,_,re,hm,q,fun v H1 ⟨d,M1,rd,hm1,ex,q1⟩=>by
  cases d with
  | fz ds =>
   obtain ⟨a,xs,rfl,sq,rs⟩:=pC rd
   exact ⟨a,rfl,⟨xs,sq.sq⟩,aCb ex (re.ext ex) hm1 q1 k fun H' e' M' hm' _=>⟨xs,rs.ext e',fun i hi=>⟨xs,(nN e' sq).sq,hi⟩,fun i hi=>⟨xs,xs[i],(nN e' sq).sq,by simp [hi]⟩,fun i x H2 y=>⟨y.1,y.2 xs (nN e' sq).sq⟩⟩⟩
  | ref a =>
   obtain ⟨ds,ha,q1⟩:=q1
   obtain rfl:=bK rd
   obtain ⟨xs,hx,rs⟩:=hm1.l a ds ha
   refine ⟨a,rfl,⟨xs,.of hx⟩,aCb ex (re.ext ex) hm1 q1 k fun H' e' M' hm' hat=>?_⟩
   obtain ⟨ys,hy,rs'⟩:=hm'.l a ds (hat a rfl)
   exact ⟨ys,rs',fun i hi=>⟨ys,.of hy,hi⟩,fun i hi=>⟨ys,ys[i],.of hy,by simp [hi]⟩,fun i x H2 y=>⟨y.1,y.2 ys (.of hy)⟩⟩
  | _=>exact q1.elim⟩
theorem aKo (B:aB8 oN osc N' fr scope) (hc:X.calm = true) (hi:PDE X iter tl) (hg:∀ C s H fp pins,PG (X.blk N' scope C s H fp pins) tg (aCE X.K g)) (he:∀ C s H fp pins,PE (X.blk N' scope C s H fp pins) elt (low X.K te)) (hN:X.N = oN:=by rfl) (ho:X.env.scope = osc:=by rfl) (hs:∀ x,foldedSetIterable iter X.env x = pure x:=by intro _;rfl) :
  PDE X (.ListComp elt [⟨tg,iter,[],0⟩] scope pos) (aJz tl fr g te) :=
 cS (aHA (B.scope hN ho) hc (aEE hi) hg he hs) fun σ H Q ⟨ρ,M,Q',re,hm,q,k⟩=>⟨ρ,M,_,re,hm,q,fun v H1 ⟨d,M1,rd,hm1,ex,q1⟩=>by
  cases d with
  | tup ds =>
   obtain ⟨a,xs,rfl,sq,rs⟩:=cA rd
   exact ⟨a,rfl,⟨xs,sq⟩,aCb ex (re.ext ex) hm1 q1 k fun H' e' M' hm' _=>⟨xs,rs.ext e',fun i hi=>⟨xs,mQ e' sq,hi⟩,fun i hi=>⟨xs,xs[i],mQ e' sq,by simp [hi]⟩,fun i x H2 y=>⟨y.1,y.2 xs (mQ e' sq)⟩⟩⟩
  | _=>exact q1.elim⟩
end
end Dd
namespace L2
open PySem PySem.Spec PyProof.Rows
variable {X:Cx}
theorem yH (hc:X.calm = true):mK X (.builtin "all") (fun xs H Q=>∃ (p:Addr) (bs:List Bool),xs = [.ref p]/\SqL X.K H p (bs.map V.bl)/\Q (.bl (bs.all id)) H):=by
 intro pins s σ H xs us Q I r h
 obtain ⟨p,bs,rfl,hq,q⟩:=h
 obtain ⟨u,rfl,rx⟩:=yE r
 cases rx
 obtain ⟨its,r',pl,hz⟩:=I.list hq
 have hl:=pl.isList
 have hlt:p < s.heap.objs.size:=by obtain ⟨_,e,_⟩:=hl;exact Heap.lt_size e
 have hg:∀ (i:Nat) (v:Value),its.toArray[i]? = some v->∃ b,bs[i]? = some b/\v = Value.bool b:=fun i v e=>by
  obtain ⟨x,hx,rv⟩:∃ x,(bs.map V.bl)[i]? = some x/\cM x v:=by
   have:=r'.length
   have hi:i < its.length:=by
    have:=(Array.getElem?_eq_some_iff.mp e).1
    simpa using this
   have hi':i < (bs.map V.bl).length:=by omega
   obtain ⟨w,hw,rw'⟩:=r'.get (i:=i) (List.getElem?_eq_getElem hi')
   have:w = v:=by
    have e':its[i]? = some v:=by simpa using e
    rw [e'] at hw;exact (Option.some.inj hw).symm
   subst this
   exact ⟨_,List.getElem?_eq_getElem hi',rw'⟩
  rw [List.getElem?_map] at hx
  cases hb:bs[i]? with
  | none=>rw [hb] at hx;cases hx
  | some b=>rw [hb] at hx;cases hx;cases rv;exact ⟨b,rfl,rfl⟩
 refine call_all_walk (wpAny_pyIter_list hl ?_)
 refine ⟨s.heap.objs.size,[s.heap.objs.size,p],[s.heap.objs.size],its.toArray.size,_,_,fun i=>(bs[i]?).getD true,rfl,Walks.list (A:=X.A.in1) (I.ok.hd hc) _ p (Nat.ne_of_lt hlt) its.toArray,
  ⟨⟨_,Heap.get?_push_size _ rfl,rfl,rfl⟩,hl.push _⟩,fun i v s' Q' E' hP hQ=>?_,fun h' tk hk=>?_⟩
 ·obtain ⟨b,e,rfl⟩:=hg i v hP
  simp only [e,Option.getD_some] at hQ
  exact wpAny_truthy_bool hQ
 ·have e:((List.range its.toArray.size).all fun i=>(bs[i]?).getD true) = bs.all id:=by
   have l1:=r'.length
   rw [List.length_map] at l1
   rw [List.size_toArray,<- l1];exact LSm.range_all bs
  rw [e]
  exact ⟨.bl (bs.all id),H,I.kept (t':=tk) (LSm.kept_iter hk),rfl,q⟩
end L2
namespace Dd
open PySem PySem.Spec PyProof.Rows L2
variable {X:Cx}
noncomputable def aLw:DSp:=fun ds M Q=>match ds with
 | [.ref a]=>∃ bs:List Bool,M a = some (bs.map D.bl)/\Q (.bl (bs.all id)) M
 | _=>False
theorem aBi {K:PySem.W.Frag} {H:Hp}:∀ {bs:List Bool} {vs:List V},bR K H (bs.map D.bl) vs->vs = bs.map V.bl
 | [],_,h=>bU h
 | b :: bs,_,h=>by
  obtain ⟨v,r,rfl,hv,hr⟩:=aX h
  rw [cH hv,aBi hr]
  rfl
theorem aJj (hc:X.calm = true):gS X (.builtin "all") aLw:=gS.of (yH hc) fun vs H M ds Q rs hm q=>by
 rcases ds with _ | ⟨d,_ | ⟨d2,r⟩⟩
 ·exact q.elim
 ·cases d with
  | ref a =>
   obtain ⟨v,rfl,rv⟩:=iX rs
   obtain rfl:=bK rv
   obtain ⟨bs,ha,q⟩:=q
   obtain ⟨us,hu,ru⟩:=hm.l a _ ha
   obtain rfl:=aBi ru
   exact ⟨a,bs,rfl,.of hu,_,M,eU,hm,.refl H,q⟩
  | _=>exact q.elim
 ·cases d<;>exact q.elim
section
variable {g:DG} {te:DE} {tb:DS} {Q:DQ} {ρ0:cO}
noncomputable def itT (d:D) (ρ0:cO) (g:DG) (te:DE) (M:DM) (Q:DQ):Prop:=match d with
 | .tup ds=>aBR none ds ρ0 g te M Q
 | _=>False
theorem aGD {tl:DE} {fr:List (Option Nat)} {ρ:cO} {M:DM}:aJz tl fr g te ρ M Q = tl ρ M fun d M1=>itT d (yS fr ρ) g te M1 Q:=rfl
theorem aHo {ds:List D} {M:DM}:itT (.tup ds) ρ0 g te M Q = aBR none ds ρ0 g te M Q:=rfl
noncomputable def foT (d:D) (g:DG) (tb:DS) (E:iM) (ρ:cO) (M:DM):Prop:=match d with
 | .tup ds=>dIt none ds g tb E ρ M
 | _=>False
theorem aFK {tl:DE} {E:iM} {ρ:cO} {M:DM}:aBQ tl g tb E ρ M = tl ρ M fun d M1=>foT d g tb E ρ M1:=rfl
theorem aGO {ds:List D} {E:iM} {ρ:cO} {M:DM}:foT (.tup ds) g tb E ρ M = dIt none ds g tb E ρ M:=rfl
end
section
variable {e:Expr} {te:DE} {pos:Pos}
end
end Dd
namespace Dd
open PySem PySem.Spec PyProof.Rows L2
section
variable {X:Cx} {e:Expr} {te:DE} {pos p2:Pos} {lo hi:Option Expr} {tl th:DO}
noncomputable def aLi (x:D) (lo hi:Option Int) (M:DM) (Q:DQ):Prop:=match x with
 | .tup ds=>¬ (HT.sIx ds.length 0 lo = 0/\HT.sIx ds.length ds.length hi = ds.length)/\Q (.tup (cutD ds lo hi)) M
 | _=>False
noncomputable def aIQ (te:DE) (tl th:DO):DE:=fun ρ M Q=>te ρ M fun x M1=>tl ρ M1 fun l M2=>th ρ M2 fun h M3=>aLi x l h M3 Q
theorem aDQ (he:PDE X e te) (hl:PO X lo (xA X.K tl)) (hu:PO X hi (xA X.K th)):PDE X (.Subscript e (.Slice lo hi none p2) pos) (aIQ te tl th) :=
 cS (wO aFF he hl hu) fun σ H Q ⟨ρ,M,Q',re,hm,q,k⟩=>⟨ρ,M,_,re,hm,q,fun v H1 ⟨d,M1,rd,hm1,e1,q1⟩=>⟨ρ,M1,_,re.ext e1,hm1,q1,fun l H2 ⟨M2,hm2,e2,q2⟩=>⟨ρ,M2,_,(re.ext e1).ext e2,hm2,q2,fun h H3 ⟨M3,hm3,e3,q3⟩=>by
  have rd3:=(rd.ext e2).ext e3
  have ex:=(e1.trans e2).trans e3
  cases d with
  | tup ds =>
   obtain ⟨a,us,rfl,sq,ru⟩:=cA rd3
   have l1:=ru.length
   refine ⟨a,us,rfl,sq,by rw [<- l1];exact q3.1,fun p hp=>k _ _ ⟨.tup _,M3,cK (.of eN) ((sN ru l h).ext (Ext.new hp _)),hm3.new hp _,ex.trans (Ext.new hp _),q3.2⟩⟩
  | _=>exact q3.elim⟩⟩⟩
noncomputable def aKX (g:Bool->Bool):D2:=fun x y M Q=>match x,y with
 | .int k,.ref a=>∃ ns:List Int,M a = some (ns.map D.int)/\Q (.bl (g (ns.any (· == k)))) M
 | .str k,.ref a=>∃ ns:List Str,M a = some (ns.map D.str)/\Q (.bl (g (ns.any (· == k)))) M
 | _,_=>False
theorem qX {K:PySem.W.Frag} {H:Hp}:∀ {ns:List Int} {vs:List V} {its:List Value},bR K H (ns.map D.int) vs->cD vs its->IntsAre its ns
 | [],_,_,h,r=>by rw [bU h] at r;cases r;exact .nil
 | n :: ns,_,_,h,r=>by
  obtain ⟨v,rr,rfl,hv,hr⟩:=aX h
  rw [aU hv] at r
  cases r with
  | cons q w =>
   obtain ⟨t,rfl⟩:=q
   exact .cons _ _ (qX hr w)
theorem rK {K:PySem.W.Frag} {H:Hp}:∀ {ns:List Str} {vs:List V} {its:List Value},bR K H (ns.map D.str) vs->cD vs its->StrsAre its ns
 | [],_,_,h,r=>by rw [bU h] at r;cases r;exact .nil
 | n :: ns,_,_,h,r=>by
  obtain ⟨v,rr,rfl,hv,hr⟩:=aX h
  rw [cP hv] at r
  cases r with
  | cons q w =>
   obtain ⟨t,rfl⟩:=q
   exact .cons _ _ (rK hr w)
theorem sT:OpD X (compareOp .In) (aKX id):=fun pins s σ H x y v u Q I rx ry ⟨dx,dy,M,Q',r1,r2,hm,q,k⟩=>by
 cases dx with
 | int z =>
  cases dy with
  | ref a =>
   obtain ⟨ns,ha,q⟩:=q
   obtain rfl:=aU r1
   obtain rfl:=bK r2
   obtain ⟨t,rfl⟩:=rx
   cases ry
   obtain ⟨us,hu,ru⟩:=hm.l a _ ha
   obtain ⟨zz,its,nn,rv,hlen,e1⟩:=I.lstM hu
   exact in_list_ints ⟨_,e1,rfl,_,rfl⟩ (qX ru rv) ⟨.bl _,H,I,rfl,k _ H ⟨_,M,eU,hm,.refl H,q⟩⟩
  | _=>exact q.elim
 | str z =>
  cases dy with
  | ref a =>
   obtain ⟨ns,ha,q⟩:=q
   obtain rfl:=cP r1
   obtain rfl:=bK r2
   obtain ⟨t,rfl⟩:=rx
   cases ry
   obtain ⟨us,hu,ru⟩:=hm.l a _ ha
   obtain ⟨zz,its,nn,rv,hlen,e1⟩:=I.lstM hu
   exact in_list_strs ⟨_,e1,rfl,_,rfl⟩ (rK ru rv) ⟨.bl _,H,I,rfl,k _ H ⟨_,M,eU,hm,.refl H,q⟩⟩
  | _=>exact q.elim
 | _=>cases dy<;>exact q.elim
end
end Dd
namespace L2
open PySem PySem.Spec PyProof.Rows
open PySem.AutoSeq1 (wpAny_loadPart')
section
variable {X:Cx} {a n:Expr} {ta:TE} {tn:TA} {pos:Pos}
end
end L2
namespace Dd
open PySem PySem.Spec PyProof.Rows L2
section
variable {X:Cx} {a n:Expr} {ta:DE} {tn:DA} {pos p pos':Pos}
end
end Dd
namespace Dd
open PySem PySem.Spec PyProof.Rows L2
section
variable {X:Cx} {a b c e o:Expr} {es:List Expr} {ta tb tc te to:DE} {pos:Pos}
noncomputable def aA8 (r r':D2) (ta tb tc:DE):DE:=fun ρ M Q=>ta ρ M fun x M1=>tb ρ M1 fun y M2=>r x y M2 fun z M3=>match z with
 | .bl k=>if k = true then tc ρ M3 fun w M4=>r' y w M4 Q else Q (.bl false) M3
 | _=>False
theorem aDx {r r':D2} {σ:L2.St} {H:Hp} {Q:VK} (h:low X.K (aA8 r r' ta tb tc) σ H Q) :
  aFN (fun x y H Q=>∃ dx dy M Q',Rep X.K H dx x/\Rep X.K H dy y/\cN X.K M H/\r dx dy M Q'/\∀ v H',LQ X.K H Q' v H'->Q v H') (fun x y H Q=>∃ dx dy M Q',Rep X.K H dx x/\Rep X.K H dy y/\cN X.K M H/\r' dx dy M Q'/\∀ v H',LQ X.K H Q' v H'->Q v H') (low X.K ta) (low X.K tb) (low X.K tc) σ H Q:=by
 obtain ⟨ρ,M,Q',re,hm,q,k⟩:=h
 refine ⟨ρ,M,_,re,hm,q,fun x H1 ⟨dx,M1,rx,hm1,e1,q1⟩=>⟨ρ,M1,_,re.ext e1,hm1,q1,fun y H2 ⟨dy,M2,ry,hm2,e2,q2⟩=>⟨dx,dy,M2,_,rx.ext e2,ry,hm2,q2,fun z H3 ⟨dz,M3,rz,hm3,e3,q3⟩=>?_⟩⟩⟩
 cases dz with
 | bl k' =>
  refine ⟨k',cH rz,?_⟩
  cases k' with
  | false=>exact k _ H3 ⟨.bl false,M3,eU,hm3,(e1.trans e2).trans e3,q3⟩
  | true=>exact ⟨ρ,M3,_,((re.ext e1).ext e2).ext e3,hm3,q3,fun w H4 ⟨dw,M4,rw',hm4,e4,q4⟩=>⟨dy,dw,M4,Q',(ry.ext e3).ext e4,rw',hm4,q4,fun v H' zz=>k v H' (zz.back (((e1.trans e2).trans e3).trans e4))⟩⟩
 | _=>exact q3.elim
theorem aEQ {op op':CmpOp} {r r':D2} (ho:OpD X (compareOp op) r) (ho':OpD X (compareOp op') r') (ha:PDE X a ta) (hb:PDE X b tb) (hc:PDE X c tc) (hm:lastMarks [op,op'] [b,c] = false:=by with_unfolding_all rfl):PDE X (.Compare a [op,op'] [b,c] pos) (aA8 r r' ta tb tc) :=
 cS (aEV ho ho' ha hb hc hm) fun σ H Q h=>aDx h
noncomputable def aDn (g:Int->Int->Int):DSp:=fun ds M Q=>match ds with
 | [.int i,.int j]=>Q (.int (g i j)) M
 | _=>False
theorem aDc {g:Int->Int->Int} {fv:Value} (h:mK X fv (fun xs H Q=>∃ i j,xs = [.int i,.int j]/\Q (.int (g i j)) H)):gS X fv (aDn g):=gS.of h fun vs H M ds Q rs hm q=>by
 rcases ds with _ | ⟨d,_ | ⟨d2,_ | ⟨d3,r⟩⟩⟩
 ·exact q.elim
 ·cases d<;>exact q.elim
 ·cases d with
  | int i =>
   cases d2 with
   | int j =>
    obtain ⟨v,v2,rfl,rv,rv2⟩:=aJq rs
    obtain rfl:=aU rv
    obtain rfl:=aU rv2
    exact ⟨i,j,rfl,_,M,bL,hm,.refl H,q⟩
   | _=>exact q.elim
  | _=>exact q.elim
 ·cases d<;>first | exact q.elim | (cases d2<;>exact q.elim)
noncomputable def aKD:DSp:=aDn fun i j=>if j < i then j else i
noncomputable def aKC:DSp:=aDn fun i j=>if j > i then j else i
theorem aJh (hc:X.calm = true):gS X (.builtin "min") aKD:=aDc (aDL hc)
theorem aKq (hc:X.calm = true):gS X (.builtin "max") aKC:=aDc (aDO hc)
end
mutual
theorem aBW:∀ (n:Nat) (d:D),aW n d = true->eqD d d = true
 | n,.non,_=>rfl
 | n,.bl b,_=>by simp [eqD]
 | n,.int i,_=>by simp [eqD]
 | n,.str x,_=>by simp [eqD]
 | n,.ref a,h=>by cases n<;>exact absurd h Bool.false_ne_true
 | n,.fz a,h=>by cases n<;>exact absurd h Bool.false_ne_true
 | 0,.tup xs,h=>absurd h Bool.false_ne_true
 | n + 1,.tup xs,h=>uP n xs h
theorem uP:∀ (n:Nat) (ds:List D),ds.all (aW n) = true->mC ds ds = true
 | n,[],_=>rfl
 | n,d :: ds,h=>by
  rw [List.all_cons,Bool.and_eq_true] at h
  show (eqD d d && mC ds ds) = true
  rw [aBW n d h.1,uP n ds h.2]
  rfl
end
theorem aBp {g:Bool->Bool} {d:D} {M:DM} {Q:DQ} (h:aW 60 d = true) (q:Q (.bl (g true)) M):dEq g d d M Q:=by
 cases d with
 | ref a=>exact absurd h Bool.false_ne_true
 | _=>exact ⟨h,h,by rw [aBW 60 _ h];exact q⟩
theorem aBP {g:Bool->Bool} {a b:Addr} {xs ys:List D} {M:DM} {Q:DQ} (h1:M a = some xs) (h2:M b = some ys) (n:a ≠ b) (e:xs = ys) (p:xs.all (aW 59) = true) (q:Q (.bl (g true)) M):dEq g (.ref a) (.ref b) M Q:=by
 subst e
 exact ⟨xs,xs,h1,h2,n,p,p,by rw [uP 59 xs p];exact q⟩
theorem aK4 (n:Nat):HT.sIx (n + 1) 0 (some 1) = 1/\HT.sIx (n + 1) (n + 1) none = n + 1:=by
 constructor
 ·unfold HT.sIx
  simp
 ·rfl
theorem aEA {x:D} {xs:List D}:cutD (x :: xs) (some 1) none = xs:=by
 unfold cutD
 rw [List.length_cons,(aK4 _).1,(aK4 _).2]
 simp
theorem ifF {b:Bool} {A B:Prop} (h:b = false) (q:B):if b = true then A else B:=by subst h;exact q
theorem ifT {b:Bool} {A B:Prop} (h:b = true) (q:A):if b = true then A else B:=by subst h;exact q
end Dd
set_option maxHeartbeats 400000
namespace L2
open PySem PySem.Spec PyProof.Rows
end L2
namespace Dd
open PySem PySem.Spec PyProof.Rows L2
section
variable {X:Cx} {e k:Expr} {te tk:DE} {pos p2:Pos}
end
end Dd
namespace Zp
open PySem PySem.Spec PyProof.Rows
section
variable {prog:Program} {w:World} {A:Around} {E:Value->Shared->Prop} {s:Shared}
end
end Zp
namespace L2
open PySem PySem.Spec PyProof.Rows
end L2
namespace Dd
open PySem PySem.Spec PyProof.Rows L2
section
variable {X:Cx} {pos:Pos} {iter tg:Expr} {body:List Stmt} {tl:DE} {g:DG} {tb:DS} {ta:DA}
end
end Dd
set_option maxHeartbeats 1000000
namespace Dd
open PySem PySem.Spec PyProof.Rows L2
theorem fN.there {P:Program} {w:World} {H:Hp} {h:Heap} {a:Addr} {o:HO} (x:fN P w H h a o):∃ u,h.get? a = some u:=by
 cases o with
 | lst xs=>obtain ⟨_,_,_,_,e⟩:=x;exact ⟨_,e⟩
 | tup xs=>obtain ⟨_,_,_,ob,e,_⟩:=x;exact ⟨_,e⟩
 | dK kvs=>obtain ⟨_,_,_,_,o,_,_,e,_⟩:=x;exact ⟨_,e⟩
 | dT kvs=>obtain ⟨_,_,_,_,o,_,_,e,_⟩:=x;exact ⟨_,e⟩
 | set S n=>obtain ⟨o,_,_,_,e,_⟩:=x;exact ⟨_,e⟩
 | ins C dx fs=>obtain ⟨_,_,_,e,_⟩:=x;exact ⟨_,e⟩
 | own y=>obtain ⟨_,e⟩:=x;exact ⟨_,e⟩
 | xd fs=>obtain ⟨_,⟨_,_,_,e,_⟩,_⟩:=x;exact ⟨_,e⟩
 | rng lo hi=>obtain ⟨_,_,_,e⟩:=x;exact ⟨_,e⟩
 | frz ob u=>obtain ⟨e,_⟩:=x;exact ⟨_,e⟩
 | tbl ps=>exact ⟨_,(show h.get? a = some _ from x)⟩
 | met f y=>exact ⟨_,(show h.get? a = some _ from x)⟩
 | ext φ=>obtain ⟨_,⟨_,e⟩,_⟩:=x;exact ⟨_,e⟩
noncomputable def FpN (X:Cx) (pins:List (Addr × Obj)) (H:Hp) (b:Addr):Prop :=
 H b = none/\b ≠ X.env.locals/\X.s₀.heap.get? b = none/\(∀ x c,X.env.cells.lookup x = some c->c ≠ b)/\∀ p ∈ X.pn ++ pins,p.1 ≠ b
section
variable {X:Cx} {pins:List (Addr × Obj)} {σ:L2.St} {H H':Hp} {s:Shared} {h':Heap}
theorem _root_.L2.Inv.fpN (I:Inv X pins σ H s) (hex:X.ex = []) {b:Addr} (h:s.heap.get? b = none) (hn:H' b = none):FpN X pins H' b:=by
 refine ⟨hn,fun z=>?_,?_,fun x c e z=>?_,fun p hp z=>?_⟩
 ·obtain ⟨m,⟨o,_,_,ho,_⟩,_⟩:=I.loc
  rw [<- z,h] at ho;cases ho
 ·cases q:X.s₀.heap.get? b with
  | none=>rfl
  | some o =>
   obtain ⟨o',e⟩:=I.base.there b o q (by rw [hex];simp)
   rw [h] at e;cases e
 ·obtain ⟨v,o,ho,_⟩:=I.cell x c e
  rw [z,h] at ho;cases ho
 ·obtain ⟨e,_⟩:=I.pin p hp
  rw [z,h] at e;cases e
theorem _root_.L2.Inv.untr (I:Inv X pins σ H s) {b:Addr} (h:s.heap.get? b = none):H b = none:=by
 cases q:H b with
 | none=>rfl
 | some o=>obtain ⟨u,e⟩:=fN.there (I.hok b o q);rw [h] at e;cases e
theorem _root_.L2.Inv.mark {ch:List Addr} (I:Inv X pins σ H s) (hch:∀ b ∈ ch,FpN X pins H b) (keep:∀ b o,b ∉ frs X.stack->b ∉ ch->s.heap.get? b = some o->h'.get? b = some o)
  (slot:∀ b o,b ∉ ch->s.heap.get? b = some o->∃ sl,h'.get? b = some { o with slots:=sl }):Inv X pins σ H { s with heap:=h' }:=by
 have neL:∀ b o,X.s₀.heap.get? b = some o->b ≠ X.env.locals:=fun b o e=>Nat.ne_of_lt (Nat.lt_of_lt_of_le (Heap.lt_size e) I.ok.above)
 have neC:∀ b o,X.s₀.heap.get? b = some o->b ∉ ch:=fun b o e hb=>by rw [(hch b hb).2.2.1] at e;cases e
 have stk:∀ b,b ≠ X.env.locals->b ∉ X.fs->b ∉ frs X.stack:=fun b h1 h2 hb=>(List.mem_cons.mp (I.stkSub b hb)).elim h1 h2
 have cellK:∀ x c,X.env.cells.lookup x = some c->∀ v,s.heap.IsCell c v->h'.IsCell c v:=fun x c e v ⟨o,ho,hd⟩=>by
  obtain ⟨sl,q⟩:=slot c o (fun z=>(hch c z).2.2.2.1 x c e rfl) ho
  exact ⟨_,q,hd⟩
 refine ⟨I.ok,I.os,I.bare,⟨fun b o e n hb hx=>?_,fun b o e n hb hx=>?_,I.base.free,fun b o e hx=>?_,I.base.tups,I.base.frzs,I.base.tbls⟩,?_,fun x c e=>?_,I.free,I.freeC,fun p hp=>?_,fun a o e=>?_,I.len⟩
 ·exact keep b o (stk b (neL b o e) hb) (neC b o e) (I.base.keep b o e n hb hx)
 ·obtain ⟨sl,e1⟩:=I.base.slot b o e n hb hx
  obtain ⟨sl',e2⟩:=slot b _ (neC b o e) e1
  exact ⟨sl',e2⟩
 ·obtain ⟨o',e1⟩:=I.base.there b o e hx
  obtain ⟨sl,e2⟩:=slot b o' (neC b o e) e1
  exact ⟨_,e2⟩
 ·obtain ⟨m,⟨o,es,ep,ho,r⟩,hl⟩:=I.loc
  obtain ⟨sl,e2⟩:=slot _ o (fun z=>(hch _ z).2.1 rfl) ho
  refine ⟨m,⟨_,es,ep,e2,r⟩,fun i x v e1 e2 e3=>?_⟩
  obtain ⟨u,r,l⟩:=hl i x v e1 e2 e3
  refine ⟨u,r,?_⟩
  rcases l with l | ⟨k,c,e,z⟩
  ·exact .inl l
  ·exact .inr ⟨k,c,e,cellK x c e _ z⟩
 ·obtain ⟨v,z⟩:=I.cell x c e
  exact ⟨v,cellK x c e v z⟩
 ·obtain ⟨e,n,ne,nf,d⟩:=I.pin p hp
  exact ⟨keep p.1 p.2 (stk _ ne nf) (fun z=>(hch _ z).2.2.2.2 p hp rfl) e,n,ne,nf,d⟩
 ·refine (I.hok a o e).stay (fun b u hb q=>keep b u (fun z=>?_) (fun z=>?_) q) (fun _ q=>q) fun _ _ q=>q
  ·have:=I.stkFree b z
   rcases hb with hb | hb
   ·rw [hb,e] at this;cases this
   ·rw [hb] at this;cases this
  ·have:=(hch b z).1
   rcases hb with hb | hb
   ·rw [hb,e] at this;cases this
   ·rw [hb] at this;cases this
end
theorem oZ (f:Array Value->Array Value) (o:Obj):(o.mapFields f).dict = o.dict:=by unfold Obj.mapFields;split<;>rfl
noncomputable def Nw (h:Heap) (e:Addr) (cls:Value):Prop:=∃ oe vs,h.get? e = some oe/\(oe.cls = cls/\oe.dict = none)/\oe.data = .fields vs/\vs[1]? = some Value.none
noncomputable def Tr (h:Heap) (e:Addr) (cls:Value) (T:Addr) (fl:Value):Prop :=
 ∃ oe vs oT ts,h.get? e = some oe/\(oe.cls = cls/\oe.dict = none)/\oe.data = .fields vs/\vs[1]? = some (.ref T)/\T ≠ e/\h.get? T = some oT/\oT.data = .fields ts/\ts[3]? = some fl
section
variable {X:Cx} {pins:List (Addr × Obj)} {σ:L2.St} {H:Hp} {s:Shared} {M:Model} {A:Around} {E:Value->Shared->Prop} {e T:Addr} {cls:Value}
theorem aDy {oe:Obj} {vs:Array Value} {head:Value} {hadNext:Bool} {Q:Unit->Shared->Prop} (I:Inv X pins σ H s) (hs:X.stack = X.env :: X.outer) (hf:X.env.frame = some X.env.locals) (hex:X.ex = [])
  (hA:A.frames = some X.stack) (he:s.heap.get? e = some oe) (hdi:oe.dict = none) (hd:oe.data = .fields vs) (hsz:1 < vs.size) (fe:FpN X pins H e)
  (h:∀ s' T,Inv X pins σ H s'->Tr s'.heap e oe.cls T (rawInt X.env.locals)->FpN X pins H T->s.heap.get? T = none->Q () s') :
  wpAny M A (do let a <- frameOf X.env;let pl <- entryPlaceOf X.env.locals hadNext;let b <- EntryCells.newEntry head a .none (rawInt X.env.locals) .none pl;setField (.ref e) 1 b) Q E s:=by
 have hfr:A.frames = some (X.env :: X.outer):=by rw [hA,hs]
 have hl:s.heap.FunFrames X.base (X.env :: X.outer):=hs ▸ I.stack
 have hene:e ∉ (X.env :: X.outer).filterMap (·.frame):=fun hm=>by
  obtain ⟨_,o,ho,hnf⟩:=hl.mem hm
  rw [he] at ho;cases ho;exact hnf vs hd
 have hfs:frs X.stack = (X.env :: X.outer).filterMap (·.frame):=by rw [hs];rfl
 refine wpAny_bind (wpAny_frameOf_fun hfr hl hf fun h₁ hs₁=>?_)
 refine wpAny_bind (wpAny_entryPlaceOf fun pl hpl=>?_)
 unfold EntryCells.newEntry newFields
 refine wpAny_bind (wpAny_newObj_type ?_ (hpl.sizeOk5 _ _ _ _ _))
 have he₁:h₁.get? e = some oe:=(hs₁.2.1 e hene).trans he
 have he₂:=Heap.get?_push_of_some (h:=h₁) { cls:=.type "traceback",dict:=none,data:=.fields ([head,.ref X.env.locals,.none,rawInt X.env.locals,.none] ++ (if pl.isEmpty then List.replicate 6 Value.none else pl)).toArray } he₁
 refine wpAny_setField he₂ hd hsz ?_
 have hTe:h₁.objs.size ≠ e:=Nat.ne_of_gt (Heap.lt_size he₁)
 have hd₃:=Obj.data_mapFields hd (·.setIfInBounds 1 (Value.ref h₁.objs.size))
 have he₃:=Heap.get?_update_self (Obj.mapFields (·.setIfInBounds 1 (Value.ref h₁.objs.size))) he₂ (Obj.isFreed_of_fields hd₃)
 have hT₃:=(Heap.get?_update_other (h₁.push { cls:=.type "traceback",dict:=none,data:=.fields ([head,.ref X.env.locals,.none,rawInt X.env.locals,.none] ++ (if pl.isEmpty then List.replicate 6 Value.none else pl)).toArray })
  (Obj.mapFields (·.setIfInBounds 1 (Value.ref h₁.objs.size))) (Ne.symm hTe)).trans (Heap.get?_push_size h₁ rfl)
 have hTn:s.heap.get? h₁.objs.size = none:=Heap.get?_none_of_le (by rw [hs₁.1];exact Nat.le_refl _)
 refine h _ h₁.objs.size (L2.Inv.mark (s:=s) (ch:=[e]) I (fun b hb=>by rw [List.mem_singleton.mp hb];exact fe) (fun b o hb hc q=>?_) fun b o hc q=>?_) ?_ (L2.Inv.fpN (s:=s) I hex hTn (L2.Inv.untr (s:=s) I hTn)) hTn
 ·have hbe:b ≠ e:=fun z=>hc (by simp [z])
  rw [Heap.get?_update_other _ _ (Ne.symm hbe)]
  exact Heap.get?_push_of_some _ ((hs₁.2.1 b (by rw [<- hfs];exact hb)).trans q)
 ·have hbe:b ≠ e:=fun z=>hc (by simp [z])
  obtain ⟨sl,z⟩:=hs₁.2.2 b o q
  exact ⟨sl,by rw [Heap.get?_update_other _ _ (Ne.symm hbe)];exact Heap.get?_push_of_some _ z⟩
 ·exact ⟨_,_,_,_,he₃,⟨Obj.cls_mapFields _ _,(oZ _ _).trans hdi⟩,hd₃,by simp [hsz],hTe,hT₃,rfl,by first | (simp;done) | (rcases hpl with rfl | ⟨_,_,_,_,_,_,_,rfl⟩<;>simp)⟩
theorem aFr {Q:Unit->Shared->Prop} (I:Inv X pins σ H s) (hs:X.stack = X.env :: X.outer) (hf:X.env.frame = some X.env.locals) (hex:X.ex = []) (hA:A.frames = some X.stack) (n:Nw s.heap e cls) (fe:FpN X pins H e)
  (h:∀ s' T,Inv X pins σ H s'->Tr s'.heap e cls T (rawInt X.env.locals)->FpN X pins H T->s.heap.get? T = none->Q () s'):wpAny M A (noteFrame (.ref e) X.env) Q E s:=by
 obtain ⟨oe,vs,he,⟨rfl,hdi⟩,hd,h1⟩:=n
 unfold noteFrame
 simp only [hf]
 refine wpAny_bind (wpAny_field he hd h1 ?_)
 rw [if_neg (by decide)]
 exact aDy I hs hf hex hA he hdi hd (Array.getElem?_eq_some_iff.mp h1).1 fe h
theorem aA5 {ts:Array Value} {oT:Obj} {f:Array Value->Array Value} (I:Inv X pins σ H s) (fT:FpN X pins H T) (hT:s.heap.get? T = some oT) :
  Inv X pins σ H { s with heap:=s.heap.update T (Obj.mapFields f) }:=by
 refine I.mark (ch:=[T]) (fun b hb=>by rw [List.mem_singleton.mp hb];exact fT) (fun b o _ hc q=>?_) fun b o hc q=>⟨o.slots,?_⟩ <;>
 ·rw [Heap.get?_update_other _ _ (Ne.symm (fun z=>hc (by simp [z])))];exact q
theorem aCK {fl:Value} {Q:Unit->Shared->Prop} (I:Inv X pins σ H s) (t:Tr s.heap e cls T fl) (fT:FpN X pins H T) (h:∀ s',Inv X pins σ H s'->Tr s'.heap e cls T .none->Q () s'):wpAny M A (setFlight (.ref e) none) Q E s:=by
 obtain ⟨oe,vs,oT,ts,he,hcls,hd,h1,hTe,hT,hdT,h3⟩:=t
 have hsz3:3 < ts.size:=(Array.getElem?_eq_some_iff.mp h3).1
 unfold setFlight
 refine wpAny_bind (wpAny_field he hd h1 ?_)
 rw [if_pos (show (Value.ref T != Value.none) = true from by simp)]
 refine wpAny_setField hT hdT hsz3 (h _ (aA5 (ts:=ts) I fT hT) ?_)
 exact ⟨oe,vs,_,_,(Heap.get?_update_other _ _ hTe).trans he,hcls,hd,h1,hTe,Heap.get?_update_self _ hT (Obj.isFreed_of_fields (Obj.data_mapFields hdT _)),Obj.data_mapFields hdT _,by simp [hsz3]⟩
theorem aD5 {Q:Unit->Shared->Prop} (I:Inv X pins σ H s) (hs:X.stack = X.env :: X.outer) (hf:X.env.frame = some X.env.locals) (hex:X.ex = []) (hA:A.frames = some X.stack) (n:Nw s.heap e cls) (fe:FpN X pins H e)
  (h:∀ s' T,Inv X pins σ H s'->Tr s'.heap e cls T .none->FpN X pins H T->s.heap.get? T = none->Q () s'):wpAny M A (leaving X.env (.ref e)) Q E s:=by
 unfold leaving
 exact wpAny_bind (aFr I hs hf hex hA n fe fun s1 T I1 t1 f1 n1=>aCK I1 t1 f1 fun s2 I2 t2=>h s2 T I2 t2 f1 n1)
end
end Dd
namespace Dd
open PySem PySem.Spec PyProof.Rows L2
noncomputable def CXr (P:Program) (w:World):CXT:=fun outer H s E e s'=>∃ (a:Addr) (cls:Value) (T:Addr) (H':Hp),e = Value.ref a/\s'.os = s.os/\AllBare s'.gens/\Un (frs outer) [] H H' s.heap s'.heap/\HOk P w H' s'.heap /\
 Tr s'.heap a cls T .none/\s.heap.get? a = none/\s.heap.get? T = none/\H' a = none/\H' T = none/\E cls none H'
theorem aDf {K:PySem.W.Frag} {h:Heap} {C:Addr} {bmB:List Value} {newId:String} (X:K.In h) (q:PySem.W.excIn K C bmB newId = true) :
  ∃ bm N nm qn bs hdct sn sub ab col dd k0 k1 k2 k3 k5,∃ mN:Str->Option Value,h.get? C = some (excClassObj nm qn C N bs bm hdct sn sub ab col dd k0 k1 k2 k3 k5 newId)/\h.Ns N mN/\mN "__init__" = none/\OwnTail h bmB bm:=by
 unfold PySem.W.excIn at q
 split at q
 ·rename_i dd cd sl ho
  split at q
  ·rename_i C' bm k0 k1 k2 k3 n k5 hm hs
   simp only [Bool.and_eq_true,beq_iff_eq,Bool.not_eq_true'] at q
   obtain ⟨⟨⟨⟨⟨rfl,rfl⟩,hdel⟩,ht⟩,hok⟩,hni⟩:=q
   cases cd
   dsimp only at hm hdel hok hni
   subst hm hdel
   cases sl
   simp only at hs
   subst hs
   exact ⟨_,_,_,_,_,_,_,_,_,_,_,_,_,_,_,_,_,X _ _ ho,.of_isNs (PySem.W.isNs_of_in X hok),PySem.W.nsMap_none_of_in X hok hni,PySem.W.tail_of_in X ht⟩
  ·cases q
 ·cases q
noncomputable def sU (X:Cx) (x:Str) (V:DM->Prop):Prop:=X.calm = true/\X.ex = []/\∃ C bmB newId B initId,X.mg x = some (.ref C)/\PySem.W.excIn X.K C bmB newId = true/\ExcBaseFacts B newId initId bmB /\
 ∀ pins σ H s a M',Inv X pins σ H s->Nw s.heap a (.ref C)->FpN X pins H a->cN X.K M' H->V M'->X.xe (.ref a) s
noncomputable def aCG (V:DM->Prop) (t:DA):DS:=fun _ ρ M=>t ρ M fun ds M1=>ds.length<=1000/\V M1
section
variable {X:Cx} {x:Str} {V:DM->Prop} {e:Expr} {es:List Expr} {t:DA} {np cpos pos:Pos}
theorem aEB (R:sU X x V) (ha:PDA X (e :: es) t) (hg:Gl X x:=by rfl) (hd:(x == ("__debug__":Str)) = false:=by decide)
  (he:starEach (e :: es) X.env = (false,eval e X.env) :: starEach es X.env:=by rfl) (hpl:(backTo cpos (starEach es X.env)).any (·.1) = false:=by rfl) :
  PDS X (.Raise (some (.Call (.Name x np) (e :: es) [] cpos)) none pos) (aCG V t):=by
 intro pins s σ H D I ⟨ρ,M,D',re,hm,q,k⟩
 obtain ⟨calm,hex,C,bmB,newId,B,initId,hmg,hq,FB,fly⟩:=R
 obtain ⟨tl,N,nm,qn,bs,hdct,sn,sub,ab,col,dd,k0,k1,k2,k3,k5,mN,hC,hN,hni,T⟩:=aDf I.ok.mod.kin hq
 refine wpAny_Raise_call_subT (C:=C) (nm:=nm) (q:=qn) (N:=N) (bs:=bs) (bm:=tl) (hdct:=hdct) (sn:=sn) (sub:=sub) (ab:=ab) (col:=col) (dd:=dd) (k0:=k0) (k1:=k1) (k2:=k2) (k3:=k3) (k5:=k5)
  FB (mN:=mN) (T.hasType FB.hasBase) (I.ok.hd calm) (by rw [he];show (false || (backTo cpos (starEach es X.env)).any (·.1)) = false;rw [hpl];rfl) hni (jA I hg hmg ⟨rfl,?_⟩ hd)
 have h:=ha cpos pins s σ H (LA X.K H fun ds M1=>ds.length<=1000/\V M1) I ⟨ρ,M,_,re,hm,q,fun vs H' z=>z⟩
 rw [he] at h ⊢
 refine Calls.evalArgs_plain (wpAny_mono h (fun us s₂ ⟨vs,H2,I2,rv,ds,M2,rs,hm2,ex,hl,hV⟩=>⟨rfl,?_,I2.bk _ _ hC,hN.keeps I2.bk,T.keeps I2.bk,fun h' a mk=>?_⟩) fun _ _ y=>y)
 ·show us.length<=sizeLine
  rw [<- rv.length,<- rs.length];exact Nat.le_of_lt (fK hl)
 ·obtain ⟨tt,ht,_⟩:=mk.there
  have I3:Inv X pins σ H2 { s₂ with heap:=h' }:=I2.kept (t':=s₂.toks) mk.keeps
  have hn:=I2.untr mk.new
  exact fly pins σ H2 _ a M2 I3 ⟨_,_,ht,⟨rfl,rfl⟩,rfl,rfl⟩ (I2.fpN hex mk.new hn) hm2 hV
end
noncomputable def spX (K:PySem.W.Frag) (C:Addr) (cond:List D->DM->Prop):Sp:=fun vs H _ E=>∃ ds M,bR K H ds vs/\cN K M H/\cond ds M/\∀ M' H',cN K M' H'->bC M M'->E (.ref C) none H'
noncomputable def bmV:List Value:=[.type "ValueError",.type "Exception",.type "BaseException",.type "object"]
noncomputable def aGL (K:PySem.W.Frag) (mg:Str->Option Value) (x:Str) (C:Addr):Prop:=mg x = some (.ref C)/\PySem.W.excIn K C bmV "ValueError.__new__" = true
noncomputable def wI (P:Program) (w:World) (K:PySem.W.Frag) (mg:Str->Option Value) (base:Heap) (k:Nat) (x:Str) (ps:List Str) (C:Addr) (cond:List D->DM->Prop):Prop :=
 ∃ f fd,jK P w K mg base (CXr P w) k f fd ps (spX K C cond)/\mg x = some (.ref f)/\PySem.W.keepIn K (.ref f) = true/\mF K fd ps []
section
variable {P:Program} {w:World} {K:PySem.W.Frag} {mg:Str->Option Value} {base:Heap}
theorem wI.mk {x c:Str} {C:Addr} {st:Stmt} {N ps:List Str} {k:Nat} {cond:List D->DM->Prop} (h:bV K mg x st ps) (hc:aGL K mg c C) (S:aR N ps (aI st)) (len:∀ ds M,cond ds M->ds.length = ps.length)
  (hbody:∀ (f:Addr) (cdv:Value) (A:Around) (outer:List Env) (s:Shared) (H:Hp) (ds:List D) (M:DM) (E:XK),eF k (A.deeper (envOfC x (aI st) s.heap.objs.size f cdv))->cond ds M ->
   sU (jV (CXr P w) P w K mg base N x (aI st) f cdv A outer s H E) c (bC M) ->
   ∃ t,lJ (jV (CXr P w) P w K mg base N x (aI st) f cdv A outer s H E) (eR st) t/\t { nx:=fun _ _=>False,rt:=fun _ _=>False } (iD N ds) M)  :wI P w K mg base (k + 1) x ps C cond:=by
 obtain ⟨f,fd,F,hm,hb⟩:=h
 refine ⟨f,fd,?_,hm,F.kp,hb⟩
 obtain ⟨oc,od,kV,doc,pm,an,cdv,ct,osl,rfl,lk,hcd⟩:=F.ex
 refine aED lk hcd S (fun vs H Q E ⟨ds,M,rs,hm,q,_⟩=>by rw [<- rs.length];exact len ds M q) fun A outer s H vs Q E hr ⟨ds,M,rs,hm,q,k'⟩=>?_
 have RO:sU (jV (CXr P w) P w K mg base N x (aI st) f cdv A outer s H E) c (bC M) :=
  ⟨rfl,rfl,C,bmV,_,_,_,hc.1,hc.2,PySem.F.excBase_ValueError,fun pins σ H' s1 a M' I n fe hm' sub =>
   aD5 (X:=jV (CXr P w) P w K mg base N x (aI st) f cdv A outer s H E) I rfl rfl rfl I.ok.frames n fe fun s' T I' t' fT _ =>
    ⟨a,.ref C,T,H',rfl,I'.os,I'.bare,I'.base,I'.hok,t',fe.2.2.1,fT.2.2.1,fe.1,fT.1,k' M' H' hm' sub⟩⟩
 obtain ⟨t,h1,h2⟩:=hbody f cdv A outer s H ds M E hr q RO
 exact ⟨_,h1,iD N ds,M,_,qW rs N,hm,h2,⟨fun σ' H' ⟨_,_,_,_,_,z⟩=>z.elim,fun v H' ⟨_,_,_,_,_,z⟩=>z.elim,fun σ' H' ⟨_,_,_,_,_,z⟩=>z.elim,fun σ' H' ⟨_,_,_,_,_,z⟩=>z.elim⟩⟩
noncomputable abbrev aMh (P:Program) (w:World) (K:PySem.W.Frag) (mg:Str->Option Value) (base:Heap) (k:Nat) (x:Str) (ps:List Str) (C:Addr) (cond:List D->Prop):Prop:=wI P w K mg base k x ps C fun ds _=>cond ds
end
end Dd
namespace Dd
open PySem PySem.Spec PyProof.Rows L2
noncomputable abbrev Exc (X:Cx) (a:Addr) (o:Obj):Cx:={ X with A:=X.A.mark (some (.ref a)),calm:=false,pn:=(a,o) :: X.pn }
section
variable {X:Cx} {pins:List (Addr × Obj)} {σ:L2.St} {H:Hp} {s:Shared} {a:Addr} {o:Obj}
theorem aJ6 (I:X.Ok):(Exc X a o).Ok :=
 ⟨I.mod,I.kind,I.glob,I.blt,I.above,I.inj,I.has,I.cab,(fun z=>nomatch z),I.frames,I.stk,I.exf,I.bs,I.bsz,I.noex,I.exfs,I.funs,I.frf⟩
theorem aEO (I:Inv X pins σ H s) (h:s.heap.get? a = some o) (n:H a = none) (nl:a ≠ X.env.locals) (nf:a ∉ X.fs) (nc:∀ v,o.data ≠ .cell v):Inv (Exc X a o) pins σ H s :=
 ⟨aJ6 I.ok,I.os,I.bare,I.base,I.loc,I.cell,I.free,I.freeC,fun p hp=>by
  rcases List.mem_cons.mp hp with z | z
  ·subst z;exact ⟨h,n,nl,nf,nc⟩
  ·exact I.pin p z,I.hok,I.len⟩
theorem vY (ok:X.Ok) (I:Inv (Exc X a o) pins σ H s):Inv X pins σ H s :=
 ⟨ok,I.os,I.bare,I.base,I.loc,I.cell,I.free,I.freeC,fun p hp=>I.pin p (List.mem_cons_of_mem _ hp),I.hok,I.len⟩
theorem pZ {M:Model} {A:Around} {E:Value->Shared->Prop} {n:Str} {j:Nat} {pos:Pos} {Q:Unit->Shared->Prop} (I:Inv X pins σ H s) (hN:X.N.Nodup) (hj:X.N[j]? = some n) (hl:X.env.scope.names.lookup n = some .local)
  (h:∀ s',Inv X pins (σ.set j none) H s'->Q () s'):wpAny M A (do bindName X.env n .none;unbindBehindTheSuite X.env n pos) Q E s:=by
 obtain ⟨m,hn,hlo⟩:=id I.loc
 have hcls:(X.env.scope.kind == .class || (X.env.scope.kind == .module && X.env.locals != X.env.globals)) = false:=by rw [I.ok.kind];rfl
 have cne:=I.cne
 refine wpAny_nameGoes_keeps hl hn hcls fun h' v hn' hs=>h _ ?_
 obtain ⟨oL,_,_,hoL,_⟩:=id hn
 refine ⟨I.ok,I.os,I.bare,⟨fun b o e n hb hx=>?_,fun b o e n hb hx=>?_,I.base.free,fun b o e hx=>?_,I.base.tups,I.base.frzs,I.base.tbls⟩,⟨_,hn',fun i y v' e1 e2 e3=>?_⟩,fun y c e=>?_,I.free,I.freeC,fun p hp=>?_,fun b ob e=>?_,by simpa using I.len⟩
 ·exact (hs.2 b (Nat.ne_of_lt (Nat.lt_of_lt_of_le (Heap.lt_size e) I.ok.above))).trans (I.base.keep b o e n hb hx)
 ·obtain ⟨sl,e1⟩:=I.base.slot b o e n hb hx
  exact ⟨sl,(hs.2 b (Nat.ne_of_lt (Nat.lt_of_lt_of_le (Heap.lt_size e) I.ok.above))).trans e1⟩
 ·obtain ⟨o',e1⟩:=I.base.there b o e hx
  exact ⟨o',(hs.2 b (Nat.ne_of_lt (Nat.lt_of_lt_of_le (Heap.lt_size e) I.ok.above))).trans e1⟩
 ·have hij:i ≠ j:=fun z=>by
   subst z
   rw [List.getElem?_set] at e2
   rw [if_pos rfl] at e2
   split at e2<;>cases e2
  rw [List.getElem?_set_ne (Ne.symm hij)] at e2
  obtain ⟨u,r,q⟩:=hlo i y v' e1 e2 e3
  refine ⟨u,r,?_⟩
  rcases q with ⟨k,e⟩ | ⟨k,c,e,z⟩
  ·refine .inl ⟨k,?_⟩
   have:y ≠ n:=fun e=>hij (yC hN e1 (e ▸ hj))
   simp [this,e]
  ·exact .inr ⟨k,c,e,z.sameBut hs (cne y c e)⟩
 ·obtain ⟨w',z⟩:=I.cell y c e
  exact ⟨w',z.sameBut hs (cne y c e)⟩
 ·obtain ⟨e,n,ne,nf,d⟩:=I.pin p hp
  exact ⟨(hs.2 p.1 ne).trans e,n,ne,nf,d⟩
 ·refine (I.hok b ob e).stay (fun c w' hc q=>(hs.2 c ?_).trans q) (fun _ q=>q) fun _ _ q=>q
  rintro rfl
  rcases hc with rfl | hc
  ·rw [I.free] at e;cases e
  ·rw [I.free] at hc;cases hc
end
theorem hJ.setN {K:PySem.W.Frag} {H:Hp} {ρ:cO} {σ:L2.St} (h:hJ K H ρ σ) (i:Nat):hJ K H (ρ.set i none) (σ.set i none):=by
 refine ⟨by rw [List.length_set,List.length_set,h.len],fun j d' q=>?_⟩
 rw [List.getElem?_set] at q
 by_cases hij:i = j
 ·subst hij
  rw [if_pos rfl] at q
  split at q<;>cases q
 ·rw [if_neg hij] at q
  obtain ⟨u,a,b⟩:=h.get j d' q
  exact ⟨u,by rw [List.getElem?_set,if_neg hij];exact a,b⟩
noncomputable def iM.un (D:iM) (j:Nat):iM:={ nx:=fun ρ M=>D.nx (ρ.set j none) M,rt:=D.rt,bk:=fun ρ M=>D.bk (ρ.set j none) M,ct:=fun ρ M=>D.ct (ρ.set j none) M }
noncomputable def aEv (D:sR) (j:Nat):sR:={ nx:=fun ρ M=>D.nx (ρ.set j none) M,rt:=D.rt,bk:=fun ρ M=>D.bk (ρ.set j none) M,ct:=fun ρ M=>D.ct (ρ.set j none) M }
theorem lF.un {K:PySem.W.Frag} {H:Hp} {D:iM} {E:sR} (k:lF K H D E) (j:Nat):lF K H (D.un j) (aEv E j) :=
 ⟨fun σ' H' ⟨ρ',M',re,hm,ex,q⟩=>k.nx _ H' ⟨_,M',re.setN j,hm,ex,q⟩,k.rt,fun σ' H' ⟨ρ',M',re,hm,ex,q⟩=>k.bk _ H' ⟨_,M',re.setN j,hm,ex,q⟩,fun σ' H' ⟨ρ',M',re,hm,ex,q⟩=>k.ct _ H' ⟨_,M',re.setN j,hm,ex,q⟩⟩
section
variable {X:Cx} {a:Expr} {e:Expr} {es:List Expr} {t:DA} {x f n cm:Str} {ps:List Str} {sp:DSp} {cond:List D->DM->Prop} {C Cm:Addr} {k1 k2 k i j:Nat} {ts:Addr->DS} {b0:Stmt} {suite:List Stmt} {px pf pc pa pcm ph pos:Pos}
end
section
open PySem.W PySem.Calls
end
section
variable {X:Cx} {n c:Str} {C Cc a:Addr} {o:Obj} {p p1 p2 pos:Pos} {j:Nat}
end
section
open PySem.W PySem.Calls
variable {prog:Program} {w:World} {A:Around} {E:Value->Shared->Prop} {s:Shared} {K:Frag} {x C D:Addr} {ox:Obj}
structure aCx (K:Frag) (D:Addr):Prop where
 ga:findIn K (.ref D) "__getattribute__" = some (some (.builtin "BaseException.__getattribute__"))
 gn:findIn K (.ref D) "__getattr__" = some none
 cl:findIn K (.ref D) "__class__" = some (some (.builtin "object.__class__"))
 nn:specialIn K (.builtin "object.__class__") "__get__" = some (some (.builtin "getset_descriptor.__get__"))
 tk:takesIn K (.builtin "object.__class__") = some true
 mo:mroIn K D (.type "object") = some true
 mb:mroIn K D (.type "BaseException") = some true
theorem aCx.cd (e:aCx K D):∃ cd,clsIn K D = some cd:=by
 obtain ⟨cd,a,_⟩:=Option.bind_eq_some_iff.mp e.mo
 exact ⟨cd,a⟩
end
section
variable {X:Cx} {a C:Addr} {o:Obj}
end
end Dd
namespace Dd
open PySem PySem.Spec PyProof.Rows L2
section
open PySem.SeqAt
open PySem.AutoSeq1 (wpAny_loadPart')
open PySem.MeetsSeq PySem.MeetsSeq2 PySem.MeetsSeq3
end
section
variable {X:Cx} {j:Nat}
theorem aE1 {K:PySem.W.Frag} {H:Hp} {a b:Int} {xs:List V} {its:List Value} (r:bR K H [.int a,.int b] xs) (v:cD xs its):∃ t u,its = [.int a t,.int b u]:=by
 obtain ⟨v1,r1,rfl,h1,r1'⟩:=aX r
 obtain rfl:=aU h1
 obtain ⟨v2,r2,rfl,h2,r2'⟩:=aX r1'
 obtain rfl:=aU h2
 obtain rfl:=bU r2'
 cases v with
 | cons q1 w1 =>
  cases w1 with
  | cons q2 w2 =>
   cases w2
   obtain ⟨t,rfl⟩:=q1
   obtain ⟨u,rfl⟩:=q2
   exact ⟨t,u,rfl⟩
end
end Dd
namespace Dd
open PySem PySem.Spec PyProof.Rows L2
noncomputable def aJe (t u:DS):DS:=fun D ρ M=>∃ R:cO->DM->Prop,t { D with nx:=R } ρ M/\∀ ρ' M',R ρ' M'->u D ρ' M'
section
variable {X:Cx} {st:Stmt} {cR:List Stmt} {t u:DS}
theorem aGP (h1:PDS X st t) (h2:lJ X cR u):lJ X (st :: cR) (aJe t u) :=
 aAj (aBJ h1 h2) fun E σ H ⟨ρ,M,D,re,hm,⟨R,q,k2⟩,k⟩ =>
  ⟨ρ,M,{ D with nx:=R },re,hm,q,⟨fun σ' H' ⟨ρ',M',re',hm',ex,r⟩=>⟨ρ',M',D,re',hm',k2 ρ' M' r,k.at ex⟩,k.rt,k.bk,k.ct⟩⟩
end
end Dd
namespace Dd
open PySem PySem.Spec PyProof.Rows L2
section
variable {X:Cx} {e:Expr} {es:List Expr} {t:DA} {x f cm:Str} {ps:List Str} {sp:DSp} {cond:List D->DM->Prop} {C Cm:Addr} {k1 k2 k i:Nat} {ts:DS} {b0:Stmt} {suite:List Stmt} {px pf pc pa pcm ph pos:Pos}
end
end Dd
namespace Dd
open PySem PySem.Spec PyProof.Rows L2
@[irreducible] noncomputable def ZE (X:Cx) (e:Expr) (t:DE):Prop:=PDE X e t
theorem ZE.o {X:Cx} {e:Expr} {t:DE} (h:ZE X e t):PDE X e t:=by unfold ZE at h;exact h
theorem ZE.i {X:Cx} {e:Expr} {t:DE} (h:PDE X e t):ZE X e t:=by unfold ZE;exact h
@[irreducible] noncomputable def ZT (X:Cx) (e:Expr) (t:DT):Prop:=PDT X e t
theorem ZT.o {X:Cx} {e:Expr} {t:DT} (h:ZT X e t):PDT X e t:=by unfold ZT at h;exact h
theorem ZT.i {X:Cx} {e:Expr} {t:DT} (h:PDT X e t):ZT X e t:=by unfold ZT;exact h
@[irreducible] noncomputable def ZW (X:Cx) (e:Expr) (t:DT):Prop:=PDW X e t
theorem ZW.o {X:Cx} {e:Expr} {t:DT} (h:ZW X e t):PDW X e t:=by unfold ZW at h;exact h
theorem ZW.i {X:Cx} {e:Expr} {t:DT} (h:PDW X e t):ZW X e t:=by unfold ZW;exact h
@[irreducible] noncomputable def ZA (X:Cx) (e:List Expr) (t:DA):Prop:=PDA X e t
theorem ZA.o {X:Cx} {e:List Expr} {t:DA} (h:ZA X e t):PDA X e t:=by unfold ZA at h;exact h
theorem ZA.i {X:Cx} {e:List Expr} {t:DA} (h:PDA X e t):ZA X e t:=by unfold ZA;exact h
@[irreducible] noncomputable def ZS (X:Cx) (e:Stmt) (t:DS):Prop:=PDS X e t
theorem ZS.o {X:Cx} {e:Stmt} {t:DS} (h:ZS X e t):PDS X e t:=by unfold ZS at h;exact h
theorem ZS.i {X:Cx} {e:Stmt} {t:DS} (h:PDS X e t):ZS X e t:=by unfold ZS;exact h
@[irreducible] noncomputable def ZSs (X:Cx) (e:List Stmt) (t:DS):Prop:=lJ X e t
theorem ZSs.o {X:Cx} {e:List Stmt} {t:DS} (h:ZSs X e t):lJ X e t:=by unfold ZSs at h;exact h
theorem ZSs.i {X:Cx} {e:List Stmt} {t:DS} (h:lJ X e t):ZSs X e t:=by unfold ZSs;exact h
@[irreducible] noncomputable def ZG (X:Cx) (e:Expr) (t:DG):Prop:=PDG X e t
theorem ZG.o {X:Cx} {e:Expr} {t:DG} (h:ZG X e t):PDG X e t:=by unfold ZG at h;exact h
theorem ZG.i {X:Cx} {e:Expr} {t:DG} (h:PDG X e t):ZG X e t:=by unfold ZG;exact h
@[irreducible] noncomputable def ZGs (X:Cx) (e:List Expr) (t:DGs):Prop:=aBY X e t
theorem ZGs.o {X:Cx} {e:List Expr} {t:DGs} (h:ZGs X e t):aBY X e t:=by unfold ZGs at h;exact h
theorem ZGs.i {X:Cx} {e:List Expr} {t:DGs} (h:aBY X e t):ZGs X e t:=by unfold ZGs;exact h
@[irreducible] noncomputable def ZO (X:Cx) (e:Option Expr) (t:DO):Prop:=PO X e (xA X.K t)
theorem ZO.o {X:Cx} {e:Option Expr} {t:DO} (h:ZO X e t):PO X e (xA X.K t):=by unfold ZO at h;exact h
theorem ZO.i {X:Cx} {e:Option Expr} {t:DO} (h:PO X e (xA X.K t)):ZO X e t:=by unfold ZO;exact h
section
variable {K:PySem.W.Frag} {H H':Hp}
end
section
variable {K:PySem.W.Frag} {H H':Hp} {M M':DM}
end
section
variable {K:PySem.W.Frag} {H H':Hp} {ρ:cO} {σ:L2.St}
end
section
variable {K:PySem.W.Frag} {H H1:Hp}
end
section
variable {X:Cx} {e:Expr} {st:Stmt} {sts:List Stmt}
end
section
variable {X:Cx} {a b c e:Expr} {es:List Expr} {ta tb tc te:DE} {tA tB:DT} {t:DA} {pos:Pos}
theorem aB (i:Nat) {x:Str} {pos:Pos} (hN:X.N[i]? = some x:=by rfl) (hv:Vis X.env.scope x:=by first | exact Or.inl rfl | exact Or.inr (Or.inl rfl) | exact Or.inr (Or.inr rfl)) (hd:(x == ("__debug__":Str)) = false:=by decide) (hcd:(x == ("__classdict__":Str)) = false:=by decide):ZE X (.Name x pos) (aAx i):=.i (aKi i hN hv hd hcd)
theorem aC {i j pos}:ZE X (.Constant (.int i) j pos) (dC (.int i)):=.i (aJt (i:=i) (j:=j) (pos:=pos))
theorem fU {i j pos}:ZE X (.Constant (.bool i) j pos) (dC (.bl i)):=.i (aL6 (i:=i) (j:=j) (pos:=pos))
theorem eZ {j pos}:ZE X (.Constant .none j pos) (dC .non):=.i (aI0 (j:=j) (pos:=pos))
theorem aM {x j pos}:ZE X (.Constant (.str x) j pos) (dC (.str x)):=.i (aIl)
theorem aJ {op:Operator} {r:D2} (ho:OpD X (binaryOp op) r) (ha:ZE X a ta) (hb:ZE X b tb):ZE X (.BinOp a op b pos) (dOp r ta tb):=.i (aLh (op:=op) ho ha.o hb.o)
theorem cB {op:CmpOp} {r:D2} (ho:OpD X (compareOp op) r) (ha:ZE X a ta) (hb:ZE X b tb) (hm:behindInMarks op b = false:=by exact aAS _):ZE X (.Compare a [op] [b] pos) (dOp r ta tb):=.i (aKg (op:=op) ho ha.o hb.o hm)
theorem aQ {op:CmpOp} {r:D2} (ho:OpD X (compareOp op) r) (ha:ZE X a ta) (hb:ZE X b tb) (hm:behindInMarks op b = false:=by exact aAS _):ZT X (.Compare a [op] [b] pos) (zP (dOp r ta tb)):=.i (aIb (op:=op) ho ha.o hb.o hm)
theorem dL (h:ZE X e te) (he:∀ whole,isTrue e X.env whole = (do let v <- whole;standAt e.pos;holding [v] (truthy v)):=by intro _;rfl):ZT X e (zP te):=.i (aKj h.o he)
variable {cR:List Expr}
theorem eJ (ha:ZT X a tA):ZW X (.BoolOp .And [a] pos) tA:=.i (aGM ha.o)
theorem jB (ha:ZT X a tA):ZW X (.BoolOp .Or [a] pos) tA:=.i (aIP ha.o)
theorem eX (ha:ZT X a tA) (hb:ZW X (.BoolOp .And (b :: cR) pos) tB):ZW X (.BoolOp .And (a :: b :: cR) pos) (aJl tA tB):=.i (aIu ha.o hb.o)
theorem jP (ha:ZT X a tA) (hb:ZW X (.BoolOp .Or (b :: cR) pos) tB):ZW X (.BoolOp .Or (a :: b :: cR) pos) (dOr tA tB):=.i (aK9 ha.o hb.o)
theorem fP (h:ZW X e tA):ZT X e tA:=.i (aMd h.o)
theorem hW (ha:ZT X a tA):ZT X (.UnaryOp .Not a pos) (aIn tA):=.i (aKw ha.o)
theorem dR {op} (h:ZE X a ta):ZE X (.BoolOp op [a] pos) ta:=.i (aKf (op:=op) h.o)
theorem eD (ha:ZE X a ta) (hb:ZE X (.BoolOp .And (b :: cR) pos) tb):ZE X (.BoolOp .And (a :: b :: cR) pos) (aD9 ta tb):=.i (aIs ha.o hb.o)
theorem uK (ha:ZE X a ta) (hb:ZE X (.BoolOp .Or (b :: cR) pos) tb):ZE X (.BoolOp .Or (a :: b :: cR) pos) (aJ0 ta tb):=.i (aLO ha.o hb.o)
theorem qD (ha:ZE X a ta):ZE X (.UnaryOp .Not a pos) (aEq ta):=.i (aIF ha.o)
theorem mD (hc:ZT X c tA) (ha:ZE X a ta) (hb:ZE X b tb):ZE X (.IfExp c a b pos) (aIS tA ta tb):=.i (aEm hc.o ha.o hb.o)
theorem aD :ZA X [] uT:=.i (aAZ)
theorem aA (ha:ZE X e te) (hr:ZA X es t) (hs:starEach (e :: es) X.env = (false,eval e X.env) :: starEach es X.env:=by rfl):ZA X (e :: es) (qJ te t):=.i (wB ha.o hr.o hs)
theorem aN {x1} (h:ZA X es t):ZE X (.Tuple es x1 pos) (aJB t):=.i (aJ2 h.o)
theorem bN (h:ZA X es t):ZE X (.List es pos) (aIw t):=.i (aJc h.o)
end
section
variable {X:Cx} {st:Stmt} {cR:List Stmt} {t u:DS} {e:Expr} {te:DE} {pos:Pos}
theorem aS :ZSs X [] aFV:=.i (aGy)
theorem aF (h1:ZS X st t) (h2:ZSs X cR u):ZSs X (st :: cR) (aJ5 t u):=.i (aE5 h1.o h2.o)
theorem aE (h1:ZS X st t):ZSs X [st] t:=.i (aF4 h1.o)
theorem fG (he:ZE X e te) (hs:swapsWith e none pos.line X.env = pure false:=by rfl):ZS X (.Expr e pos) (aFo te):=.i (aGC he.o hs)
theorem aO (he:ZE X e te):ZS X (.Return (some e) pos) (aH7 te):=.i (aIg he.o)
theorem aV {c:Expr} {a b:List Stmt} {tc:DT} (hc:ZT X c tc) (ha:ZSs X a t) (hb:ZSs X b u):ZS X (.If c a b pos) (aH5 tc t u):=.i (aKy hc.o ha.o hb.o)
theorem uC :ZS X st aCq:=.i (aEe)
end
section
variable {X:Cx} {pos:Pos} {e tg:Expr} {es:List Expr} {te:DE}
theorem aZ {i:Nat} {x:Str} (hN:X.N.Nodup) (hi:X.N[i]? = some x:=by rfl) (hx:Loc X.env.scope x:=by first | exact Or.inl rfl | exact Or.inr rfl) (hf:X.fn x = true ∨ X.env.scope.names.lookup x = some .local:=by first | exact .inl rfl | exact .inr rfl | assumption):ZG X (.Name x pos) (gN i):=.i (aGI (i:=i) hN hi hx hf)
theorem hZ :ZGs X [] gNl:=.i (aGV)
theorem bX {t:DG} {u:DGs} (h1:ZG X e t) (h2:ZGs X es u) (hs:(assignEach (e :: es) X.env).map (·.2) = assign e X.env :: (assignEach es X.env).map (·.2):=by rfl):ZGs X (e :: es) (gCn t u):=.i (aFC h1.o h2.o hs)
theorem jT {g:DG} (he:ZE X e te) (hg:ZG X tg g) (hs:swapsWithSole [tg] e pos.line X.env = pure false:=by rfl) (hw:swappedStores [tg] e X.env = pure none:=by rfl) (h1:(assignEach [tg] X.env).map (·.2) = [assign tg X.env]:=by rfl):ZS X (.Assign [tg] e pos) (aDq te g):=.i (aH8 he.o hg.o hs hw h1)
theorem aP {i:Nat} {x:Str} {pos':Pos} (hN:X.N.Nodup) (he:ZE X e te) (hi:X.N[i]? = some x:=by rfl) (hx:Loc X.env.scope x:=by first | exact Or.inl rfl | exact Or.inr rfl) (hs:swapsWith e (some (.Name x pos')) pos.line X.env = pure false:=by rfl) (hf:X.fn x = true ∨ X.env.scope.names.lookup x = some .local:=by first | exact .inl rfl | exact .inr rfl | assumption):ZS X (.Assign [.Name x pos'] e pos) (aDq te (gN i)):=.i (aId (i:=i) hN he.o hi hx hs hf)
theorem pX {i j:Nat} {x y:Str} {a b:Expr} {ta:DA} {px py pt:Pos} {kt k2 pt2} (hc:X.calm = true) (hN:X.N.Nodup) (ha:ZA X [a,b] ta) (hi:X.N[i]? = some x:=by rfl) (hj:X.N[j]? = some y:=by rfl) (hij:i ≠ j:=by decide) (hx:X.env.scope.names.lookup x = some .local:=by rfl) (hy:X.env.scope.names.lookup y = some .local:=by rfl) (hw:swappedStores [.Tuple [.Name x px,.Name y py] kt pt] (.Tuple [a,b] k2 pt2) X.env = pure (some [x,y]):=by rfl) (hs:swapsWithSole [.Tuple [.Name x px,.Name y py] kt pt] (.Tuple [a,b] k2 pt2) pos.line X.env = pure false:=by rfl):ZS X (.Assign [.Tuple [.Name x px,.Name y py] kt pt] (.Tuple [a,b] k2 pt2) pos) (aIR i j ta):=.i (aKk (i:=i) (j:=j) hc hN ha.o hi hj hij hx hy hw hs)
end
section
variable {X:Cx} {pos:Pos}
theorem kD {c:Expr} {body:List Stmt} {tc:DT} {tb:DS} (hp:PassesOwn (model X.prog X.w) X.A X.env X.xe) (hc:ZT X c tc) (hb:ZSs X body tb):ZS X (.While c body [] pos) (aCf tc tb):=.i (aER hp hc.o hb.o)
variable {iter tg:Expr} {body:List Stmt} {tl:DE} {g:DG} {tb:DS}
end
section
variable {X:Cx} {pos:Pos} {iter tg:Expr} {body:List Stmt} {tl:DE} {g:DG} {tb:DS} {ta:DA}
theorem jF (hp:PassesOwn (model X.prog X.w) X.A X.env X.xe) (hc:X.calm = true) (hi:ZE X iter tl) (hg:ZG X tg g) (hb:ZSs X body tb) (hs:∀ x,foldedSetIterable iter X.env x = pure x:=by intro _;rfl):ZS X (.For tg iter body [] pos) (aBQ tl g tb):=.i (aCV hp hc hi.o hg.o hb.o hs)
theorem aBz (hp:PassesOwn (model X.prog X.w) X.A X.env X.xe) (hc:X.calm = true) (hi:ZE X iter tl) (hg:ZG X tg g) (hb:ZSs X body tb) (hs:∀ x,foldedSetIterable iter X.env x = pure x:=by intro _;rfl):ZS X (.For tg iter body [] pos) (aBV tl g tb):=.i (aDg hp hc hi.o hg.o hb.o hs)
theorem xC {a:Expr} {p pos':Pos} (hp:PassesOwn (model X.prog X.w) X.A X.env X.xe) (hc:X.calm = true) (hmg:X.mg "range" = none) (ha:ZA X [a] ta) (hg:ZG X tg g) (hb:ZSs X body tb) (hgl:Gl X "range":=by rfl) (hse:starEach [a] X.env = [(false,eval a X.env)]:=by rfl) (hs:∀ x,foldedSetIterable (.Call (.Name "range" p) [a] [] pos') X.env x = pure x:=by intro _;rfl):ZS X (.For tg (.Call (.Name "range" p) [a] [] pos') body [] pos) (aEr ta g tb):=.i (aG1 hp hc hmg ha.o hg.o hb.o hgl hse hs)
end
section
variable {X:Cx} {pins:List (Addr × Obj)} {σ:L2.St} {H:Hp} {s:Shared}
end
section
variable {X:Cx} {a b e o:Expr} {es:List Expr} {ta tb te to:DE} {t:DA} {pos:Pos}
theorem cU (ha:ZE X a ta):ZE X (.UnaryOp .USub a pos) (aH1 ta):=.i (aIi ha.o)
theorem aH (ha:ZE X a ta) (hb:ZE X b tb) (hs:tI b:=by exact fun _ _=>rfl):ZE X (.Subscript a b pos) (dOp mH ta tb):=.i (aKO ha.o hb.o hs)
theorem nZ :ZO X none aJm:=.i (aGW)
theorem iH (h:ZE X e te):ZO X (some e) (dPt te):=.i (aG5 h.o)
variable {lo hi:Option Expr} {tl th:DO} {p2:Pos}
theorem qB (he:ZE X e te) (hl:ZO X lo tl) (hu:ZO X hi th):ZE X (.Subscript e (.Slice lo hi none p2) pos) (dSl te tl th):=.i (aEs he.o hl.o hu.o)
variable {CX:CXT} {k:Nat} {f:Addr} {fd:FuncData} {ps:List Str} {sp:DSp} {E:XK} {x:Str} {p:Pos}
theorem bW {id:String} {r:DSp} (hc:gS X (.builtin id) r) (hm:X.mg x = none) (ha:ZA X (e :: es) t) (hv:bootBuiltins x = some (.builtin id):=by rfl) (hg:Gl X x:=by rfl) (hn:x ≠ "__name__":=by decide) (hdb:(x == ("__debug__":Str)) = false:=by decide) (he:starEach (e :: es) X.env = (false,eval e X.env) :: starEach es X.env:=by rfl) (hpl:(backTo pos (starEach es X.env)).any (·.1) = false:=by rfl):ZE X (.Call (.Name x p) (e :: es) [] pos) (nV r t):=.i (aE3 (id:=id) hc hm ha.o hv hg hn hdb he hpl)
theorem eP {T:String} {r:DSp} (hc:gS X (.type T) r) (hm:X.mg x = none) (ha:ZA X (e :: es) t) (hv:bootBuiltins x = some (.type T):=by rfl) (hg:Gl X x:=by rfl) (hn:x ≠ "__name__":=by decide) (hdb:(x == ("__debug__":Str)) = false:=by decide) (he:starEach (e :: es) X.env = (false,eval e X.env) :: starEach es X.env:=by rfl) (hpl:(backTo pos (starEach es X.env)).any (·.1) = false:=by rfl):ZE X (.Call (.Name x p) (e :: es) [] pos) (nV r t):=.i (aDS (T:=T) hc hm ha.o hv hg hn hdb he hpl)
end
section
variable {X:Cx} {a b e o:Expr} {es:List Expr} {ta tb te to:DE} {t:DA} {pos:Pos}
theorem iT {apos cpos:Pos} (ho:ZE X o to) (he:ZE X e te) (hse:starEach [e] X.env = (false,eval e X.env) :: starEach [] X.env:=by rfl) (hbase:attributeBase o "append" X.env (eval o X.env) = eval o X.env:=by rfl) (hfew:((backTo cpos (starEach [e] X.env)).all (fun x=>!x.1) && (backToKw cpos (keywordEach [] X.env)).all (fun x=>x.1.isSome)
   && decide ([e].length + ([]:List Keyword).length + (if ([]:List Keyword).isEmpty then 0 else 1) < 30)) = true:=by rfl) (hline:(apos.endLine == cpos.line) = true:=by rfl) (hplain:(backTo cpos (starEach [] X.env)).any (·.1) = false:=by rfl):ZE X (.Call (.Attribute o "append" apos) [e] [] cpos) (aAq to te):=.i (aDT ho.o he.o hse hbase hfew hline hplain)
theorem iC {T:String} {x:Str} {p p2:Pos} (he:ZE X e te) (hm:X.mg "isinstance" = none) (hmx:X.mg x = none) (hv:bootBuiltins x = some (.type T):=by rfl) (hg:Gl X "isinstance":=by rfl) (hgx:Gl X x:=by rfl) (hn:x ≠ "__name__":=by decide) (hdb:(x == ("__debug__":Str)) = false:=by decide) (hse:starEach [e,.Name x p2] X.env = (false,eval e X.env) :: starEach [.Name x p2] X.env:=by rfl) (hse2:starEach [.Name x p2] X.env = (false,eval (.Name x p2) X.env) :: starEach [] X.env:=by rfl) (hpl:(backTo pos (starEach [.Name x p2] X.env)).any (·.1) = false:=by rfl):ZE X (.Call (.Name "isinstance" p) [e,.Name x p2] [] pos) (dIs X.K (.type T) te):=.i (aHf (T:=T) he.o hm hmx hv hg hgx hn hdb hse hse2 hpl)
end
section
variable {P:Program} {w:World} {K:PySem.W.Frag} {mg:Str->Option Value} {base:Heap}
end
section
variable {P:Program} {w:World} {K:PySem.W.Frag} {mg:Str->Option Value} {base:Heap}
end
section
variable {X:Cx} {a b c e:Expr} {es:List Expr} {ta tb te:DE} {t:DA} {pos p:Pos} {x:Str} {ps:List Str} {sp:DSp} {k j:Nat}
theorem aG (h:Has X.prog X.w X.K X.mg X.base k x ps sp) (hr:eF j X.A) (hkj:k<=j) (ha:ZA X (e :: es) t) (hg:Gl X x:=by rfl) (hdb:(x == ("__debug__":Str)) = false:=by decide) (he:starEach (e :: es) X.env = (false,eval e X.env) :: starEach es X.env:=by rfl) (hpl:(backTo pos (starEach es X.env)).any (·.1) = false:=by rfl):ZE X (.Call (.Name x p) (e :: es) [] pos) (nV sp t):=.i (aFZ h hr hkj ha.o hg hdb he hpl)
theorem aCd (h:Has X.prog X.w X.K X.mg X.base k x ps sp) (hr:eF j X.A) (hkj:k<=j) (hg:Gl X x:=by rfl) (hdb:(x == ("__debug__":Str)) = false:=by decide):ZE X (.Call (.Name x p) [] [] pos) (nV sp uT):=.i (aDu h hr hkj hg hdb)
theorem bA {d:D} (h:eY X.K X.mg x d) (hg:Gl X x:=by rfl) (hd:(x == ("__debug__":Str)) = false:=by decide):ZE X (.Name x pos) (dC d):=.i (aFG h hg hd)
theorem pI {i:Nat} {op:Operator} {g:Int->Int->Int} {pos':Pos} (ho:PIp X op (ipI g)) (hN:X.N.Nodup) (he:ZE X e te) (hi:X.N[i]? = some x:=by rfl) (hx:Loc X.env.scope x:=by first | exact Or.inl rfl | exact Or.inr rfl) (hf:X.fn x = true ∨ X.env.scope.names.lookup x = some .local:=by first | exact .inl rfl | exact .inr rfl | assumption):ZS X (.AugAssign (.Name x pos') op e pos) (aHw i te g):=.i (aG3 (i:=i) (op:=op) ho hN he.o hi hx hf)
end
section
variable {prog:Program} {w:World} {A:Around} {E:Value->Shared->Prop} {s:Shared}
end
section
variable {X:Cx} {pos:Pos} {e a b:Expr} {es:List Expr} {te ta tb:DE}
theorem jR {k:Nat} {t:DGs} {n:Nat} (hc:X.calm = true) (h:ZGs X es t) (hn:(assignEach es X.env).length = n:=by rfl) (hst:(assignEach es X.env).findIdx? (·.1) = none:=by rfl):ZG X (.Tuple es k pos) (gU n t):=.i (aJs (n:=n) hc h.o hn hst)
end
section
variable {M:DM} {Q:DQ} {g:Bool->Bool} {ds:List D} {i:Int} {a:Addr} {α:Type} {x0 x1 x2 x3 x4 x5:α} {l:List α}
end
section
variable {K:PySem.W.Frag} {H:Hp} {ρ:cO} {σ:L2.St}
end
section
variable {X:Cx} {g:DG} {te:DE}
variable {elt iter tg:Expr} {scope:Scope} {pos:Pos} {N':List Str} {fr:List (Option Nat)} {tl:DE} {ta:DA} {oN:List Str} {osc:Scope}
theorem aHj (B:aB8 oN osc N' fr scope) (hc:X.calm = true) (hi:ZE X iter tl) (hg:∀ C s H fp pins,ZG (X.blk N' scope C s H fp pins) tg g) (he:∀ C s H fp pins,ZE (X.blk N' scope C s H fp pins) elt te) (hN:X.N = oN:=by rfl) (ho:X.env.scope = osc:=by rfl) (hs:∀ x,foldedSetIterable iter X.env x = pure x:=by intro _;rfl):ZE X (.ListComp elt [⟨tg,iter,[],0⟩] scope pos) (aIy tl fr g te):=.i (aJU B hc hi.o (fun C s H fp pins=>(hg C s H fp pins).o) (fun C s H fp pins=>(he C s H fp pins).o) hN ho hs)
theorem aF1 (B:aB8 oN osc N' fr scope) (hc:X.calm = true) (hi:ZE X iter tl) (hg:∀ C s H fp pins,ZG (X.blk N' scope C s H fp pins) tg g) (he:∀ C s H fp pins,ZE (X.blk N' scope C s H fp pins) elt te) (hN:X.N = oN:=by rfl) (ho:X.env.scope = osc:=by rfl) (hs:∀ x,foldedSetIterable iter X.env x = pure x:=by intro _;rfl):ZE X (.ListComp elt [⟨tg,iter,[],0⟩] scope pos) (aJz tl fr g te):=.i (aKo B hc hi.o (fun C s H fp pins=>(hg C s H fp pins).o) (fun C s H fp pins=>(he C s H fp pins).o) hN ho hs)
end
variable {X:Cx}
section
variable {g:DG} {te:DE} {tb:DS} {Q:DQ} {ρ0:cO}
end
section
variable {e:Expr} {te:DE} {pos:Pos}
end
section
variable {X:Cx} {e:Expr} {te:DE} {pos p2:Pos} {lo hi:Option Expr} {tl th:DO}
theorem wJ (he:ZE X e te) (hl:ZO X lo tl) (hu:ZO X hi th):ZE X (.Subscript e (.Slice lo hi none p2) pos) (aIQ te tl th):=.i (aDQ he.o hl.o hu.o)
end
section
variable {X:Cx} {a n:Expr} {ta:DE} {tn:DA} {pos p pos':Pos}
end
section
variable {X:Cx} {a b c e o:Expr} {es:List Expr} {ta tb tc te to:DE} {pos:Pos}
theorem uU {op op':CmpOp} {r r':D2} (ho:OpD X (compareOp op) r) (ho':OpD X (compareOp op') r') (ha:ZE X a ta) (hb:ZE X b tb) (hc:ZE X c tc) (hm:lastMarks [op,op'] [b,c] = false:=by with_unfolding_all rfl):ZE X (.Compare a [op,op'] [b,c] pos) (aA8 r r' ta tb tc):=.i (aEQ (op:=op) (op':=op') ho ho' ha.o hb.o hc.o hm)
end
section
variable {X:Cx} {e k:Expr} {te tk:DE} {pos p2:Pos}
end
section
variable {X:Cx} {pos:Pos} {iter tg:Expr} {body:List Stmt} {tl:DE} {g:DG} {tb:DS} {ta:DA}
end
section
variable {X:Cx} {x:Str} {V:DM->Prop} {e:Expr} {es:List Expr} {t:DA} {np cpos pos:Pos}
theorem aD4 (R:sU X x V) (ha:ZA X (e :: es) t) (hg:Gl X x:=by rfl) (hd:(x == ("__debug__":Str)) = false:=by decide) (he:starEach (e :: es) X.env = (false,eval e X.env) :: starEach es X.env:=by rfl) (hpl:(backTo cpos (starEach es X.env)).any (·.1) = false:=by rfl):ZS X (.Raise (some (.Call (.Name x np) (e :: es) [] cpos)) none pos) (aCG V t):=.i (aEB R ha.o hg hd he hpl)
end
section
variable {P:Program} {w:World} {K:PySem.W.Frag} {mg:Str->Option Value} {base:Heap}
end
section
variable {X:Cx} {pins:List (Addr × Obj)} {σ:L2.St} {H:Hp} {s:Shared} {a:Addr} {o:Obj}
end
section
variable {X:Cx} {a:Expr} {e:Expr} {es:List Expr} {t:DA} {x f n cm:Str} {ps:List Str} {sp:DSp} {cond:List D->DM->Prop} {C Cm:Addr} {k1 k2 k i j:Nat} {ts:Addr->DS} {b0:Stmt} {suite:List Stmt} {px pf pc pa pcm ph pos:Pos}
end
section
end
section
variable {X:Cx} {n c:Str} {C Cc a:Addr} {o:Obj} {p p1 p2 pos:Pos} {j:Nat}
end
section
variable {prog:Program} {w:World} {A:Around} {E:Value->Shared->Prop} {s:Shared} {K:Frag} {x C D:Addr} {ox:Obj}
end
section
variable {X:Cx} {a C:Addr} {o:Obj}
end
section
end
section
variable {X:Cx} {j:Nat}
end
section
variable {X:Cx} {st:Stmt} {cR:List Stmt} {t u:DS}
theorem kK (h1:ZS X st t) (h2:ZSs X cR u):ZSs X (st :: cR) (aJe t u):=.i (aGP h1.o h2.o)
end
section
variable {X:Cx} {e:Expr} {es:List Expr} {t:DA} {x f cm:Str} {ps:List Str} {sp:DSp} {cond:List D->DM->Prop} {C Cm:Addr} {k1 k2 k i:Nat} {ts:DS} {b0:Stmt} {suite:List Stmt} {px pf pc pa pcm ph pos:Pos}
end
section
variable {P:Program} {w:World} {K:PySem.W.Frag} {mg:Str->Option Value} {base:Heap}
theorem Fun.okZ {x qual:Str} {st:Stmt} {f:Addr} {fd:FuncData} {N ps:List Str} {k:Nat} {sp:DSp} (F:L2.Fun K x qual st f fd) (S:aR N ps (aI st)) (len:∀ ds M Q,sp ds M Q->ds.length = ps.length)
  (hbody:∀ (cdv:Value) (A:Around) (outer:List Env) (s:Shared) (H:Hp) (ds:List D) (M:DM) (Q:DQ) (E:XK),eF k (A.deeper (envOfC qual (aI st) s.heap.objs.size f cdv))->sp ds M Q ->
   ∃ t,ZSs (jV CX0 P w K mg base N qual (aI st) f cdv A outer s H E).nox (eR st) t/\t { nx:=fun _ M'=>Dn Q .non M',rt:=Dn Q } (iD N ds) M):jK P w K mg base CX0 (k + 1) f fd ps (tK K sp) :=
 Fun.okD F S len fun cdv A outer s H ds M Q E hr h=>let ⟨t,h1,h2⟩:=hbody cdv A outer s H ds M Q E hr h;⟨t,h1.o,h2⟩
theorem Has.mkZ {x:Str} {st:Stmt} {N ps:List Str} {k:Nat} {sp:DSp} (h:bV K mg x st ps) (S:aR N ps (aI st)) (len:∀ ds M Q,sp ds M Q->ds.length = ps.length)
  (hbody:∀ (f:Addr) (cdv:Value) (A:Around) (outer:List Env) (s:Shared) (H:Hp) (ds:List D) (M:DM) (Q:DQ) (E:XK),eF k (A.deeper (envOfC x (aI st) s.heap.objs.size f cdv))->sp ds M Q ->
   ∃ t,ZSs (jV CX0 P w K mg base N x (aI st) f cdv A outer s H E).nox (eR st) t/\t { nx:=fun _ M'=>Dn Q .non M',rt:=Dn Q } (iD N ds) M):Has P w K mg base (k + 1) x ps sp :=
 Has.mk h S len fun f cdv A outer s H ds M Q E hr h=>let ⟨t,h1,h2⟩:=hbody f cdv A outer s H ds M Q E hr h;⟨t,h1.o,h2⟩
end
section
variable {P:Program} {w:World} {K:PySem.W.Frag} {mg:Str->Option Value} {base:Heap}
end
end Dd
namespace Mz
open PySem
noncomputable def Bd (n:Nat) (x:Int):Prop:=x.natAbs < 2 ^ n
theorem Bd.mono {m n:Nat} {x:Int} (h:Bd m x) (l:m<=n):Bd n x:=Nat.lt_of_lt_of_le h (Nat.pow_le_pow_right (by decide) l)
theorem Bd.neg {n:Nat} {x:Int} (h:Bd n x):Bd n (-x):=by unfold Bd at *;rw [Int.natAbs_neg];exact h
theorem Bd.add {m:Nat} {x y:Int} (h:Bd m x) (h2:Bd m y):Bd (m + 1) (x + y):=by
 unfold Bd at *
 have:=Int.natAbs_add_le x y
 rw [Nat.pow_succ]
 omega
theorem Bd.sub {m:Nat} {x y:Int} (h:Bd m x) (h2:Bd m y):Bd (m + 1) (x - y):=by
 rw [Int.sub_eq_add_neg];exact h.add h2.neg
theorem Bd.mul {m n:Nat} {x y:Int} (h:Bd m x) (h2:Bd n y):Bd (m + n) (x * y):=by
 unfold Bd at *
 rw [Int.natAbs_mul,Nat.pow_add]
 exact Nat.mul_lt_mul'' h h2
theorem Bd.of {n:Nat} {x:Int} (h1:-(2 ^ n:Nat) < x) (h2:x < (2 ^ n:Nat)):Bd n x:=by unfold Bd;omega
theorem Bd.log {n:Nat} {x:Int} (h:Bd n x) (h0:0 < n):x.natAbs.log2 < n:=by
 rcases Nat.eq_zero_or_pos x.natAbs with e | e
 ·rw [e];simpa using h0
 ·exact (Nat.log2_lt (Nat.ne_of_gt e)).mpr h
theorem Bd.bits {n:Nat} {x:Int} (h:Bd n x):Builtin.Int.intBits x<=n + 1:=by
 unfold Builtin.Int.intBits
 split
 ·exact Nat.zero_le _
 ·rcases Nat.eq_zero_or_pos n with e | e
  ·subst e
   have:x.natAbs < 1:=h
   have:x.natAbs = 0:=by omega
   rw [this];decide
  ·have:=h.log e
   omega
theorem cT {m n:Nat} {x y:Int} (h:Bd m x) (h2:Bd n y) (l:m + n<=100000000:=by decide):IntMulOk x y:=IntMulOk.of_le h.bits h2.bits (by omega)
theorem oH {x y:Int} (h:Bd 63 x):IntMulOk x y:=IntMulOk.of_left (by have:=h.bits;omega)
theorem qT {x y:Int} (h:Bd 63 y):IntMulOk x y:=IntMulOk.of_right (by have:=h.bits;omega)
theorem aAm {a b:Int} (h:b ≠ 0):(a.fmod b).natAbs < b.natAbs:=by
 rcases Int.lt_or_lt_of_ne h with hb | hb
 ·have e:=Int.fmod_eq_emod (a:=a) (b:=b)
  have h1:=Int.emod_nonneg a h
  have h2:=Int.emod_lt_of_neg a hb
  by_cases hd:b ∣ a
  ·rw [if_pos (.inr hd)] at e
   have:=Int.emod_eq_zero_of_dvd hd
   omega
  ·rw [if_neg (by omega)] at e
   have h3:a % b ≠ 0:=fun z=>hd (Int.dvd_of_emod_eq_zero z)
   omega
 ·have h1:=Int.fmod_nonneg_of_pos a hb
  have h2:=Int.fmod_lt_of_pos a hb
  omega
theorem xX (a b:Int):Int.gcd b (a.fmod b) = Int.gcd a b:=by
 rw [Int.fmod_def,Int.mul_comm b,Int.gcd_sub_mul_right_right,Int.gcd_comm]
noncomputable def sg (t b:Int):Int:=if b < 0 then -(Int.gcd t b:Int) else (Int.gcd t b:Int)
noncomputable def fT (t b:Int):Int:=t.fdiv (sg t b)
noncomputable def fB (t b:Int):Int:=b.fdiv (sg t b)
theorem kX {t b:Int} (h:b ≠ 0):0 < Int.gcd t b:=Nat.pos_of_ne_zero fun z=>h (Int.gcd_eq_zero_iff.mp z).2
theorem aHO {t b:Int} (h:b ≠ 0):sg t b ≠ 0:=by
 have:=kX (t:=t) h
 unfold sg;split<;>omega
theorem pK (t b:Int):sg t b ∣ t:=by
 have h:=Int.gcd_dvd_left t b
 unfold sg
 split
 ·exact Int.neg_dvd.mpr h
 ·exact h
theorem oR (t b:Int):sg t b ∣ b:=by
 have h:=Int.gcd_dvd_right t b
 unfold sg
 split
 ·exact Int.neg_dvd.mpr h
 ·exact h
theorem aJy {t b:Int} (h:b ≠ 0):fT t b * sg t b = t:=by
 unfold fT;rw [Int.fdiv_eq_ediv_of_dvd (pK t b)];exact Int.ediv_mul_cancel (pK t b)
theorem aEW {t b:Int} (h:b ≠ 0):fB t b * sg t b = b:=by
 unfold fB;rw [Int.fdiv_eq_ediv_of_dvd (oR t b)];exact Int.ediv_mul_cancel (oR t b)
theorem aIh {t b:Int} (h:b ≠ 0):0 < fB t b:=by
 have e:=aEW (t:=t) h
 have hg:=kX (t:=t) h
 rcases Int.lt_trichotomy (fB t b) 0 with z | z | z
 ·exfalso
  unfold sg at e
  split at e
  ·rename_i hb
   have:=Int.mul_pos_of_neg_of_neg z (show -(Int.gcd t b:Int) < 0 by omega)
   omega
  ·rename_i hb
   have:=Int.mul_neg_of_neg_of_pos z (show 0 < (Int.gcd t b:Int) by omega)
   omega
 ·rw [z] at e;omega
 ·exact z
theorem aIH {t b:Int} (h:b ≠ 0):fT t b * b = fB t b * t:=by
 have e1:=aJy (t:=t) h
 have e2:=aEW (t:=t) h
 have:fT t b * (fB t b * sg t b) = fB t b * (fT t b * sg t b):=by grind
 rw [e1,e2] at this
 exact this
theorem aAa (t b:Int):(sg t b).natAbs = Int.gcd t b:=by unfold sg;split<;>simp
theorem aMw {t b:Int} (h:b ≠ 0):Int.gcd (fT t b) (fB t b) = 1:=by
 unfold fT fB
 rw [Int.fdiv_eq_ediv_of_dvd (pK t b),Int.fdiv_eq_ediv_of_dvd (oR t b),Int.gcd_ediv (pK t b) (oR t b),aAa]
 exact Nat.div_self (kX h)
theorem Bd.fT {n:Nat} {t b:Int} (h:Bd n t):Bd n (fT t b):=by
 unfold Bd at *;unfold Mz.fT;rw [Int.fdiv_eq_ediv_of_dvd (pK t b)]
 exact Nat.lt_of_le_of_lt (Int.natAbs_ediv_le_natAbs _ _) h
theorem Bd.fB {n:Nat} {t b:Int} (h:Bd n b):Bd n (fB t b):=by
 unfold Bd at *;unfold Mz.fB;rw [Int.fdiv_eq_ediv_of_dvd (oR t b)]
 exact Nat.lt_of_le_of_lt (Int.natAbs_ediv_le_natAbs _ _) h
theorem Bd.sg {n:Nat} {t b:Int} (h:Bd n b) (h0:b ≠ 0):Bd n (sg t b):=by
 unfold Bd at *
 rw [aAa]
 have:=Nat.le_of_dvd (by omega) (Int.natAbs_dvd_natAbs.mpr (Int.gcd_dvd_right t b))
 simp at this
 omega
theorem xR {a b c:Int} (h:b ∣ a * c) (g:Int.gcd b a = 1):b ∣ c:=by
 have h':b.natAbs ∣ a.natAbs * c.natAbs:=by rw [<- Int.natAbs_mul];exact Int.natAbs_dvd_natAbs.mpr h
 exact Int.natAbs_dvd_natAbs.mp (Nat.Coprime.dvd_of_dvd_mul_left g h')
theorem qN {t b t' b':Int} (h:0 < b) (h':0 < b') (g:Int.gcd t b = 1) (g':Int.gcd t' b' = 1) (e:t * b' = t' * b):t = t'/\b = b':=by
 have d1:b ∣ b':=by
  have:b ∣ t * b':=⟨t',by rw [e];exact Int.mul_comm _ _⟩
  exact xR this (by rw [Int.gcd_comm];exact g)
 have d2:b' ∣ b:=by
  have:b' ∣ t' * b:=⟨t,by rw [<- e];exact Int.mul_comm _ _⟩
  exact xR this (by rw [Int.gcd_comm];exact g')
 have e1:b = b':=Int.le_antisymm (Int.le_of_dvd h' d1) (Int.le_of_dvd h d2)
 subst e1
 exact ⟨Int.eq_of_mul_eq_mul_right (by omega) e,rfl⟩
end Mz
namespace Mz
open PySem
theorem den_pos (q:Rat):(0:Int) < (q.den:Int):=by have:=q.den_pos;omega
theorem eG (q:Rat):(q.den:Int) ≠ 0:=by have:=q.den_pos;omega
theorem xJ (q:Rat):((q.den:Int):Rat) ≠ 0:=by
 intro h
 have:(q.den:Int) = 0:=by exact_mod_cast h
 exact eG q this
theorem aGu (q:Rat):(q.num:Rat) / ((q.den:Int):Rat) = q:=by
 have h:=Rat.num_divInt_den q
 rw [Rat.divInt_eq_div] at h
 exact h
theorem gD (q:Rat):(q.num:Rat) = q * ((q.den:Int):Rat):=by
 have h:=aGu q
 have h2:=xJ q
 grind
theorem aCP {t b:Int} (h:b ≠ 0):fT t b = ((t:Rat) / (b:Rat)).num/\fB t b = ((((t:Rat) / (b:Rat)).den:Nat):Int):=by
 have hb:(b:Rat) ≠ 0:=by exact_mod_cast h
 refine qN (aIh h) (den_pos _) (aMw h) ?_ ?_
 ·have:=((t:Rat) / (b:Rat)).reduced
  unfold Nat.Coprime at this
  rw [<- this]
  rfl
 ·have e1:=aIH (t:=t) h
  have e2:=gD ((t:Rat) / (b:Rat))
  have e3:((fT t b:Int):Rat) * b = (fB t b:Int) * (t:Rat):=by rw [<- Rat.intCast_mul,<- Rat.intCast_mul,e1]
  have e4:((fT t b:Int):Rat) * ((((t:Rat) / (b:Rat)).den:Int):Rat) = ((((t:Rat) / (b:Rat)).num:Int):Rat) * (fB t b:Int):=by
   rw [e2]
   grind
  rw [<- Rat.intCast_mul,<- Rat.intCast_mul] at e4
  exact Rat.intCast_inj.mp e4
noncomputable def BQ (n:Nat) (q:Rat):Prop:=Bd n q.num/\Bd n (q.den:Int)
theorem BQ.mono {m n:Nat} {q:Rat} (h:BQ m q) (l:m<=n):BQ n q:=⟨h.1.mono l,h.2.mono l⟩
theorem BQ.make {n:Nat} {t b:Int} (h:b ≠ 0) (h1:Bd n t) (h2:Bd n b):BQ n ((t:Rat) / (b:Rat)):=by
 obtain ⟨e1,e2⟩:=aCP (t:=t) h
 exact ⟨e1 ▸ h1.fT,e2 ▸ h2.fB⟩
theorem aLW (p q:Rat):(((p.num * q.den + q.num * p.den:Int)):Rat) / ((p.den * q.den:Int):Rat) = p + q:=by
 have h1:=xJ p
 have h2:=xJ q
 have e1:=gD p
 have e2:=gD q
 rw [Rat.intCast_add,Rat.intCast_mul,Rat.intCast_mul,Rat.intCast_mul,e1,e2]
 grind
theorem aMu (p q:Rat):(((p.num * q.den - q.num * p.den:Int)):Rat) / ((p.den * q.den:Int):Rat) = p - q:=by
 have h1:=xJ p
 have h2:=xJ q
 have e1:=gD p
 have e2:=gD q
 rw [Rat.intCast_sub,Rat.intCast_mul,Rat.intCast_mul,Rat.intCast_mul,e1,e2]
 grind
theorem aHV (p q:Rat):(((p.num * q.num:Int)):Rat) / ((p.den * q.den:Int):Rat) = p * q:=by
 have h1:=xJ p
 have h2:=xJ q
 have e1:=gD p
 have e2:=gD q
 rw [Rat.intCast_mul,Rat.intCast_mul,e1,e2]
 grind
theorem BQ.add {m n:Nat} {p q:Rat} (h:BQ m p) (h2:BQ n q):BQ (m + n + 1) (p + q):=by
 rw [<- aLW]
 exact .make (Int.mul_ne_zero (eG p) (eG q)) ((h.1.mul h2.2).add ((h2.1.mul h.2).mono (by omega))) ((h.2.mul h2.2).mono (by omega))
theorem BQ.sub {m n:Nat} {p q:Rat} (h:BQ m p) (h2:BQ n q):BQ (m + n + 1) (p - q):=by
 rw [<- aMu]
 exact .make (Int.mul_ne_zero (eG p) (eG q)) ((h.1.mul h2.2).sub ((h2.1.mul h.2).mono (by omega))) ((h.2.mul h2.2).mono (by omega))
theorem BQ.mul {m n:Nat} {p q:Rat} (h:BQ m p) (h2:BQ n q):BQ (m + n) (p * q):=by
 rw [<- aHV]
 exact .make (Int.mul_ne_zero (eG p) (eG q)) (h.1.mul h2.1) (h.2.mul h2.2)
theorem BQ.int {m:Nat} {z:Int} (h:Bd m z) (h0:0 < m):BQ m (z:Rat):=⟨by rw [Rat.num_intCast];exact h,by rw [Rat.den_intCast];unfold Bd;exact Nat.one_lt_two_pow (by omega)⟩
theorem ltQ (p q:Rat):(p.num * q.den < q.num * p.den) ↔ p < q:=(Rat.lt_iff p q).symm
theorem aC8 {q:Rat}:0 < q.num ↔ 0 < q:=by
 have:=Rat.lt_iff 0 q
 simp at this
 exact this.symm
end Mz
namespace Mz
open PySem
theorem aHy {t b:Int} {q:Rat} (hb:0 < b) (hg:Int.gcd t b = 1) (e:(t:Rat) = q * (b:Rat)):t = q.num/\b = (q.den:Int):=by
 refine qN hb (den_pos q) hg ?_ ?_
 ·have:=q.reduced
  unfold Nat.Coprime at this
  rw [<- this]
  rfl
 ·have e2:=gD q
  have:((t * (q.den:Int):Int):Rat) = ((q.num * b:Int):Rat):=by
   rw [Rat.intCast_mul,Rat.intCast_mul,e,e2]
   grind
  exact Rat.intCast_inj.mp this
theorem mW {a b c:Int} (h:Int.gcd a b = 1) (h2:Int.gcd a c = 1):Int.gcd a (b * c) = 1:=by
 unfold Int.gcd at *
 rw [Int.natAbs_mul]
 exact Nat.Coprime.mul_right h h2
theorem eL {a b:Int} (h:Int.gcd a b = 1):Int.gcd b a = 1:=by rw [Int.gcd_comm];exact h
theorem kS {a a' b:Int} (h:a ∣ a') (h2:Int.gcd a' b = 1):Int.gcd a b = 1:=by
 unfold Int.gcd at *
 exact Nat.Coprime.coprime_dvd_left (Int.natAbs_dvd_natAbs.mpr h) h2
theorem red (q:Rat):Int.gcd q.num (q.den:Int) = 1:=by
 have:=q.reduced
 unfold Nat.Coprime at this
 rw [<- this]
 rfl
theorem qC {x y:Int} (h:y ≠ 0):∃ a b:Int,x = (Int.gcd x y:Int) * a/\y = (Int.gcd x y:Int) * b/\Int.gcd a b = 1/\x.fdiv (Int.gcd x y:Int) = a/\y.fdiv (Int.gcd x y:Int) = b:=by
 have hp:0 < Int.gcd x y:=kX h
 obtain ⟨a,ha⟩:=Int.gcd_dvd_left x y
 obtain ⟨b,hb⟩:=Int.gcd_dvd_right x y
 have e1:x.fdiv (Int.gcd x y:Int) = a:=by
  rw [Int.fdiv_eq_ediv_of_dvd (Int.gcd_dvd_left x y)]
  exact Int.ediv_eq_of_eq_mul_right (by omega) ha
 have e2:y.fdiv (Int.gcd x y:Int) = b:=by
  rw [Int.fdiv_eq_ediv_of_dvd (Int.gcd_dvd_right x y)]
  exact Int.ediv_eq_of_eq_mul_right (by omega) hb
 refine ⟨a,b,ha,hb,?_,e1,e2⟩
 rw [<- e1,<- e2,Int.fdiv_eq_ediv_of_dvd (Int.gcd_dvd_left x y),Int.fdiv_eq_ediv_of_dvd (Int.gcd_dvd_right x y),Int.gcd_ediv (Int.gcd_dvd_left x y) (Int.gcd_dvd_right x y)]
 simp
 exact Nat.div_self hp
theorem aMi (p q:Rat):∀ g a t l:Int,g = (Int.gcd p.den q.den:Int)->a = (p.den:Int).fdiv g->t = p.num * (q.den:Int).fdiv g + q.num * a->l = (Int.gcd t g:Int) ->
  g ≠ 0/\l ≠ 0/\g ∣ (p.den:Int)/\l ∣ g/\t.fdiv l = (p + q).num/\a * (q.den:Int).fdiv l = ((p + q).den:Int):=by
 intro g a t l hg ha ht hl
 have d1:=den_pos p
 have d2:=den_pos q
 obtain ⟨a',b,e1,e2,cab,f1,f2⟩:=qC (x:=p.den) (y:=q.den) (eG q)
 rw [<- hg] at e1 e2 f1 f2
 rw [f1] at ha
 subst ha
 rw [f2] at ht
 have g0:0 < g:=by have:=kX (t:=(p.den:Int)) (eG q);omega
 have a0:0 < a:=by
  rcases Int.lt_trichotomy a 0 with z | z | z
  ·have:=Int.mul_neg_of_pos_of_neg g0 z;omega
  ·subst z;omega
  ·exact z
 have b0:0 < b:=by
  rcases Int.lt_trichotomy b 0 with z | z | z
  ·have:=Int.mul_neg_of_pos_of_neg g0 z;omega
  ·subst z;omega
  ·exact z
 obtain ⟨t',g',e3,e4,ctg,f3,f4⟩:=qC (x:=t) (y:=g) (by omega)
 rw [<- hl] at e3 e4 f3 f4
 have l0:0 < l:=by have:=kX (t:=t) (b:=g) (by omega);omega
 have g'0:0 < g':=by
  rcases Int.lt_trichotomy g' 0 with z | z | z
  ·have:=Int.mul_neg_of_pos_of_neg l0 z;omega
  ·subst z;omega
  ·exact z
 have f5:(q.den:Int).fdiv l = g' * b:=by
  have e:(q.den:Int) = l * (g' * b):=by rw [e2,e4];grind
  rw [Int.fdiv_eq_ediv_of_dvd ⟨_,e⟩]
  exact Int.ediv_eq_of_eq_mul_right (by omega) e
 refine ⟨by omega,by omega,⟨a,e1⟩,⟨g',e4⟩,?_⟩
 rw [f3,f5]
 have ca:Int.gcd t a = 1:=by
  have c1:Int.gcd p.num a = 1:=eL (kS ⟨g,by rw [e1];grind⟩ (eL (red p)))
  have:Int.gcd a (p.num * b) = 1:=mW (eL c1) cab
  rw [ht,Int.gcd_comm,Int.gcd_add_mul_right_right]
  exact this
 have cb:Int.gcd t b = 1:=by
  have c1:Int.gcd q.num b = 1:=eL (kS ⟨g,by rw [e2];grind⟩ (eL (red q)))
  have:Int.gcd b (q.num * a) = 1:=mW (eL c1) (eL cab)
  rw [ht,Int.gcd_comm,Int.add_comm,Int.gcd_add_mul_right_right]
  exact this
 have hd:t' ∣ t:=⟨l,by rw [e3];grind⟩
 refine aHy (q:=p + q) (Int.mul_pos a0 (Int.mul_pos g'0 b0)) (mW (kS hd ca) (mW ctg (kS hd cb))) ?_
 have n1:=gD p
 have n2:=gD q
 have r1:=xJ p
 have r2:=xJ q
 have k1:((p.den:Int):Rat) = (l:Rat) * g' * a:=by rw [e1,e4,Rat.intCast_mul,Rat.intCast_mul]
 have k2:((q.den:Int):Rat) = (l:Rat) * g' * b:=by rw [e2,e4,Rat.intCast_mul,Rat.intCast_mul]
 have k3:(l:Rat) * t' = (p.num:Rat) * b + (q.num:Rat) * a:=by rw [<- Rat.intCast_mul,<- e3,ht,Rat.intCast_add,Rat.intCast_mul,Rat.intCast_mul]
 have k4:(l:Rat) ≠ 0:=fun z=>by
                     have:l = 0:=by exact_mod_cast z
                     omega
 rw [n1,n2,k1,k2] at k3
 rw [Rat.intCast_mul,Rat.intCast_mul]
 have:(l:Rat) * (t':Rat) = l * ((p + q) * ((a:Rat) * (g' * b))):=by rw [k3];grind
 grind
theorem aLJ (p q:Rat):∀ f r:Int,f = (Int.gcd p.num q.den:Int)->r = (Int.gcd q.num p.den:Int) ->
  f ≠ 0/\r ≠ 0/\f ∣ (q.den:Int)/\r ∣ (p.den:Int)/\p.num.fdiv f * q.num.fdiv r = (p * q).num/\(p.den:Int).fdiv r * (q.den:Int).fdiv f = ((p * q).den:Int):=by
 intro f r hf hr
 have d1:=den_pos p
 have d2:=den_pos q
 obtain ⟨x,v,e1,e2,c1,f1,f2⟩:=qC (x:=p.num) (y:=q.den) (eG q)
 obtain ⟨y,u,e3,e4,c2,f3,f4⟩:=qC (x:=q.num) (y:=p.den) (eG p)
 rw [<- hf] at e1 e2 f1 f2
 rw [<- hr] at e3 e4 f3 f4
 have f0:0 < f:=by have:=kX (t:=p.num) (eG q);omega
 have r0:0 < r:=by have:=kX (t:=q.num) (eG p);omega
 have v0:0 < v:=by
  rcases Int.lt_trichotomy v 0 with z | z | z
  ·have:=Int.mul_neg_of_pos_of_neg f0 z;omega
  ·subst z;omega
  ·exact z
 have u0:0 < u:=by
  rcases Int.lt_trichotomy u 0 with z | z | z
  ·have:=Int.mul_neg_of_pos_of_neg r0 z;omega
  ·subst z;omega
  ·exact z
 refine ⟨by omega,by omega,⟨v,e2⟩,⟨u,e4⟩,?_⟩
 rw [f1,f2,f3,f4]
 have cxu:Int.gcd x u = 1:=kS ⟨f,by rw [e1];grind⟩ (eL (kS ⟨r,by rw [e4];grind⟩ (eL (red p))))
 have cyv:Int.gcd y v = 1:=kS ⟨r,by rw [e3];grind⟩ (eL (kS ⟨f,by rw [e2];grind⟩ (eL (red q))))
 refine aHy (q:=p * q) (Int.mul_pos u0 v0) ?_ ?_
 ·exact eL (mW (eL (mW cxu c1)) (eL (mW c2 cyv)))
 have n1:=gD p
 have n2:=gD q
 have r1:=xJ p
 have r2:=xJ q
 have k1:((p.den:Int):Rat) = (r:Rat) * u:=by rw [e4,Rat.intCast_mul]
 have k2:((q.den:Int):Rat) = (f:Rat) * v:=by rw [e2,Rat.intCast_mul]
 have k3:(p.num:Rat) = (f:Rat) * x:=by rw [e1,Rat.intCast_mul]
 have k4:(q.num:Rat) = (r:Rat) * y:=by rw [e3,Rat.intCast_mul]
 have k5:(f:Rat) ≠ 0:=fun z=>by
                     have:f = 0:=by exact_mod_cast z
                     omega
 have k6:(r:Rat) ≠ 0:=fun z=>by
                     have:r = 0:=by exact_mod_cast z
                     omega
 rw [Rat.intCast_mul,Rat.intCast_mul]
 have:(f:Rat) * r * ((x:Rat) * y) = f * r * ((p * q) * ((u:Rat) * v)):=by
  have z1:(f:Rat) * x = p * (r * u):=by rw [<- k3,<- k1];exact n1
  have z2:(r:Rat) * y = q * (f * v):=by rw [<- k4,<- k2];exact n2
  grind
 grind
theorem Bd.dvd {n:Nat} {x y:Int} (h:Bd n y) (d:x ∣ y) (h0:y ≠ 0):Bd n x:=by
 unfold Bd at *
 have:=Nat.le_of_dvd (by omega) (Int.natAbs_dvd_natAbs.mpr d)
 omega
theorem Bd.fdiv {n:Nat} {x y:Int} (h:Bd n x) (d:y ∣ x):Bd n (x.fdiv y):=by
 unfold Bd at *
 rw [Int.fdiv_eq_ediv_of_dvd d]
 exact Nat.lt_of_le_of_lt (Int.natAbs_ediv_le_natAbs _ _) h
end Mz
namespace Mz
open PySem
noncomputable def sgn (q:Rat):Int:=if 0 < q then 1 else if q < 0 then -1 else 0
noncomputable def uu (t:Rat):Rat:=(1 - t * t) / (1 + t * t)
noncomputable def vv (t:Rat):Rat:=(t + t) / (1 + t * t)
end Mz
namespace Mz
open PySem
noncomputable def tb (t h u:Int):Int:=(t + h * u).fmod 4
end Mz
namespace Dd
open PySem PySem.Spec PyProof.Rows L2 Mz
noncomputable def FQ (q:Rat):D:=.tup [.int q.num,.int (q.den:Int)]
theorem aCT {t b:Int} (h:b ≠ 0):(D.tup [.int (fT t b),.int (fB t b)]) = FQ ((t:Rat) / (b:Rat)):=by
 obtain ⟨e1,e2⟩:=aCP (t:=t) h
 rw [e1,e2]
 rfl
noncomputable def dN:DSp:=fun ds M Q=>∃ a b,ds = [.int a,.int b]/\Q (.int (Int.gcd a b:Int)) M
noncomputable def aAI (g:Rat->Rat->D) (C:Rat->Prop:=fun _=>True):DSp:=fun ds M Q=>∃ p q m n,ds = [FQ p,FQ q]/\C q/\BQ m p/\BQ n q/\m + n<=8998/\Q (g p q) M
noncomputable def aA4:DSp:=aAI fun p q=>FQ (p + q)
noncomputable def aBH:DSp:=aAI fun p q=>FQ (p * q)
noncomputable def aBm:DSp:=aAI fun p q=>.bl (decide (p < q))
theorem sI {g:Rat->Rat->D} {C:Rat->Prop} (ds:List D) (M:DM) (Q:DQ) (h:aAI g C ds M Q):ds.length = 2:=by obtain ⟨a,b,m,n,rfl,_⟩:=h;rfl
theorem vU {n:Nat} {x y z:Int} (h:Bd n y) (l:n<=9000) (d:z ∣ y) (h0:y ≠ 0) (hz:z ≠ 0):CFd x z:=⟨hz,by
 rcases Nat.eq_zero_or_pos n with e | e
 ·subst e
  have:y.natAbs < 1:=h
  omega
 ·exact Nat.lt_of_lt_of_le ((h.dvd d h0).log e) l⟩
theorem aGo (q:Rat):(D.tup [.int (-q.num),.int (q.den:Int)]) = FQ (-q):=by
 unfold FQ
 rw [Rat.neg_num,Rat.neg_den]
noncomputable def PQ (x y:Rat):D:=.tup [FQ x,FQ y]
theorem aAt (p q:Rat):eqD (FQ p) (FQ q) = decide (p = q):=by
 show (p.num == q.num && ((p.den:Int) == (q.den:Int) && true)) = decide (p = q)
 by_cases h:p = q
 ·subst h;simp
 ·rw [decide_eq_false h]
  by_cases h1:p.num = q.num
  ·have h2:¬ ((p.den:Int) = (q.den:Int)):=fun z=>h (Rat.ext h1 (by exact_mod_cast z))
   simp [h1,h2]
  ·simp [h1]
theorem aFW (x y u v:Rat):eqD (PQ x y) (PQ u v) = (decide (x = u) && decide (y = v)):=by
 show (eqD (FQ x) (FQ u) && (eqD (FQ y) (FQ v) && true)) = _
 rw [aAt,aAt,Bool.and_true]
noncomputable def iW:DSp:=fun ds M Q=>∃ x y,ds = [PQ x y]/\BQ 900 x/\BQ 900 y/\∀ X Y d:Int,0 < d->(X:Rat) = x * (d:Rat)->(Y:Rat) = y * (d:Rat)->Bd 1800 X->Bd 1800 Y->Bd 1800 d->Q (.tup [.int X,.int Y,.int d]) M
noncomputable def aAf:DSp:=fun ds M Q=>∃ z:Int,ds = [.int z]/\Q (.int (sgn (z:Rat))) M
theorem aBM {d:Int} (h:0 < d):(0:Rat) < (d:Rat):=by exact_mod_cast h
structure Adv (M M':DM) (a:Addr):Prop where
 l:∀ b:Addr,b ≠ a->M' (.l b) = M (.l b)
 d:∀ b:Addr,M' (.d b) = M (.d b)
instance {M M':DM} {a:Addr}:CoeFun (Adv M M' a) (fun _=>∀ b:Addr,b ≠ a->M' (.l b) = M (.l b)):=⟨Adv.l⟩
theorem Adv.trans {M M1 M2:DM} {a:Addr} (h:Adv M M1 a) (h2:Adv M1 M2 a):Adv M M2 a:=⟨fun b n=>(h2.l b n).trans (h.l b n),fun b=>(h2.d b).trans (h.d b)⟩
theorem aG6 {xs:List D} {lo hi:Option Int} {d:D} (h:d ∈ cutD xs lo hi):d ∈ xs:=List.mem_of_mem_drop (List.mem_of_mem_take h)
noncomputable def aCn:D:=.tup [.int 1,.int 1]
theorem aJF {x y:Rat} {g:DG} {te:DE} {Q:DQ} {ρ0:cO} {M:DM}:itT (PQ x y) ρ0 g te M Q = aBR none [FQ x,FQ y] ρ0 g te M Q:=rfl
theorem aJi {q:Rat} {g:DG} {te:DE} {Q:DQ} {ρ0:cO} {M:DM}:itT (FQ q) ρ0 g te M Q = aBR none [.int q.num,.int (q.den:Int)] ρ0 g te M Q:=rfl
theorem aIO {x y:Rat} {g:DG} {tb:DS} {E:iM} {ρ:cO} {M:DM}:foT (PQ x y) g tb E ρ M = dIt none [FQ x,FQ y] g tb E ρ M:=rfl
theorem aL5 {q:Rat} {M:DM} {Q:DQ}:mH (FQ q) (.int 0) M Q = Q (.int q.num) M:=rfl
theorem aK1 {q:Rat} {M:DM} {Q:DQ}:mH (FQ q) (.int 1) M Q = Q (.int (q.den:Int)) M:=rfl
theorem aLG {x y:Rat} {M:DM} {Q:DQ}:mH (PQ x y) (.int 0) M Q = Q (FQ x) M:=rfl
theorem aLU {x y:Rat} {M:DM} {Q:DQ}:mH (PQ x y) (.int 1) M Q = Q (FQ y) M:=rfl
theorem aLd {x y:Rat} {n:Nat} {t:DGs} {ρ:cO} {M:DM} {R:cO->DM->Prop}:gU n t (PQ x y) ρ M R = (([FQ x,FQ y]:List D).length = n/\t [FQ x,FQ y] ρ M R):=rfl
theorem aLM {q:Rat} {n:Nat} {t:DGs} {ρ:cO} {M:DM} {R:cO->DM->Prop}:gU n t (FQ q) ρ M R = (([.int q.num,.int (q.den:Int)]:List D).length = n/\t [.int q.num,.int (q.den:Int)] ρ M R):=rfl
theorem aAA {g:Bool->Bool} {p q:Rat} {M:DM} {Q:DQ}:dEq g (FQ p) (FQ q) M Q = Q (.bl (g (decide (p = q)))) M:=by
 show (aW 60 (FQ p) = true/\aW 60 (FQ q) = true/\Q (.bl (g (eqD (FQ p) (FQ q)))) M) = _
 rw [aAt]
 exact propext ⟨fun h=>h.2.2,fun h=>⟨rfl,rfl,h⟩⟩
theorem aFz {g:Bool->Bool} {x y u v:Rat} {M:DM} {Q:DQ}:dEq g (PQ x y) (PQ u v) M Q = Q (.bl (g (decide (x = u/\y = v)))) M:=by
 show (aW 60 (PQ x y) = true/\aW 60 (PQ u v) = true/\Q (.bl (g (eqD (PQ x y) (PQ u v)))) M) = _
 have e:(decide (x = u) && decide (y = v)) = decide (x = u/\y = v):=by by_cases h1:x = u<;>by_cases h2:y = v<;>simp [h1,h2]
 rw [aFW,e]
 exact propext ⟨fun h=>h.2.2,fun h=>⟨rfl,rfl,h⟩⟩
theorem oG {M:DM} {p b:Addr} {ds:List D} (h:bJ M p ds b = none):b ≠ p/\M b = none:=by
 by_cases e:b = p
 ·subst e;rw [aK] at h;cases h
 ·rw [gJ e] at h;exact ⟨e,h⟩
noncomputable def sG:D:=.tup [.tup [.int 0,.int 1],.tup [.int 0,.int 1]]
noncomputable def FR (px py:Rat) (t h:Int) (s:Rat):D:=.tup [PQ px py,.int t,.int h,FQ s]
theorem aLX {px py s:Rat} {i h:Int} {n:Nat} {t:DGs} {ρ:cO} {M:DM} {R:cO->DM->Prop}:gU n t (FR px py i h s) ρ M R = (([PQ px py,.int i,.int h,FQ s]:List D).length = n/\t [PQ px py,.int i,.int h,FQ s] ρ M R):=rfl
theorem aLs {px py s:Rat} {t h:Int} {M:DM} {Q:DQ}:mH (FR px py t h s) (.int 0) M Q = Q (PQ px py) M:=rfl
theorem aKY {px py s:Rat} {t h:Int} {M:DM} {Q:DQ}:mH (FR px py t h s) (.int 1) M Q = Q (.int t) M:=rfl
theorem aK3 {px py s:Rat} {t h:Int} {M:DM} {Q:DQ}:mH (FR px py t h s) (.int 2) M Q = Q (.int h) M:=rfl
theorem aKx {px py s:Rat} {t h:Int} {M:DM} {Q:DQ}:mH (FR px py t h s) (.int 3) M Q = Q (FQ s) M:=rfl
theorem aJN (px py s px' py' s':Rat) (t h t' h':Int):eqD (FR px py t h s) (FR px' py' t' h' s') = decide (px = px'/\py = py'/\t = t'/\h = h'/\s = s'):=by
 show (eqD (PQ px py) (PQ px' py') && (t == t' && (h == h' && (eqD (FQ s) (FQ s') && true)))) = _
 rw [aFW,aAt]
 by_cases h1:px = px'<;>by_cases h2:py = py'<;>by_cases h3:t = t'<;>by_cases h4:h = h'<;>by_cases h5:s = s'<;>simp [h1,h2,h3,h4,h5]
theorem aIC {g:Bool->Bool} {px py s px' py' s':Rat} {t h t' h':Int} {M:DM} {Q:DQ}:dEq g (FR px py t h s) (FR px' py' t' h' s') M Q = Q (.bl (g (decide (px = px'/\py = py'/\t = t'/\h = h'/\s = s')))) M:=by
 show (aW 60 (FR px py t h s) = true/\aW 60 (FR px' py' t' h' s') = true/\Q (.bl (g (eqD (FR px py t h s) (FR px' py' t' h' s')))) M) = _
 rw [aJN]
 exact propext ⟨fun z=>z.2.2,fun z=>⟨rfl,rfl,z⟩⟩
noncomputable def kR (n:Nat) (L:List D):Prop:=L.length = n/\∀ d ∈ L,∃ z:Int,d = .int z/\0<=z/\z < 1000000
theorem kR.at {n:Nat} {L:List D} (h:kR n L) {i:Nat} (hi:i < n):∃ z:Int,atI L (i:Int) = some (.int z)/\0<=z/\z < 1000000:=by
 have hl:i < L.length:=by rw [h.1];exact hi
 obtain ⟨z,e,z0,z1⟩:=h.2 L[i] (List.getElem_mem hl)
 exact ⟨z,aHl (by rw [List.getElem?_eq_getElem hl,e]),z0,z1⟩
theorem aGa {x y:Rat} {M:DM} {Q:DQ}:tH [PQ x y] M Q = Q (.int 2) M:=rfl
theorem aGp {q:Rat} {M:DM} {Q:DQ}:tH [FQ q] M Q = Q (.int 2) M:=rfl
theorem aHs {px py s:Rat} {t h:Int} {M:DM} {Q:DQ}:tH [FR px py t h s] M Q = Q (.int 4) M:=rfl
theorem aFB {a:Addr} {M:DM} {Q:DQ}:tH [.ref a] M Q = ∃ xs,M a = some xs/\Q (.int (xs.length:Int)) M:=rfl
end Dd
namespace Dd
open PySem PySem.Spec PyProof.Rows L2 Mz
section
variable {M:DM} {Q:DQ} {a b c d e f:D}
theorem aJ3 {i:Int}:aLI [.int i] M Q = Q (.int (if i < 0 then -i else i)) M:=rfl
theorem aGG {xs:List D}:tH [.fz xs] M Q = Q (.int xs.length) M:=rfl
theorem aG9:tH [.tup []] M Q = Q (.int 0) M:=rfl
theorem aHe:tH [.tup [a]] M Q = Q (.int 1) M:=rfl
theorem aGi:tH [.tup [a,b]] M Q = Q (.int 2) M:=rfl
theorem aF5:tH [.tup [a,b,c]] M Q = Q (.int 3) M:=rfl
theorem aGU:tH [.tup [a,b,c,d]] M Q = Q (.int 4) M:=rfl
theorem aHv:tH [.tup [a,b,c,d,e]] M Q = Q (.int 5) M:=rfl
end
structure Fm where
 (px py:Rat) (t h:Int) (s:Rat)
noncomputable def FmD (f:Fm):D:=FR f.px f.py f.t f.h f.s
noncomputable def Fm.one:Fm:=⟨0,0,0,1,1⟩
noncomputable def Fm.Ok (f:Fm):Prop:=0<=f.t/\f.t < 4/\(f.h = 1 ∨ f.h = -1)
theorem Fm.ok_one:Fm.one.Ok:=⟨by decide,by decide,.inl rfl⟩
theorem aLk {f:Fm} {M:DM} {Q:DQ}:mH (FmD f) (.int 0) M Q = Q (PQ f.px f.py) M:=rfl
theorem aKR {f:Fm} {M:DM} {Q:DQ}:mH (FmD f) (.int 1) M Q = Q (.int f.t) M:=rfl
theorem aKG {f:Fm} {M:DM} {Q:DQ}:mH (FmD f) (.int 2) M Q = Q (.int f.h) M:=rfl
theorem aLF {f:Fm} {M:DM} {Q:DQ}:mH (FmD f) (.int 3) M Q = Q (FQ f.s) M:=rfl
theorem aIp {f:Fm} {n:Nat} {t:DGs} {ρ:cO} {M:DM} {R:cO->DM->Prop}:gU n t (FmD f) ρ M R = (([PQ f.px f.py,.int f.t,.int f.h,FQ f.s]:List D).length = n/\t [PQ f.px f.py,.int f.t,.int f.h,FQ f.s] ρ M R):=rfl
theorem aEZ {f:Fm} {M:DM} {Q:DQ}:tH [FmD f] M Q = Q (.int 4) M:=rfl
end Dd
namespace Dd
open PySem PySem.Spec PyProof.Rows L2 Mz
section
variable {X:Cx} {pins:List (Addr × Obj)} {σ:L2.St} {H:Hp} {s:Shared} {M:DM}
end
noncomputable def aLr (g:Bool->Bool):D2:=fun x y M Q=>match x,y with
 | .int k,.tup ys=>∃ ns:List Int,ys = ns.map D.int/\Q (.bl (g (ns.any (· == k)))) M
 | .str k,.tup ys=>∃ ns:List Str,ys = ns.map D.str/\Q (.bl (g (ns.any (· == k)))) M
 | _,_=>False
section
variable {X:Cx}
theorem aJ8:OpD X (compareOp .In) (aLr id):=fun pins s σ H x y v u Q I rx ry ⟨dx,dy,M,Q',r1,r2,hm,q,k⟩=>by
 cases dx with
 | int z =>
  cases dy with
  | tup ys =>
   obtain ⟨ns,rfl,q⟩:=q
   obtain rfl:=aU r1
   obtain ⟨a,us,rfl,sq,ru⟩:=cA r2
   obtain ⟨its,rv,ht⟩:=kN I sq
   obtain ⟨t,rfl⟩:=rx
   cases ry
   exact in_tuple_ints ht (qX ru rv) ⟨.bl _,H,I,rfl,k _ H ⟨_,M,eU,hm,.refl H,q⟩⟩
  | _=>exact q.elim
 | str z =>
  cases dy with
  | tup ys =>
   obtain ⟨ns,rfl,q⟩:=q
   obtain rfl:=cP r1
   obtain ⟨a,us,rfl,sq,ru⟩:=cA r2
   obtain ⟨its,rv,ht⟩:=kN I sq
   obtain ⟨t,rfl⟩:=rx
   cases ry
   exact in_tuple_strs ht (rK ru rv) ⟨.bl _,H,I,rfl,k _ H ⟨_,M,eU,hm,.refl H,q⟩⟩
  | _=>exact q.elim
 | _=>cases dy<;>exact q.elim
end
end Dd
namespace L2
open PySem PySem.Spec PyProof.Rows
section
variable {prog:Program} {w:World} {A:Around} {R:Result->Shared->Prop} {s:Shared}
end
end L2
namespace Dd
open PySem PySem.Spec PyProof.Rows L2
section
variable {X:Cx} {g:DG} {tc:DT} {te:DE}
variable {elt iter tg cnd:Expr} {scope:Scope} {pos:Pos} {N':List Str} {fr:List (Option Nat)} {tl:DE} {ta:DA} {oN:List Str} {osc:Scope}
end
end Dd
namespace Dd
open PySem PySem.Spec PyProof.Rows L2 Mz
section
variable {X:Cx} {o e f:Expr} {to te tf:DE}
end
section
variable {X:Cx} {pins:List (Addr × Obj)} {σ:L2.St} {H:Hp} {s:Shared}
end
section
variable {X:Cx} {o:Expr} {to:DE}
noncomputable def aJf (to:DE):DE:=fun ρ M Q=>to ρ M fun x M1=>match x with
 | .ref p=>∃ ds y,M1 p = some ds/\ds[ds.length - 1]? = some y/\Q y (bJ M1 p ds.dropLast)
 | _=>False
theorem zI {K:PySem.W.Frag} {H:Hp} {ds:List D} {vs:List V} (h:bR K H ds vs):bR K H ds.dropLast vs.dropLast:=by
 rw [List.dropLast_eq_take,List.dropLast_eq_take,h.length]
 exact h.take _
theorem aIa {apos cpos:Pos} (ho:PDE X o to) (hbase:attributeBase o "pop" X.env (eval o X.env) = eval o X.env:=by rfl) (hline:(apos.endLine == cpos.line) = true:=by rfl) :
  PDE X (.Call (.Attribute o "pop" apos) [] [] cpos) (aJf to) :=
 cS (aJp PySem.F.plainAttrs_list PySem.F.slot_list_pop PySem.F.type_list_pop aJ1 ho hbase hline) fun σ H Q ⟨ρ,M,Q',re,hm,q,k⟩=>⟨ρ,M,_,re,hm,q,fun v H1 ⟨d,M1,rd,hm1,e1,q1⟩=>by
  cases d with
  | ref p =>
   obtain rfl:=bK rd
   obtain ⟨ds,y,hp,hy,q1⟩:=q1
   obtain ⟨us,hu,ru⟩:=hm1.l p ds hp
   obtain ⟨w,hw,rw'⟩:=ru.get hy
   refine ⟨.inl ⟨rfl,us,.of hu⟩,p,us,w,rfl,rfl,hu,by rw [<- ru.length];exact hw,k _ _ ⟨y,_,rw'.ext (Ext.put hu _),hm1.put hu (zI ru),e1.trans (Ext.put hu _),q1⟩⟩
  | _=>exact q1.elim⟩
end
end Dd
namespace Dd
open PySem PySem.Spec PyProof.Rows L2
section
variable {X:Cx} {g:DG} {tc:DT} {te:DE}
variable {elt iter tg cnd:Expr} {scope:Scope} {pos:Pos} {N':List Str} {fr:List (Option Nat)} {tl:DE} {ta:DA} {oN:List Str} {osc:Scope}
end
section
variable {X:Cx} {o e f:Expr} {to te tf:DE}
end
section
variable {X:Cx} {pins:List (Addr × Obj)} {σ:L2.St} {H:Hp} {s:Shared}
end
section
variable {X:Cx} {o:Expr} {to:DE}
theorem aCW {apos cpos:Pos} (ho:ZE X o to) (hbase:attributeBase o "pop" X.env (eval o X.env) = eval o X.env:=by rfl) (hline:(apos.endLine == cpos.line) = true:=by rfl):ZE X (.Call (.Attribute o "pop" apos) [] [] cpos) (aJf to):=.i (aIa ho.o hbase hline)
end
end Dd
namespace Dd
open PySem PySem.Spec PyProof.Rows L2
section
variable {P:Program} {w:World} {K:PySem.W.Frag} {mg:Str->Option Value} {base:Heap}
end
section
variable {X:Cx} {n x:Str} {C a:Addr} {o:Obj} {p p1 pos:Pos} {j k k':Nat} {sp:Addr->DM->DQ->Prop}
end
end Dd
namespace Dd
open PySem PySem.Spec PyProof.Rows L2
section
open PySem.SeqAt
open PySem.AutoSeq1 (wpAny_loadPart')
open PySem.MeetsSeq PySem.MeetsSeq2 PySem.MeetsSeq3
end
section
variable {prog:Program} {w:World} {A:Around} {E:Value->Shared->Prop} {s:Shared}
end
section
variable {X:Cx} {j:Nat}
end
end Dd
namespace Dd
open PySem
theorem us0 {us:List Value} (h:us.length = 0):us = []:=List.length_eq_zero_iff.mp h
theorem us1 {us:List Value} (h:us.length = 1):∃ a,us = [a]:=List.length_eq_one_iff.mp h
theorem us2 {us:List Value} (h:us.length = 2):∃ a b,us = [a,b]:=by
 cases us with
 | nil=>cases h
 | cons a r=>obtain ⟨b,rfl⟩:=us1 (us:=r) (Nat.succ.inj h);exact ⟨a,b,rfl⟩
theorem us3 {us:List Value} (h:us.length = 3):∃ a b c,us = [a,b,c]:=by
 cases us with
 | nil=>cases h
 | cons a r=>obtain ⟨b,c,rfl⟩:=us2 (us:=r) (Nat.succ.inj h);exact ⟨a,b,c,rfl⟩
theorem us4 {us:List Value} (h:us.length = 4):∃ a b c d,us = [a,b,c,d]:=by
 cases us with
 | nil=>cases h
 | cons a r=>obtain ⟨b,c,d,rfl⟩:=us3 (us:=r) (Nat.succ.inj h);exact ⟨a,b,c,d,rfl⟩
end Dd
namespace Dd
open PySem PySem.Spec PyProof.Rows L2
noncomputable instance aMH:DecidableEq D:=fun a b=>Classical.propDecidable (a = b)
noncomputable def aLn:Nat->D->Bool
 | _,.int _=>true
 | _,.str _=>true
 | n + 1,.tup ds=>ds.all (aLn n)
 | _,_=>false
mutual
noncomputable def IsK (h:Heap):D->Value->Prop
 | .int i,v=>∃ t,v = .int i t
 | .str x,v=>∃ t,v = .str x t
 | .tup ds,v=>∃ a its,v = .ref a/\IsTup h a its/\tP h ds its.toList
 | _,_=>False
noncomputable def tP (h:Heap):List D->List Value->Prop
 | [],vs=>vs = []
 | d :: ds,vs=>∃ v r,vs = v :: r/\IsK h d v/\tP h ds r
end
theorem aDG {h:Heap} {d:D} {ds:List D} {vs:List Value} (x:tP h (d :: ds) vs):∃ v r,vs = v :: r/\IsK h d v/\tP h ds r:=by unfold tP at x;exact x
theorem aGh {h:Heap} {ds:List D} {v:Value} (x:IsK h (.tup ds) v):∃ a its,v = .ref a/\IsTup h a its/\tP h ds its.toList:=by unfold IsK at x;exact x
section
variable {prog:Program} {w:World}
end
mutual
theorem IsK.keep {h h':Heap} (k:∀ a its,IsTup h a its->IsTup h' a its):∀ {x:D} {v:Value},IsK h x v->IsK h' x v
 | .int _,_,a=>by unfold IsK at a ⊢;exact a
 | .str _,_,a=>by unfold IsK at a ⊢;exact a
 | .tup ds,_,a=>by
  obtain ⟨p,its,rfl,ht,hs⟩:=aGh a
  unfold IsK
  exact ⟨p,its,rfl,k p its ht,tP.keep k hs⟩
 | .non,_,a=>by unfold IsK at a;exact a.elim
 | .bl _,_,a=>by unfold IsK at a;exact a.elim
 | .fz _,_,a=>by unfold IsK at a;exact a.elim
 | .ref _,_,a=>by unfold IsK at a;exact a.elim
theorem tP.keep {h h':Heap} (k:∀ a its,IsTup h a its->IsTup h' a its):∀ {xs:List D} {vs:List Value},tP h xs vs->tP h' xs vs
 | [],_,a=>by unfold tP at a ⊢;exact a
 | x :: xs,_,a=>by
  obtain ⟨v,r,rfl,a1,a2⟩:=aDG a
  unfold tP
  exact ⟨v,r,rfl,a1.keep k,tP.keep k a2⟩
end
end Dd
namespace Dd
open PySem PySem.Spec PyProof.Rows L2
section
variable {prog:Program} {w:World} {A:Around} {E:Value->Shared->Prop} {s:Shared} {it d:Addr} {i ep:Nat} {es:Array DictEntry}
end
end Dd
namespace Dd
open PySem PySem.Spec PyProof.Rows L2
structure TK (kvs:List (D × D)):Prop where
 key:∀ p ∈ kvs,(∃ ds,p.1 = .tup ds)/\aLn 6 p.1 = true
 nd:(kvs.map (·.1)).Nodup
theorem TK.nil:TK []:=⟨(fun _ h=>(nomatch h)),List.nodup_nil⟩
noncomputable def KX (K:PySem.W.Frag) (H:Hp) (p:D × D) (x:D × Addr × Value):Prop:=p.1 = x.1/\Rep K H p.1 (.ref x.2.1)/\∃ vv,cM vv x.2.2/\Rep K H p.2 vv
section
variable {X:Cx} {pins:List (Addr × Obj)} {σ:L2.St} {H:Hp} {s:Shared}
theorem Paired.len {α β:Type} {F:α->β->Prop}:∀ {l:List α} {l':List β},Paired F l l'->l.length = l'.length
 | _,_,.nil=>rfl
 | _,_,.cons _ t=>by rw [List.length_cons,List.length_cons,Paired.len t]
end
section
variable {X:Cx} {pos:Pos}
end
end Dd
namespace Dd
open PySem PySem.W PyProof.Rows
section
variable {n:Nat} {lt:Nat->Nat->Bool} {p:Array Nat}
end
section
variable {n:Nat} {p:Array Nat}
end
end Dd
namespace Dd
open PySem PySem.Spec PyProof.Rows L2
section
variable {prog:Program} {w:World} {A:Around} {E:Value->Shared->Prop} {s:Shared}
end
section
variable {X:Cx} {pins:List (Addr × Obj)} {σ:L2.St} {H:Hp} {s:Shared}
end
end Dd
namespace L2
open PySem PySem.Spec PyProof.Rows
end L2
namespace Dd
open PySem PySem.Spec PyProof.Rows L2
section
variable {X:Cx} {pos:Pos} {iter tg:Expr} {body:List Stmt} {tl:DE} {g:DG} {tb:DS} {ta:DA}
theorem aMs {CX:CXT} {P:Program} {w:World} {K:PySem.W.Frag} {mg:Str->Option Value} {base:Heap} {N:List Str} {qual:Str} {scope:Scope} {f:Addr} {cd:Value} {A:Around} {outer:List Env} {s:Shared} {H:Hp} {E:XK}:(jV CX P w K mg base N qual scope f cd A outer s H E).w = w:=rfl
end
end Dd
namespace L2
open PySem PySem.Spec PyProof.Rows
section
variable {prog:Program} {w:World} {A:Around} {E:Value->Shared->Prop} {s:Shared}
end
end L2
namespace L2
open PySem PySem.Spec PyProof.Rows
end L2
namespace Dd
open PySem PySem.Spec PyProof.Rows L2
section
variable {X:Cx} {pos:Pos} {iter tg:Expr} {body:List Stmt} {tl:DE} {g:DG} {tb:DS} {ta:DA}
end
end Dd
namespace L2
open PySem PySem.Spec PyProof.Rows
end L2
namespace Dd
open PySem PySem.Spec PyProof.Rows L2
section
variable {X:Cx} {pos:Pos} {iter tg elt:Expr} {body:List Stmt} {tl te:DE} {g:DG} {tb:DS} {ta:DA}
variable {scope:Scope} {N':List Str} {fr:List (Option Nat)} {oN:List Str} {osc:Scope}
end
end Dd
namespace Dd
open PySem PySem.Spec PyProof.Rows L2
section
variable {prog:Program} {w:World} {A:Around} {E:Value->Shared->Prop} {s:Shared}
end
section
variable {X:Cx} {pos:Pos}
theorem aB0 {K:PySem.W.Frag} {H:Hp} {ds:List D} {vs:List V} (r:bR K H ds vs):∀ k:Nat,bR K H (List.replicate k ds).flatten (List.replicate k vs).flatten
 | 0=>dF
 | k + 1=>by rw [List.replicate_succ,List.flatten_cons,List.replicate_succ,List.flatten_cons];exact r.append (aB0 r k)
theorem aB5 {vs:List V} {us:List Value} (r:cD vs us):∀ k:Nat,cD (List.replicate k vs).flatten (List.replicate k us).flatten
 | 0=>.nil
 | k + 1=>by rw [List.replicate_succ,List.flatten_cons,List.replicate_succ,List.flatten_cons];exact r.append (aB5 r k)
theorem aDP (its:List Value) (k:Nat):(List.replicate k its.toArray).foldl (· ++ ·) #[] = (List.replicate k its).flatten.toArray:=by
 have g:∀ (k:Nat) (acc:List Value),(List.replicate k its.toArray).foldl (· ++ ·) acc.toArray = (acc ++ (List.replicate k its).flatten).toArray:=fun k=>by
  induction k with
  | zero=>intro acc;simp
  | succ k ih =>
   intro acc
   rw [List.replicate_succ,List.foldl_cons,List.append_toArray,ih,List.replicate_succ,List.flatten_cons,List.append_assoc]
 exact g k []
noncomputable def aHc (w:World) (K:PySem.W.Frag) (mg:Str->Option Value) (x:Str) (names:List (Str × Str)):Prop :=
 ∃ a es ep,mg x = some (.ref a)/\K.lookup a = some ⟨.type "dict",none,.dict es ep,#[]⟩/\PySem.W.KeysLit w.params es.toList/\∀ k n,names.lookup k = some n->∃ f,PySem.W.nsIn K a k = some (some (.ref f))/\mg n = some (.ref f)
noncomputable def aIU (mg:Str->Option Value) (names:List (Str × Str)) (ti:DE):DE:=fun ρ M Q=>ti ρ M fun d M1=>match d with
 | .str k=>∃ n,names.lookup k = some n/\∀ f,mg n = some (.ref f)->Q (.ref f) M1
 | _=>False
theorem aID {x:Str} {names:List (Str × Str)} {p:Pos} {i:Expr} {ti:DE} (T:aHc X.w X.K X.mg x names) (hi:PDE X i ti) (hg:Gl X x:=by rfl) (hd:(x == ("__debug__":Str)) = false:=by decide) (hs:tI i:=by intro _ _;rfl) :
  PDE X (.Subscript (.Name x p) i pos) (aIU X.mg names ti):=by
 obtain ⟨a,es,ep,hm,hk,ks,look⟩:=T
 intro pins s σ H Q I ⟨ρ,M,Q',re,hm',q,kq⟩
 refine Subscript_ (jA I hg hm ?_ hd)
 refine thn (hi pins s σ H (LQ X.K H fun d M1=>match d with
  | .str k=>∃ n,names.lookup k = some n/\∀ f,X.mg n = some (.ref f)->Q' (.ref f) M1
  | _=>False) I ⟨ρ,M,_,re,hm',q,fun _ _ z=>z⟩) fun u s1 ⟨y,H1,I1,ry,d1,M1,r1,hm1,e1,q1⟩=>?_
 cases d1 with
 | str k =>
  obtain ⟨n,hn,q1⟩:=q1
  obtain ⟨f,hf,hmf⟩:=look k n hn
  rw [cP r1] at ry
  obtain ⟨t,rfl⟩:=ry
  have mo:=PySem.W.mapOf_K (prog:=X.prog) (w:=X.w) I1.kIn hk ks
  refine subscriptTail_builtinR (x:=.ref f) (T:="dict") mo.typeIs PySem.F.slot_dict_getitem.lookup (wpAny_getItem_of (strKind_is X.prog X.w k t) mo (PySem.W.find_K hk hf) ⟨rfl,?_⟩) (hs _ _)
  exact ⟨.ref f,H1,I1.tok _,rfl,kq _ _ ⟨.ref f,M1,jU,hm1,e1,q1 f hmf⟩⟩
 | _=>exact q1.elim
noncomputable def aCh (P:Program) (w:World) (K:PySem.W.Frag) (mg:Str->Option Value) (base:Heap) (j:Nat) (tf:DE) (ta:DA):DE:=fun ρ M Q=>tf ρ M fun d M1=>match d with
 | .ref f=>∃ n ps sp,mg n = some (.ref f)/\Has P w K mg base j n ps sp/\ta ρ M1 fun ds M2=>sp ds M2 Q
 | _=>False
theorem aFg {x:Str} {p:Pos} {e:Expr} {es:List Expr} {tf:DE} {ta:DA} {j k:Nat} (hf:PDE X (.Name x p) tf) (hr:eF k X.A) (hjk:j<=k) (ha:PDA X (e :: es) ta)
  (he:starEach (e :: es) X.env = (false,eval e X.env) :: starEach es X.env:=by rfl) (hpl:(backTo pos (starEach es X.env)).any (·.1) = false:=by rfl):PDE X (.Call (.Name x p) (e :: es) [] pos) (aCh X.prog X.w X.K X.mg X.base j tf ta):=by
 intro pins s σ H Q I ⟨ρ,M,Q',re,hm',q,kq⟩
 refine wpAny_Call_Name_kw (thn (hf pins s σ H _ I ⟨ρ,M,_,re,hm',q,fun _ _ z=>z⟩) fun u s1 ⟨y,H1,I1,ry,d1,M1,r1,hm1,e1,q1⟩=>?_)
 cases d1 with
 | ref f =>
  obtain ⟨n,ps,sp,hm,⟨f',fd,F,hm2,hk,hb⟩,q1⟩:=q1
  obtain rfl:f = f':=by rw [hm] at hm2;cases hm2;rfl
  rw [bK r1] at ry
  cases ry
  refine PySem.W.callWith_K (h₀:=X.base) I1.ok.mod.kin hk (thn (ha pos pins s1 σ H1 _ I1 ⟨ρ,M1,_,re.ext e1,hm1,q1,fun _ _ z=>z⟩) fun us s2 ⟨vs,H2,I2,r2,ds,M2,rs,hm2,e2,q2⟩=>⟨I2.kIn,?_⟩) he hpl
  exact aCj F (hr.mono hjk) hb .nil aFI I2 r2 ⟨ds,M2,Q',by rw [List.append_nil];exact rs,hm2,q2,fun v H' z=>kq v H' (z.back (e1.trans e2))⟩
 | _=>exact q1.elim
end
section
variable {P:Program} {w:World} {K:PySem.W.Frag} {mg:Str->Option Value} {base:Heap}
theorem wI.mkZ {x c:Str} {C:Addr} {st:Stmt} {N ps:List Str} {k:Nat} {cond:List D->DM->Prop} (h:bV K mg x st ps) (hc:aGL K mg c C) (S:aR N ps (aI st)) (len:∀ ds M,cond ds M->ds.length = ps.length)
  (hbody:∀ (f:Addr) (cdv:Value) (A:Around) (outer:List Env) (s:Shared) (H:Hp) (ds:List D) (M:DM) (E:XK),eF k (A.deeper (envOfC x (aI st) s.heap.objs.size f cdv))->cond ds M ->
   sU (jV (CXr P w) P w K mg base N x (aI st) f cdv A outer s H E) c (bC M) ->
   ∃ t,ZSs (jV (CXr P w) P w K mg base N x (aI st) f cdv A outer s H E) (eR st) t/\t { nx:=fun _ _=>False,rt:=fun _ _=>False } (iD N ds) M):wI P w K mg base (k + 1) x ps C cond :=
 wI.mk h hc S len fun f cdv A outer s H ds M E hr h hRO=>let ⟨t,h1,h2⟩:=hbody f cdv A outer s H ds M E hr h hRO;⟨t,h1.o,h2⟩
end
end Dd
namespace HT
open PySem PyProof.Rows
section
variable {prog:Program} {w:World} {A:Around} {E:Value->Shared->Prop} {s:Shared}
theorem getItem_tuple_whole {t sl:Addr} {items:Array Value} {vl vu:Value} {lo hi:Option Int} {Q:Value->Shared->Prop} (ht:IsTup s.heap t items) (hs:s.heap.IsSliceOf sl vl vu .none) (pl:IsPart vl lo) (pu:IsPart vu hi)
  (hw:sIx items.size 0 lo = 0/\sIx items.size items.size hi = items.size)
  (h:Q (.ref t) s):wpAny (model prog w) A (getItem (.ref t) (.ref sl)) Q E s:=by
 obtain ⟨os,hos,hcs,hds⟩:=id hs
 have hTs:s.TypeIs (.ref sl) "slice":=⟨os,hos,hcs⟩
 unfold getItem
 try with_reducible refine wpAny_holding ?_
 first | refine wpAny_bind (wpAny_pure ?_) | skip
 refine wpAny_bind (wpAny_sequenceKey ht.typeIs (by decide) ?_)
 refine wpAny_bind (wpAny_callSpecial?_slot (name:=Str.ofString "__getitem__") ht.typeIs PyProof.Rows.slot_tuple_getitem
  (wpAny_call_entry PyProof.Rows.slot_tuple_getitem ht.typeIs entry_tuple_getitem ?_ (args_tuple_getitem _ _)))
 show wpAny _ _ (Builtin.Tuple.tupleItemsOf (.ref t) >>= _) _ _ s
 refine wpAny_bind (tupleItemsOf_ ht ?_)
 refine wpAny_bind (wpAny_typeOf hTs ?_)
 rw [if_pos (by decide)]
 refine wpAny_bind (mI hs pl pu ?_)
 have hyes:(((sIx items.size 0 lo:Nat):Int) == 0 && (1:Int) == 1 && (sIx items.size items.size hi - sIx items.size 0 lo) == items.size) = true:=by
  rw [hw.1,hw.2];simp
 show wpAny _ _ (if (((sIx items.size 0 lo:Nat):Int) == 0 && (1:Int) == 1 && (sIx items.size items.size hi - sIx items.size 0 lo) == items.size) = true then _ else _) _ _ s
 rw [if_pos hyes]
 obtain ⟨ot,hot,hct,n,hdt⟩:=id ht
 wp_walk
 first
  | exact ⟨_,rfl,wpAny_pure h⟩
  | exact ⟨_,rfl,h⟩
  | exact h
end
end HT
namespace L2
open PySem PySem.Spec PyProof.Rows
variable {X:Cx}
noncomputable def aMa (K:PySem.W.Frag):V->Option Int->Option Int->Hp->VK->Prop:=fun x lo hi H Q=>∃ a xs,x = .ref a/\SqT K H a xs /\
 (HT.sIx xs.length 0 lo = 0/\HT.sIx xs.length xs.length hi = xs.length)/\Q (.ref a) H
theorem aFR:SlR X (aMa X.K):=by
 intro pins s σ H x v vl vu lo hi sl Q I rx hs pl pu h
 obtain ⟨a,xs,rfl,hx,hw,q⟩:=h
 cases rx
 obtain ⟨its,r,ht,hz⟩:=I.tuple hx
 have hlen:its.toArray.size = xs.length:=by rw [List.size_toArray];exact r.length.symm
 refine ⟨"tuple",_,PyProof.Rows.slot_tuple_getitem.lookup,ht.typeIs,?_⟩
 exact HT.getItem_tuple_whole ht hs pl pu (by rw [hlen];exact hw) ⟨.ref a,H,I,rfl,q⟩
end L2
namespace Dd
open PySem PySem.Spec PyProof.Rows L2
section
variable {X:Cx} {e:Expr} {te:DE} {pos p2:Pos} {lo hi:Option Expr} {tl th:DO}
noncomputable def aHJ (x:D) (lo hi:Option Int) (M:DM) (Q:DQ):Prop:=match x with
 | .tup ds=>Q (.tup (cutD ds lo hi)) M
 | _=>False
noncomputable def aJu (te:DE) (tl th:DO):DE:=fun ρ M Q=>te ρ M fun x M1=>tl ρ M1 fun l M2=>th ρ M2 fun h M3=>aHJ x l h M3 Q
theorem aD2 {ds:List D} {lo hi:Option Int} (h:HT.sIx ds.length 0 lo = 0/\HT.sIx ds.length ds.length hi = ds.length):cutD ds lo hi = ds:=by
 unfold cutD
 rw [h.1,h.2];simp
theorem aDC (he:PDE X e te) (hl:PO X lo (xA X.K tl)) (hu:PO X hi (xA X.K th)):PDE X (.Subscript e (.Slice lo hi none p2) pos) (aJu te tl th) :=
 cS (wO (SlR.or aFF aFR) he hl hu) fun σ H Q ⟨ρ,M,Q',re,hm,q,k⟩=>⟨ρ,M,_,re,hm,q,fun v H1 ⟨d,M1,rd,hm1,e1,q1⟩=>⟨ρ,M1,_,re.ext e1,hm1,q1,fun l H2 ⟨M2,hm2,e2,q2⟩=>⟨ρ,M2,_,(re.ext e1).ext e2,hm2,q2,fun h H3 ⟨M3,hm3,e3,q3⟩=>by
  have rd3:=(rd.ext e2).ext e3
  have ex:=(e1.trans e2).trans e3
  cases d with
  | tup ds =>
   obtain ⟨a,us,rfl,sq,ru⟩:=cA rd3
   have l1:=ru.length
   have q3:Q' (.tup (cutD ds l h)) M3:=q3
   by_cases hw:HT.sIx ds.length 0 l = 0/\HT.sIx ds.length ds.length h = ds.length
   ·rw [aD2 hw] at q3
    exact .inr ⟨a,us,rfl,sq,by rw [<- l1];exact hw,k _ _ ⟨.tup ds,M3,cK sq ru,hm3,ex,q3⟩⟩
   ·exact .inl ⟨a,us,rfl,sq,by rw [<- l1];exact hw,fun p hp=>k _ _ ⟨.tup _,M3,cK (.of eN) ((sN ru l h).ext (Ext.new hp _)),hm3.new hp _,ex.trans (Ext.new hp _),q3⟩⟩
  | _=>exact q3.elim⟩⟩⟩
end
end Dd
namespace Dd
open PySem PySem.Spec PyProof.Rows L2
section
variable {X:Cx} {pins:List (Addr × Obj)} {σ:L2.St} {H:Hp} {s:Shared} {M:Model} {A:Around} {E:Value->Shared->Prop} {e T:Addr} {cls:Value}
end
section
variable {X:Cx} {e:Expr} {es:List Expr} {t:DA} {f:Str} {ps:List Str} {cond:List D->DM->Prop} {C:Addr} {k1 k:Nat} {V:DM->Prop} {pf pc:Pos}
end
section
variable {P:Program} {w:World} {K:PySem.W.Frag} {mg:Str->Option Value} {base:Heap}
theorem Has.never {x:Str} {st:Stmt} {N ps:List Str} (h:bV K mg x st ps) (S:aR N ps (aI st)) (k:Nat):Has P w K mg base (k + 1) x ps (fun _ _ _=>False) :=
 Has.mk h S (fun _ _ _ z=>z.elim) fun _ _ _ _ _ _ _ _ _ _ _ z=>z.elim
theorem Has.mono {x:Str} {ps:List Str} {k k':Nat} {sp:DSp} (h:Has P w K mg base k x ps sp) (l:k<=k'):Has P w K mg base k' x ps sp:=by
 obtain ⟨f,fd,F,hm,hk,hb⟩:=h
 exact ⟨f,fd,F.mono l,hm,hk,hb⟩
end
section
variable {X:Cx} {a:Expr} {e tg:Expr} {es:List Expr} {t:DA} {g:DG} {f n cm:Str} {ps:List Str} {sp:DSp} {cond:List D->DM->Prop} {C Cm:Addr} {k1 k2 k j:Nat} {ts:Addr->DS} {b0:Stmt} {suite:List Stmt} {pf pc pa pcm ph pos:Pos}
end
end Dd
namespace Dd
open PySem PySem.Spec PyProof.Rows L2
open PySem.AutoSeq1 (wpAny_loadPart')
theorem aBy (l b:Addr) (items items2:Array Value) (n n2:Nat) (dd dd2:Option Addr) (sl sl2:Array (Option Value)) (hc0:items.isEmpty = true) :
  Meets (Builtin.«tuple.__add__» ⟨[.ref l,.ref b],[]⟩) (fun _ R s=>s.heap.get? l = some { cls:=.type "tuple",dict:=dd,data:=.seq items n,slots:=sl }/\s.heap.get? b = some { cls:=.type "tuple",dict:=dd2,data:=.seq items2 n2,slots:=sl2 }/\R (.ok (.ret (Value.ref b))) { s with heap:=s.heap,toks:=s.toks }) :=
 .of_wp fun prog w A R s h=>by obtain ⟨hp,g,d,tk,os⟩:=s;obtain ⟨hl,hb,h⟩:=h;have f1:=AutoSeq1.idx_int;have f2:=AutoSeq1.sub_tuple_tuple;have f3:=AutoSeq1.sub_list_list;have f4:=AutoSeq1.sub_tuple_list;have f5:=AutoSeq1.sub_list_tuple;wp_walk using wpAny_loadPart' hl,wpAny_loadPart' hb;exact ⟨_,rfl,h⟩
section
variable {X:Cx}
noncomputable def aFs:D2:=fun x y M Q=>match x,y with
 | .tup xs,.tup ys=>xs.length + ys.length<=1000/\Q (.tup (xs ++ ys)) M
 | _,_=>False
theorem mO:OpD X (binaryOp .Add) aFs:=by
 intro pins s σ H x y v u Q I rx ry ⟨dx,dy,M,Q',r1,r2,hm,q,k⟩
 match dx,dy,q with
 | .tup xs,.tup ys,q =>
  obtain ⟨hl,q⟩:=q
  obtain ⟨a,us,rfl,sq,ru⟩:=cA r1
  obtain ⟨b,ws,rfl,sq2,rw'⟩:=cA r2
  have l3:=ru.length
  have l4:=rw'.length
  by_cases n1:us = []
  ·have nx:xs = []:=List.length_eq_zero_iff.mp (by rw [l3,n1];rfl)
   rw [nx] at q
   cases rx
   cases ry
   obtain ⟨its,r5,p1,_⟩:=I.tuple sq
   obtain ⟨its2,r6,p2,_⟩:=I.tuple sq2
   obtain ⟨⟨cls,dd,data,sl⟩,ho,hc,n,hd⟩:=id p1
   obtain ⟨⟨cls2,dd2,data2,sl2⟩,ho2,hc2,n2,hd2⟩:=id p2
   simp only at hc hd hc2 hd2
   subst hc hd hc2 hd2
   have e0:its = []:=List.length_eq_zero_iff.mp (by rw [<- r5.length,n1];rfl)
   exact concat_meets ⟨_,ho,rfl⟩ ⟨_,ho2,rfl⟩ noFill_tuple_add seq_tuple_add PySem.F.slot_tuple_add PySem.F.entry_tuple_add (PySem.F.args_tuple_add_2 _ _)
    (aBy a b its.toArray its2.toArray n n2 dd dd2 sl sl2 (by rw [e0];rfl)) ⟨ho,ho2,.ref b,H,I,rfl,k _ H ⟨.tup ys,M,cK sq2 rw',hm,.refl H,q⟩⟩
  ·refine aC6 pins s σ H _ _ v u Q I rx ry ?_
   refine ⟨a,b,us,ws,rfl,rfl,sq,sq2,n1,by rw [<- l3,<- l4];exact Nat.le_of_lt (fK hl),fun z=>?_,fun _ p hp=>k _ _ ⟨.tup _,M,cK (.of eN) ((ru.append rw').ext (Ext.new hp _)),hm.new hp _,Ext.new hp _,q⟩⟩
   have ny:ys = []:=List.length_eq_zero_iff.mp (by rw [l4,z];rfl)
   rw [ny,List.append_nil] at q
   exact k _ H ⟨.tup xs,M,cK sq ru,hm,.refl H,q⟩
end
end Dd
namespace Dd
open PySem PySem.Spec PyProof.Rows L2
section
variable {X:Cx} {pins:List (Addr × Obj)} {σ:L2.St} {H:Hp} {s:Shared}
end
section
variable {X:Cx} {pos:Pos}
end
section
variable {X:Cx} {pos:Pos} {iter tg:Expr} {body:List Stmt} {tl:DE} {g:DG} {tb:DS} {ta:DA}
end
section
variable {X:Cx} {pos:Pos} {iter tg:Expr} {body:List Stmt} {tl:DE} {g:DG} {tb:DS} {ta:DA}
end
section
variable {X:Cx} {pos:Pos} {iter tg elt:Expr} {body:List Stmt} {tl te:DE} {g:DG} {tb:DS} {ta:DA}
variable {scope:Scope} {N':List Str} {fr:List (Option Nat)} {oN:List Str} {osc:Scope}
end
section
variable {prog:Program} {w:World} {A:Around} {E:Value->Shared->Prop} {s:Shared}
end
section
variable {X:Cx} {pos:Pos}
theorem aHa {x:Str} {names:List (Str × Str)} {p:Pos} {i:Expr} {ti:DE} (T:aHc X.w X.K X.mg x names) (hi:ZE X i ti) (hg:Gl X x:=by rfl) (hd:(x == ("__debug__":Str)) = false:=by decide) (hs:tI i:=by intro _ _;rfl):ZE X (.Subscript (.Name x p) i pos) (aIU X.mg names ti):=.i (aID (i:=i) T hi.o hg hd hs)
theorem aD8 {x:Str} {p:Pos} {e:Expr} {es:List Expr} {tf:DE} {ta:DA} {j k:Nat} (hf:ZE X (.Name x p) tf) (hr:eF k X.A) (hjk:j<=k) (ha:ZA X (e :: es) ta) (he:starEach (e :: es) X.env = (false,eval e X.env) :: starEach es X.env:=by rfl) (hpl:(backTo pos (starEach es X.env)).any (·.1) = false:=by rfl):ZE X (.Call (.Name x p) (e :: es) [] pos) (aCh X.prog X.w X.K X.mg X.base j tf ta):=.i (aFg (j:=j) (k:=k) hf.o hr hjk ha.o he hpl)
end
section
variable {P:Program} {w:World} {K:PySem.W.Frag} {mg:Str->Option Value} {base:Heap}
end
section
variable {X:Cx} {e:Expr} {te:DE} {pos p2:Pos} {lo hi:Option Expr} {tl th:DO}
theorem aCr (he:ZE X e te) (hl:ZO X lo tl) (hu:ZO X hi th):ZE X (.Subscript e (.Slice lo hi none p2) pos) (aJu te tl th):=.i (aDC he.o hl.o hu.o)
end
section
variable {X:Cx} {pins:List (Addr × Obj)} {σ:L2.St} {H:Hp} {s:Shared} {M:Model} {A:Around} {E:Value->Shared->Prop} {e T:Addr} {cls:Value}
end
section
variable {X:Cx} {e:Expr} {es:List Expr} {t:DA} {f:Str} {ps:List Str} {cond:List D->DM->Prop} {C:Addr} {k1 k:Nat} {V:DM->Prop} {pf pc:Pos}
end
section
variable {P:Program} {w:World} {K:PySem.W.Frag} {mg:Str->Option Value} {base:Heap}
end
section
variable {X:Cx} {a:Expr} {e tg:Expr} {es:List Expr} {t:DA} {g:DG} {f n cm:Str} {ps:List Str} {sp:DSp} {cond:List D->DM->Prop} {C Cm:Addr} {k1 k2 k j:Nat} {ts:Addr->DS} {b0:Stmt} {suite:List Stmt} {pf pc pa pcm ph pos:Pos}
end
section
variable {X:Cx}
end
end Dd
namespace Dd
open PySem PySem.Spec PyProof.Rows L2
section
variable {X:Cx} {pins:List (Addr × Obj)} {σ:L2.St} {H:Hp} {s:Shared}
end
end Dd
namespace Dd
open PySem PySem.Spec PyProof.Rows L2
noncomputable def Cm (M:DM):Nat->D->D->Bool->Prop
 | 0,d,d',b=>aW 0 d = true/\aW 0 d' = true/\b = eqD d d'
 | n + 1,d,d',b=>match d,d' with
  | .tup xs,.tup ys=>∃ e:Nat->Bool,(∀ j x y,xs[j]? = some x->ys[j]? = some y->Cm M n x y (e j))/\b = ((List.range (min xs.length ys.length)).all e && xs.length == ys.length)
  | .ref a,.ref a'=>∃ xs ys,M a = some xs/\M a' = some ys/\a ≠ a'/\(xs.length = ys.length->∃ e:Nat->Bool,(∀ j x y,xs[j]? = some x->ys[j]? = some y->Cm M n x y (e j))/\b = (List.range xs.length).all e)/\(xs.length ≠ ys.length->b = false)
  | d,d'=>aW 0 d = true/\aW 0 d' = true/\b = eqD d d'
section
variable {X:Cx} {pins:List (Addr × Obj)} {σ:L2.St} {H:Hp} {s:Shared} {M:DM}
end
section
variable {X:Cx}
end
end Dd
namespace Dd
open PySem PySem.Spec PyProof.Rows L2
section
variable {X:Cx} {pins:List (Addr × Obj)} {σ:L2.St} {H:Hp} {s:Shared}
end
section
variable {X:Cx} {pos:Pos}
end
end Dd
namespace Dd
open PySem PySem.Spec PyProof.Rows L2
section
variable {X:Cx} {pins:List (Addr × Obj)} {σ:L2.St} {H:Hp} {s:Shared}
end
section
variable {X:Cx} {pos:Pos}
end
end Dd
namespace Dd
open PySem PySem.Spec PyProof.Rows L2
noncomputable def FK (K:PySem.W.Frag) (x:Str) (f:Addr) (st:Stmt):Prop:=PySem.W.nsIn K mainGlobals x = some (some (.ref f))/\∃ fd,L2.Fun K x x st f fd
theorem FK.has {K:PySem.W.Frag} {mg:Str->Option Value} {h:Heap} {x:Str} {f:Addr} {st:Stmt} {ps:List Str} (b:FK K x f st) (X:K.In h) (G:h.Ns mainGlobals mg)
  (r:∀ (kV doc pm:Value) (an:Option Addr) (cdv ct:Value) (us:List Value),us.length = ps.length->bindArgs (PySem.W.fnOf x x (nE st) (eR st) (aI st) .none kV doc pm an cdv ct) ⟨us,[]⟩ = pure (ps.zip us)):bV K mg x st ps :=
 let ⟨a,_,F⟩:=b;⟨_,_,F,PySem.W.mg_of X G a,F.binds r⟩
end Dd
namespace Dd
open PySem PySem.Spec PyProof.Rows L2
noncomputable def aBo (tl:DE) (g:DG) (tb:DS):DS:=fun E ρ M=>aBQ tl g tb E ρ M ∨ aBV tl g tb E ρ M
section
variable {X:Cx} {pos:Pos} {st:Stmt} {t1 t2:DS} {iter tg:Expr} {body:List Stmt} {tl:DE} {g:DG} {tb:DS}
theorem PDS.or (h1:PDS X st t1) (h2:PDS X st t2):PDS X st (fun E ρ M=>t1 E ρ M ∨ t2 E ρ M) :=
 fun a b c d e f ⟨ρ,M,Dn,re,hm,q,k⟩=>q.elim (fun q=>h1 a b c d e f ⟨ρ,M,Dn,re,hm,q,k⟩) fun q=>h2 a b c d e f ⟨ρ,M,Dn,re,hm,q,k⟩
theorem aGn (hp:PassesOwn (model X.prog X.w) X.A X.env X.xe) (hc:X.calm = true) (hi:PDE X iter tl) (hg:PDG X tg g) (hb:lJ X body tb) (hs:∀ x,foldedSetIterable iter X.env x = pure x:=by intro _;rfl):PDS X (.For tg iter body [] pos) (aBo tl g tb) :=
 PDS.or (aCV hp hc hi hg hb hs) (aDg hp hc hi hg hb hs)
theorem aEh {i:Nat} {ds:List D} {E:iM} {ρ:cO} {M:DM} (h:ρ[i]? = some (some (.tup ds))) (q:dIt none ds g tb E ρ M):aBo (aAx i) g tb E ρ M:=.inl (by unfold aBQ aAx;rw [h];exact q)
theorem aE0 {i:Nat} {a:Addr} {ds:List D} {E:iM} {ρ:cO} {M:DM} (h:ρ[i]? = some (some (.ref a))) (ha:M a = some ds) (q:dIt (some a) ds g tb E ρ M):aBo (aAx i) g tb E ρ M:=.inr (by unfold aBV aAx;rw [h];exact ⟨ds,ha,q⟩)
noncomputable def aHC:D2:=fun x y M Q=>match x,y with
 | .ref a,.int n=>∃ ds,M a = some ds/\ds ≠ []/\-(2 ^ 62)<=n/\n < 2 ^ 62/\ds.length * n.toNat<=1000/\∀ p:Addr,M p = none->Q (.ref p) (bJ M p (List.replicate n.toNat ds).flatten)
 | _,_=>False
theorem aCM:OpD X (binaryOp .Mult) aHC:=by
 intro pins s σ H x y v u Q I rx ry ⟨dx,dy,M,Q',r1,r2,hm,q,k⟩
 match dx,dy,q with
 | .ref a,.int n,q =>
  obtain ⟨ds,ha,ne,h1,h2,hz,q⟩:=q
  obtain ⟨vs,hu,rs⟩:=hm.l a ds ha
  obtain rfl:=bK r1
  obtain rfl:=aU r2
  cases rx
  obtain ⟨t,rfl⟩:=ry
  obtain ⟨z,its,m,rv,hl2,ho⟩:=I.lstM hu
  have l1:=rs.length
  have l2:=rv.length
  have hs:=fK hz
  have he:its.toArray.isEmpty = false:=by
   cases its with
   | nil=>exact absurd (List.length_eq_zero_iff.mp (by rw [l1,l2];rfl)) ne
   | cons a b=>rfl
  have hz':its.toArray.size * n.toNat<=sizeLine:=by rw [List.size_toArray,<- l2,<- l1];exact Nat.le_of_lt hs
  refine wpAny_binaryOp_repeat_ref (T:="list") (U:="int") (by decide) ⟨_,ho,rfl⟩ (fun s'=>typeIs_int s' n t) noFill_list_mul F.fills_int_mul F.slot_int_rmul repeat_list F.slot_int_index.lookup
   (call_meets F.slot_int_rmul (typeIs_int s n t) F.entry_int_rmul (F.args_int_rmul_2 _ _) (int___rmul___int_list n t a its.toArray m) ⟨ho,rfl,⟨_,ho,rfl⟩,?_⟩)
  refine call_meets F.slot_list_mul ⟨_,ho,rfl⟩ F.entry_list_mul (F.args_list_mul_2 _ _) (AutoListH.list___mul___list_int_3 a its.toArray m n t (by simp [Builtin.List.listFitsIndex];omega) (by simp [sizeLine] at hz';simp;omega) (by simp [Builtin.List.listTooLong];exact by simpa using hz')) ⟨ho,?_⟩
  rw [he]
  simp only [Bool.false_eq_true,if_false]
  have ef:=aDP its n.toNat
  rw [show (List.foldl (fun x1 x2=>x1 ++ x2) #[] (List.replicate n.toNat its.toArray)) = (List.replicate n.toNat its).flatten.toArray from ef]
  have hl:(List.replicate n.toNat its).flatten.length<=sizeLine:=by
   rw [L2.len_rep]
   rw [List.size_toArray,Nat.mul_comm] at hz';exact hz'
  exact ⟨.ref _,_,I.lnew (t':=s.toks) (aB5 rv n.toNat) (by rw [L2.len_rep,l2,<- L2.len_rep];exact hl),rfl,k _ _ ⟨.ref _,_,jU,hm.lnew I.fresh (aB0 rs n.toNat),Ext.new I.fresh _,q _ (hm.fresh I.fresh)⟩⟩
end
end Dd
namespace Dd
open PySem PySem.Spec PyProof.Rows L2
section
variable {X:Cx} {pos:Pos} {st:Stmt} {t1 t2:DS} {iter tg:Expr} {body:List Stmt} {tl:DE} {g:DG} {tb:DS}
theorem sS (hp:PassesOwn (model X.prog X.w) X.A X.env X.xe) (hc:X.calm = true) (hi:ZE X iter tl) (hg:ZG X tg g) (hb:ZSs X body tb) (hs:∀ x,foldedSetIterable iter X.env x = pure x:=by intro _;rfl):ZS X (.For tg iter body [] pos) (aBo tl g tb):=.i (aGn hp hc hi.o hg.o hb.o hs)
end
end Dd
namespace Dd
open PySem PySem.Spec PyProof.Rows L2 Mz
section
variable {prog:Program} {w:World} {A:Around} {I S:Addr} {fp wr:List Addr} {n:Nat} {P:Nat->Value->Prop} {St:Nat->Heap->Prop} {R:Result->Shared->Prop} {dv:Value}
end
section
variable {prog:Program} {w:World} {A:Around} {E:Value->Shared->Prop} {s:Shared} {l:Addr} {xs:Array (Int × Tok)} {dv:Value}
end
section
variable {X:Cx} {pos p kp:Pos} {e d:Expr} {te td:DE}
end
section
variable {X:Cx} {pos:Pos} {iter tg:Expr} {body:List Stmt} {te:DE}
end
end Dd
namespace Dd
open PySem PySem.Spec PyProof.Rows L2
section
variable {prog:Program} {w:World} {A:Around} {I S:Addr} {fp wr:List Addr} {n:Nat} {P:Nat->Value->Prop} {St:Nat->Heap->Prop} {R:Result->Shared->Prop} {dv:Value}
end
section
variable {prog:Program} {w:World} {A:Around} {E:Value->Shared->Prop} {s:Shared} {l:Addr} {xs:Array (Int × Tok)} {dv:Value}
end
section
variable {X:Cx} {pos p kp:Pos} {e d:Expr} {te td:DE}
end
section
variable {X:Cx} {pos:Pos} {iter tg:Expr} {body:List Stmt} {te:DE}
end
end Dd
namespace Dd
open PySem PySem.Spec PyProof.Rows L2 Mz
section
variable {X:Cx} {pos:Pos} {elt iter tg cnd:Expr} {scope:Scope} {N':List Str} {fr:List (Option Nat)} {tl:DE} {oN:List Str} {osc:Scope} {g:DG} {tc:DT} {te:DE} {e:Expr} {t1 t2:DE}
end
end Dd
namespace Dd
open PySem PySem.Spec PyProof.Rows L2
section
variable {X:Cx} {pos:Pos} {elt iter tg cnd:Expr} {scope:Scope} {N':List Str} {fr:List (Option Nat)} {tl:DE} {oN:List Str} {osc:Scope} {g:DG} {tc:DT} {te:DE} {e:Expr} {t1 t2:DE}
end
end Dd
namespace Dd
open PySem PySem.Spec PyProof.Rows L2 Mz
section
variable {X:Cx} {a:Expr} {e:Expr} {es:List Expr} {t:DA} {f n cm:Str} {ps:List Str} {sp:DSp} {cond:List D->DM->Prop} {C Cm:Addr} {k1 k2 k j:Nat} {ts:Addr->DS} {b0:Stmt} {suite:List Stmt} {pf pc pa pcm ph pos:Pos}
end
noncomputable def aKI (b:Bool) (j:Nat) (a:Addr):DE:=fun ρ M Q=>ρ[j]? = some (some (.ref a))/\Q (.bl b) M
section
variable {X:Cx} {n c:Str} {C Cc a:Addr} {o:Obj} {p p1 p2 pos:Pos} {j:Nat}
end
noncomputable def aIz (t1 t2:DS):DS:=fun E ρ M=>t1 E ρ M ∨ t2 E ρ M
section
variable {X:Cx} {st:Stmt} {t1 t2:DS}
theorem aLP (h1:PDS X st t1) (h2:PDS X st t2):PDS X st (aIz t1 t2):=PDS.or h1 h2
end
section
variable {prog:Program} {w:World} {A:Around} {E:Value->Shared->Prop} {s:Shared}
end
section
variable {X:Cx}
end
noncomputable def aKZ (i:Nat) (te:DE):DS:=fun E ρ M=>match ρ[i]? with
 | some (some d)=>te ρ M fun y M1=>aFs d y M1 fun r M2=>E.nx (ρ.set i (some r)) M2
 | _=>False
section
variable {X:Cx} {e:Expr} {te:DE} {x:Str} {pos:Pos}
end
end Dd
namespace Dd
open PySem PySem.Spec PyProof.Rows L2
section
variable {X:Cx} {a:Expr} {e:Expr} {es:List Expr} {t:DA} {f n cm:Str} {ps:List Str} {sp:DSp} {cond:List D->DM->Prop} {C Cm:Addr} {k1 k2 k j:Nat} {ts:Addr->DS} {b0:Stmt} {suite:List Stmt} {pf pc pa pcm ph pos:Pos}
end
section
variable {X:Cx} {n c:Str} {C Cc a:Addr} {o:Obj} {p p1 p2 pos:Pos} {j:Nat}
end
section
variable {X:Cx} {st:Stmt} {t1 t2:DS}
theorem aFk (h1:ZS X st t1) (h2:ZS X st t2):ZS X st (aIz t1 t2):=.i (aLP h1.o h2.o)
end
section
variable {prog:Program} {w:World} {A:Around} {E:Value->Shared->Prop} {s:Shared}
end
section
variable {X:Cx}
end
section
variable {X:Cx} {e:Expr} {te:DE} {x:Str} {pos:Pos}
end
end Dd
namespace Dd
open PySem PySem.Spec PyProof.Rows L2 Mz
section
variable {prog:Program} {w:World} {A:Around} {E:Value->Shared->Prop} {s:Shared}
end
noncomputable def aLc:DSp:=fun ds M Q=>match ds with
 | [.tup [.int a,.int b]]=>Q (.int (if b > a then b else a)) M
 | _=>False
section
variable {X:Cx}
end
end Dd
namespace Dd
open PySem PySem.Spec PyProof.Rows L2 Mz
section
variable {X:Cx} {o e:Expr} {to te:DE} {pos:Pos}
noncomputable def aFj (to te:DE):DE:=fun ρ M Q=>to ρ M fun x M1=>match x with
 | .ref p=>(∃ ds,M1 p = some ds)/\qJ te uT ρ M1 fun ys M2=>∃ ds y,ys = [y]/\M2 p = some ds/\ds.length < 10000000/\Q .non (bJ M2 p (ds ++ [y]))
 | _=>False
noncomputable def aEl (to te:DE):DE:=fun ρ M Q=>to ρ M fun x M1=>match x with
 | .ref p=>(∃ ds,M1 p = some ds)/\qJ te uT ρ M1 fun ys M2=>∃ ds q es,ys = [.ref q]/\M2 p = some ds/\M2 q = some es/\ds.length + es.length<=10000000/\Q .non (bJ M2 p (ds ++ es))
 | _=>False
end
section
variable {X:Cx} {pos:Pos}
noncomputable def aJ4:D2:=fun x y M Q=>match x,y with
 | .tup ds,.int k=>-(2 ^ 62)<=k/\k < 2 ^ 62/\ds.length * k.toNat<=10000000/\Q (.tup (List.replicate k.toNat ds).flatten) M
 | _,_=>False
noncomputable def aFY:D2:=fun x y M Q=>match x,y with
 | .tup xs,.tup ys=>xs.length + ys.length<=10000000/\Q (.tup (xs ++ ys)) M
 | _,_=>False
end
section
variable {X:Cx}
end
noncomputable def aKd (i:Nat) (te:DE):DS:=fun E ρ M=>match ρ[i]? with
 | some (some d)=>te ρ M fun y M1=>aFY d y M1 fun r M2=>E.nx (ρ.set i (some r)) M2
 | _=>False
section
variable {X:Cx} {e:Expr} {te:DE} {x:Str} {pos:Pos}
end
end Dd
namespace Dd
open PySem PySem.Spec PyProof.Rows L2
section
variable {X:Cx} {o e:Expr} {to te:DE} {pos:Pos}
end
section
variable {X:Cx} {pos:Pos}
end
section
variable {X:Cx}
end
section
variable {X:Cx} {e:Expr} {te:DE} {x:Str} {pos:Pos}
end
end Dd
namespace Dd
open PySem PySem.Spec PyProof.Rows L2 Mz
open PySem.W (InstAt findIn clsIn takerIn mroIn looks_findIn looks_clsIn looks_mroIn)
open PySem.Builtin PySem.Builtin.ObjectAttr
noncomputable def aGF:List Value->Bool
 | .ref _ :: r=>aGF r
 | l=>l == bmV
theorem vB (self:Value):∀ {l:List Value},aGF l = true->refuseLoop self "__setattr__" l = pure ()
 | .ref c :: r,e=>by rw [refuseLoop_ref];exact vB self (l:=r) e
 | [],e=>by cases (show (([]:List Value) == bmV) = true from e)
 | .none :: r,e=>by cases (show ((Value.none :: r) == bmV) = true from e)
 | .ellipsis :: r,e=>by cases (show ((Value.ellipsis :: r) == bmV) = true from e)
 | .notImplemented :: r,e=>by cases (show ((Value.notImplemented :: r) == bmV) = true from e)
 | .bool b :: r,e=>by cases (show ((Value.bool b :: r) == bmV) = true from e)
 | .int i t :: r,e=>by cases (show ((Value.int i t :: r) == bmV) = true from e)
 | .float i t :: r,e=>by cases (show ((Value.float i t :: r) == bmV) = true from e)
 | .str i t :: r,e=>by cases (show ((Value.str i t :: r) == bmV) = true from e)
 | .bytes i t :: r,e=>by cases (show ((Value.bytes i t :: r) == bmV) = true from e)
 | .builtin n :: r,e=>by cases (show ((Value.builtin n :: r) == bmV) = true from e)
 | .type n :: r,e=>by
  have z:(Value.type n :: r) = bmV:=beq_iff_eq.mp e
  rw [z]
  exact PySem.F.store_ValueError.passes self
structure yP (K:PySem.W.Frag) (C:Addr) (f:Str):Prop where
 sa:findIn K (.ref C) "__setattr__" = some (some (.builtin "object.__setattr__"))
 cd:∃ cd,clsIn K C = some cd/\aGF cd.mro = true/\cd.hasDict = true
 mo:mroIn K C (.type "object") = some true
 no:findIn K (.ref C) f = some none
section
variable {K:PySem.W.Frag} {prog:Program} {w:World} {A:Around} {E:Value->Shared->Prop} {s:Shared} {x C:Addr} {ox:Obj} {name:Str} {v:Value}
theorem aG2 {tk:Tok} {R:Result->Shared->Prop} (X:K.In s.heap) (I:InstAt s.heap x ox C none) (hk:yP K C name)
  (h:∀ b,wpAny (model prog w) A.in1 (storeInOwnDict (.ref x) (.ref C) (.str name tk) name v b)
   (fun fin s'=>match fin with | .done f=>R (.ok f) s' | .again c'=>c'.quiet = true/\codeAny (model prog w) A c' R s') (fun e s'=>R (.error e) s') s) :
  codeAny (model prog w) A (.call (.builtin "object.__setattr__") ⟨[.ref x,.str name tk,v],[]⟩) R s:=by
 have SF:=PySem.F.store_object
 obtain ⟨cd,hc,ho,_⟩:=hk.cd
 have sub:PySem.W.Looks (model prog w) s.heap (isInstance (.ref x) (.type "object")) true:=I.type.andThen (looks_mroIn X hk.mo)
 refine codeAny_call_builtin SF.slot.plain SF.entry (@PySem.W.check_slot (model prog w) _ _ s "object.__setattr__" "object" "__setattr__" (.ref x) [.str name tk,v] [] _ SF.kind SF.split sub (SF.args (.ref x) (.str name tk) v) ?_)
 have hm:PySem.W.Looks (model prog w) s.heap (mroOf (.ref C)) cd.mro:=(looks_clsIn X hc).andThen .now
 rw [PySem.W.osa_eq,refuse_eq]
 refine wpAny_bind (wpAny_bind (I.type.here (wpAny_bind (hm.here ?_))))
 rw [vB _ ho]
 exact wpAny_pure (wpAny_bind (I.type.here (wpAny_bind ((looks_findIn X hk.no).here (wpAny_bind (wpAny_pure (h _)))))))
theorem aJE {Q:Unit->Shared->Prop} (X:K.In s.heap) (I:InstAt s.heap x ox C none) (hk:yP K C name) (hd:ox.dict = none)
  (h:∀ h' tk oD,h'.get? s.heap.objs.size = some oD->h'.Ns1 s.heap.objs.size (fun y=>if y = name then some v else none)->h'.get? x = some { ox with dict:=some s.heap.objs.size }->(∀ b o,b ≠ x->s.heap.get? b = some o->h'.get? b = some o)->Q () { s with heap:=h',toks:=tk }) :
  wpAny (model prog w) A (setAttr (.ref x) name v) Q E s:=by
 refine PySem.W.set_plain X I hk.sa (aG2 (s:={ s with toks:=s.toks + 1 }) X I hk fun b=>?_)
 obtain ⟨cd,hc,_,hcd⟩:=hk.cd
 obtain ⟨hx,hcl,hn,-⟩:=I
 obtain ⟨hh,g,d,t,os⟩:=s
 obtain ⟨oc,odi,oda,osl⟩:=ox
 dsimp only at hcl hd hx h
 subst hcl hd
 have hxs:x ≠ hh.objs.size:=Nat.ne_of_lt (Heap.lt_size hx)
 refine wpAny_bind (wpAny_pure (wpAny_bind (wpAny_bind (wpAny_loadPart hx (wpAny_bind (PySem.W.Looks.here (s:=⟨hh,g,d,t + 1,os⟩) (looks_clsIn X hc) ?_))))))
 rw [hcd]
 have nc:∀ c,oda ≠ .cls c:=fun c z=>by
  unfold PySem.W.notCls at hn
  rw [z] at hn;cases hn
 rw [if_neg (by decide)]
 dsimp only
 rw [if_neg (by simp [typeHasDict])]
 split
 ·exact absurd rfl (nc _)
 have hx1:(hh.push { cls:=.type "dict",data:=.dict #[] }).get? x = some ⟨.ref C,none,oda,osl⟩:=Heap.get?_push_of_some _ hx
 refine wpAny_bind (wpAny_alloc' (wpAny_bind (wpAny_update' hx1 (wpAny_pure ?_))))
 have hgd:((hh.push { cls:=.type "dict",data:=.dict #[] }).update x fun o=>{ cls:=o.cls,dict:=some hh.objs.size,data:=o.data,slots:=o.slots }).get? hh.objs.size = some { cls:=.type "dict",data:=.dict #[] } :=
  (Heap.get?_update_ne _ _ _ _ (Ne.symm hxs)).trans (Heap.get?_push_at rfl rfl)
 have hgx:((hh.push { cls:=.type "dict",data:=.dict #[] }).update x fun o=>{ cls:=o.cls,dict:=some hh.objs.size,data:=o.data,slots:=o.slots }).get? x = some ⟨.ref C,some hh.objs.size,oda,osl⟩:=by
  refine Heap.get?_update_self _ hx1 ?_
  have hfr:=(Heap.get?_some_iff.mp hx).2
  cases oda<;>first | rfl | exact hfr
 have hgb:∀ b o,b ≠ x->hh.get? b = some o->((hh.push { cls:=.type "dict",data:=.dict #[] }).update x fun o=>{ cls:=o.cls,dict:=some hh.objs.size,data:=o.data,slots:=o.slots }).get? b = some o:=fun b o n e =>
  (Heap.get?_update_ne _ _ _ _ n).trans (Heap.get?_push_of_some _ e)
 generalize (hh.push { cls:=.type "dict",data:=.dict #[] }).update x _ = h1 at hgd hgx hgb ⊢
 have hnd:h1.Ns hh.objs.size (fun _=>none):=⟨_,#[],_,hgd,rfl,fun e he=>absurd he (by simp),fun _=>rfl⟩
 show wpAny _ _ (storeInDict hh.objs.size (.str name t) name v) _ _ _
 unfold storeInDict newKeyGuard
 refine wpAny_bind (wpAny_pure (wpAny_bind (wpAny_nsSet1 (Heap.Ns1.of_empty hnd) fun h' hn' hs=>?_)))
 obtain ⟨oD,esD,epD,hoD,hdD,hcD⟩:=hn'.count (PySem.Within.cons name v PySem.Within.nil)
 refine wpAny_bind (wpAny_lookBehind hoD (by rw [hdD];exact pastItsLine_dict (Nat.le_trans hcD (by rw [List.length_cons,List.length_nil,sizeLine_eq];omega))) ?_)
 wp_walk
 exact h h' _ oD hoD hn' ((hs.2 x hxs).trans hgx) fun b o n e=>(hs.2 b (Nat.ne_of_lt (Heap.lt_size e))).trans (hgb b o n e)
theorem aLQ {expr:Bool} {oD:Obj} {Q:Value->Shared->Prop} (X:K.In s.heap) (I:InstAt s.heap x ox C (some oD)) (ek:aCx K C) (hk:yP K C name) (hl:PySem.W.lookIn name oD = some (some v)) (hv:handedOut v = pure v)
  (h:∀ tk,Q v { s with toks:=tk }):wpAny (model prog w) A (getAttr (.ref x) name expr) Q E s:=by
 obtain ⟨hh,g,d,t,os⟩:=s
 obtain ⟨cd,hc,_,hcd⟩:=hk.cd
 have L0:=I.type (M:=model prog w)
 have L1:=looks_findIn (M:=model prog w) X ek.ga
 unfold getAttr getAttrBy
 refine wpAny_bind (wpAny_mkText ?_)
 refine wpAny_holding (wpAny_bind (L0.at (wpAny_bind (L1.at ?_))))
 have hx2:(onTheHeap (Value.ref C) && Value.builtin "BaseException.__getattribute__" == Value.builtin "object.__getattribute__") = false:=by
  rw [show (Value.builtin "BaseException.__getattribute__" == Value.builtin "object.__getattribute__") = false by decide +kernel,Bool.and_false]
 dsimp only
 rw [if_neg (by rw [hx2];exact Bool.false_ne_true)]
 have f3:=PySem.F.attr_ValueError.ga.bind (.ref x)
 have L2:=looks_findIn (M:=model prog w) X ek.gn
 have L3:=looks_mroIn (M:=model prog w) X ek.mb
 have hf:PySem.W.findObj K C (some oD) name = some (.value v):=by
  unfold PySem.W.findObj PySem.W.ownOf
  rw [hc,Option.bind_some,hk.no,Option.bind_some]
  simp [hcd,hl]
 have L4:=PySem.W.looks_find (M:=model prog w) X I hf
 unfold getAttrByItsOwn hookBefore callGetattribute
 refine wpAny_bind ?_
 rw [if_pos (show onTheHeap (Value.ref C) = true from rfl)]
 refine L2.at ?_
 refine wpAny_bind (wpAny_attempt (wpAny_holding ?_))
 rw [if_neg (by simp [onTheHeap])]
 unfold boundAndCalled
 rw [f3]
 refine wpAny_bind (wpAny_pure ?_)
 dsimp only [List.cons_append,List.nil_append]
 have hk1:builtinKind "BaseException.__getattribute__" = some .slot:=by decide +kernel
 have hsplit:splitId "BaseException.__getattribute__" = some ("BaseException","__getattribute__"):=by decide +kernel
 have ha:=PySem.F.args_bexc_ga (.ref x) (.str name t)
 refine wpAny_call (codeAny_call_builtin PySem.F.attr_ValueError.ga.plain PySem.F.entry_bexc_ga ?_)
 simp only [checkBuiltinCall,hk1,hsplit]
 refine wpAny_bind ?_
 unfold isInstance
 refine wpAny_bind (L0.at ?_)
 refine L3.at ?_
 simp only [Bool.not_true,Bool.false_eq_true,if_false]
 repeat (any_goals (first | assumption | (with_reducible refine L0.at ?_) | (with_reducible refine L4.at ?_) | wp_step))
 exact h _
end
noncomputable def lK (C t:Addr) (od:Option Addr):Obj:={ cls:=.ref C,dict:=od,data:=.fields #[.ref t,.none,.none,.none,.bool false,.none] }
noncomputable def XO (e C:Addr) (od:Option Addr):Heap->Prop:=fun h=>∃ t,h.get? e = some (lK C t od)
theorem aHS {P:Program} {w:World} {H:Hp} {h:Heap} {e C:Addr} {od:Option Addr} (x:XO e C od h):fN P w H h e (.ext (XO e C od)) :=
 ⟨x,let ⟨t,q⟩:=x;⟨_,q⟩,fun h1 h2 ⟨t,q⟩ k=>⟨t,k _ q⟩⟩
section
variable {X:Cx} {pins:List (Addr × Obj)} {σ:L2.St} {H:Hp} {s:Shared} {e C:Addr} {f:Str} {y:V} {u:Value}
noncomputable def delH (H:Hp) (e:Addr):Hp:=fun b=>if b = e then none else H b
theorem pW:delH H e e = none:=if_pos rfl
theorem jC {b:Addr} (h:b ≠ e):delH H e b = H b:=if_neg h
theorem _root_.L2.Inv.drop {φ:Heap->Prop} (I:Inv X pins σ H s) (h:H e = some (.ext φ)):Inv X pins σ (delH H e) s:=by
 have out:∀ b o,delH H e b = some o->b ≠ e/\H b = some o:=fun b o q=>by
  by_cases z:b = e
  ·rw [z,pW] at q;cases q
  ·rw [jC z] at q;exact ⟨z,q⟩
 have sub:∀ b,H b = none->delH H e b = none:=fun b q=>by
  unfold delH;split
  ·rfl
  ·exact q
 have nt:∀ b o,H b = some o->(∀ φ,o ≠ .ext φ)->delH H e b = some o:=fun b o q n=>by
  rw [jC (fun z=>by rw [z,h] at q;exact n φ (Option.some.inj q).symm)];exact q
 refine ⟨I.ok,I.os,I.bare,⟨I.base.keep,I.base.slot,fun b o q n hx=>sub b (I.base.free b o q n hx),I.base.there,fun b xs q=>nt b _ (I.base.tups b xs q) (fun φ z=>by cases z),fun b o v q=>nt b _ (I.base.frzs b o v q) (fun φ z=>by cases z),fun b ps q=>?_⟩,I.loc,I.cell,sub _ I.free,fun x c q=>sub c (I.freeC x c q),fun p hp=>?_,fun b o q=>?_,I.len⟩
 ·obtain ⟨m,z⟩:=I.base.tbls b ps q
  exact ⟨m,nt b _ z fun φ z=>by cases z⟩
 ·obtain ⟨a1,a2,a3,a4,a5⟩:=I.pin p hp
  exact ⟨a1,sub _ a2,a3,a4,a5⟩
 ·obtain ⟨ne,q⟩:=out b o q
  refine (I.hok b o q).stay (fun _ _ _ z=>z) (fun c z=>nt c _ z fun φ y=>by cases y) fun c xs z=>nt c _ z fun φ y=>by cases y
theorem aF6 {A:Around} {E:Value->Shared->Prop} {Q:Unit->Shared->Prop} (I:Inv X pins σ H s) (h0:H e = some (.ext (XO e C none))) (hk:yP X.K C f) (ry:cM y u)
  (h:∀ s' dx,H dx = none->dx ≠ e->Inv X pins σ (upd (upd H dx (.xd [(f,y)])) e (.ext (XO e C (some dx)))) s'->Q () s'):wpAny (model X.prog X.w) A (setAttr (.ref e) f u) Q E s:=by
 obtain ⟨⟨t,he⟩,_,_⟩:=I.hok e _ h0
 have ia:InstAt s.heap e (lK C t none) C none:=⟨he,rfl,rfl,trivial⟩
 refine aJE I.kIn ia hk rfl fun h' tk oD hoD hns hx hb=>?_
 have hlt:e < s.heap.objs.size:=Heap.lt_size he
 have hne:s.heap.objs.size ≠ e:=Nat.ne_of_gt hlt
 have hn:H s.heap.objs.size = none:=I.hok.fresh (Nat.le_refl _)
 have nf:oD.isFreed = false:=(Heap.get?_some_iff.mp hoD).2
 have pg:(s.heap.push oD).get? s.heap.objs.size = some oD:=Heap.get?_push_size _ nf
 have n1:(s.heap.push oD).Ns1 s.heap.objs.size (fun z=>if z = f then some u else none):=by
  obtain ⟨o',es,ep,q1,q2⟩:=hns
  rw [hoD] at q1
  cases q1
  exact ⟨oD,es,ep,pg,q2⟩
 have rel:∀ g,aG7 (([(f,y)]:List (Str × V)).lookup g) (if g = f then some u else none):=fun g=>by
  by_cases z:g = f
  ·subst z
   rw [if_pos rfl,List.lookup_cons,beq_self_eq_true]
   exact ry
  ·rw [if_neg z,List.lookup_cons,beq_eq_false_iff_ne.mpr z]
   exact trivial
 have I1:Inv X pins σ (upd H s.heap.objs.size (.xd [(f,y)])) { s with heap:=s.heap.push oD,toks:=tk } :=
  I.laid (fun b v q=>Heap.get?_push_of_some _ q) (Nat.le_refl _) ⟨_,n1,rel⟩
 have e1:upd H s.heap.objs.size (.xd [(f,y)]) e = some (.ext (XO e C none)):=by rw [bO (Ne.symm hne)];exact h0
 have I2:=I1.write (h':=h') (t':=tk) (x:=e) (e:=e) (o:=.ext (XO e C (some s.heap.objs.size))) (by rw [e1];trivial) (.inl rfl) (fun b v nb q=>?_) ⟨_,hx⟩ (aHS ⟨t,hx⟩)
 ·exact h _ _ hn hne I2
 ·by_cases z:b = s.heap.objs.size
  ·rw [z,pg] at q
   cases q
   rw [z];exact hoD
  ·rw [Heap.get?_push_ne _ _ _ z] at q
   exact hb b v nb q
end
end Dd
namespace Dd
open PySem PySem.Spec PyProof.Rows L2 Mz
open PySem.W (InstAt findIn clsIn takerIn mroIn looks_findIn looks_clsIn looks_mroIn)
noncomputable def aKL (K:PySem.W.Frag) (ta tv:TE) (f:Str):TS:=fun D σ H=>tv σ H fun y H1=>ta σ H1 fun x H2=>∃ e C,x = .ref e/\H2 e = some (.ext (XO e C none))/\yP K C f/\∀ dx,H2 dx = none->dx ≠ e->D.nx σ (upd (upd H2 dx (.xd [(f,y)])) e (.ext (XO e C (some dx))))
section
variable {X:Cx} {o value:Expr} {f:Str} {pos pos':Pos} {ta tv:TE}
theorem aHx (ha:PE X o ta) (hv:PE X value tv) (hs:swapsWith value (some (.Attribute o f pos')) pos.line X.env = pure false):PS X (.Assign [.Attribute o f pos'] value pos) (aKL X.K ta tv f):=by
 intro pins s σ H D I h
 refine plainObj_wpAny_Assign_Attribute (thn (hv pins s σ H _ I h) fun u s1 ⟨y,H1,I1,ry,q⟩=>thn (ha pins s1 σ H1 _ I1 q) fun ov s2 ⟨x,H2,I2,rx,e,C,ex,ea,fk,q2⟩=>?_) hs
 subst ex
 obtain rfl:ov = Value.ref e:=rx
 exact aF6 I2 ea fk ry fun s3 dx n1 n2 I3=>⟨σ,_,I3,q2 dx n1 n2⟩
end
noncomputable def spI (C:Addr) (f:Str):Sp:=fun vs H Q _=>∃ e y,vs = [.ref e,y]/\H e = some (.ext (XO e C none))/\∀ dx,H dx = none->dx ≠ e->Q .non (upd (upd H dx (.xd [(f,y)])) e (.ext (XO e C (some dx))))
section
variable {P:Program} {w:World} {K:PySem.W.Frag} {mg:Str->Option Value} {base:Heap}
theorem aF2 {x qual a b f:Str} {st:Stmt} {fI C:Addr} {fd:FuncData} {p1 p2 p3 p4:Pos} (F:L2.Fun K x qual st fI fd) (S:aR [a,b] [a,b] (aI st)) (fk:yP K C f)
  (hb:eR st = [.Assign [.Attribute (.Name a p1) f p2] (.Name b p3) p4]) (va:Vis (aI st) a) (vb:Vis (aI st) b) (da:(a == ("__debug__":Str)) = false) (da':(a == ("__classdict__":Str)) = false) (db:(b == ("__debug__":Str)) = false) (db':(b == ("__classdict__":Str)) = false)
  (hs:∀ env:Env,swapsWith (.Name b p3) (some (.Attribute (.Name a p1) f p2)) p4.line env = pure false) (k:Nat):jK P w K mg base CX0 (k + 1) fI fd [a,b] (spI C f):=by
 refine F.ok S (fun vs H Q E ⟨e,y,z,_⟩=>by rw [z];rfl) fun cdv A outer s H vs Q E hr ⟨e,y,z,he,q⟩=>?_
 subst z
 rw [hb]
 exact ⟨_,aC0 (aHx (xF (i:=0) rfl va da da') (xF (i:=1) rfl vb db db') (hs _)),_,rfl,_,rfl,e,C,rfl,he,fk,q⟩
end
section
variable {prog:Program} {w:World} {A:Around} {E:Value->Shared->Prop} {s:Shared} {K:PySem.W.Frag}
variable {nm qn:Str} {C N fI:Addr} {bs bm:List Value} {hdct:Bool} {sn:List Str} {sub:List Value} {ab:Bool} {col:Option Bool} {dd:Option Addr} {k0 k1 k2 k3 k5:Option Value}
theorem aGY {us:List Value} {Q:Value->Shared->Prop} (X:K.In s.heap) (T:OwnTail s.heap bmV bm) (cC:s.heap.get? C = some (excClassObj nm qn C N bs bm hdct sn sub ab col dd k0 k1 k2 k3 k5 "ValueError.__new__"))
  (hi:findIn K (.ref C) "__init__" = some (some (.ref fI))) (hf:PySem.W.typeIn K (.ref fI) = some (.type "function")) (hl:us.length<=sizeLine)
  (hq:wpAny (model prog w) (A.under (.builtin "type.__call__" ⟨.ref C :: us,[]⟩)) (call (.ref fI) (.ref (s.heap.objs.size + 1) :: us)) (fun r s'=>r = .none/\Q (.ref (s.heap.objs.size + 1)) s') E { s with heap:=(s.heap.push { cls:=.type "tuple",data:=.seq us.toArray }).push (lK C s.heap.objs.size none) }) :
  wpAny (model prog w) A (call (.ref C) us) Q E s:=by
 obtain ⟨hh,g,d,t,os⟩:=s
 have FB:=PySem.F.excBase_ValueError
 have g1:=tc_lookup
 have g2:=tc_bind (.ref C)
 have hT:(⟨hh,g,d,t,os⟩:Shared).TypeIs (.ref C) "type":=⟨_,cC,rfl⟩
 refine wpAny_call (codeAny_of_tree ?_)
 show wpAny _ _ (callAny (.ref C) _) _ _ _
 repeat (any_goals (first | assumption | (with_reducible refine wpAny_loadPart_at cC ?_) | wp_step))
 refine ⟨rfl,codeAny_call_builtin_at (Code.quiet_builtin _ (by decide +kernel)) entry_typeCall (wpAny_check_type_call_sub cC ?_)⟩
 repeat (first | (with_reducible refine wpAny_loadPart_at cC ?_) | (with_reducible refine wpAny_madeBy_exc cC ?_) | wp_step)
 refine codeAny_call_builtin_code (Code.quiet_builtin _ FB.quiet) (wpAny_check_new_subT FB T cC (codeAny_exc_new_subT FB T cC ?_ hl))
 show wpAny _ _ _ _ _ _
 have kp:∀ b o,hh.get? b = some o->((hh.push { cls:=.type "tuple",data:=.seq us.toArray }).push (lK C hh.objs.size none)).get? b = some o:=fun b o e=>Heap.get?_push_of_some _ (Heap.get?_push_of_some _ e)
 have X2:K.In ((hh.push { cls:=.type "tuple",data:=.seq us.toArray }).push (lK C hh.objs.size none)):=PySem.W.Frag.In.keeps (h:=hh) X kp
 have hg:((hh.push { cls:=.type "tuple",data:=.seq us.toArray }).push (lK C hh.objs.size none)).get? (hh.objs.size + 1) = some (lK C hh.objs.size none):=by
  have:=Heap.get?_push_size (hh.push { cls:=.type "tuple",data:=.seq us.toArray }) (o:=lK C hh.objs.size none) rfl
  rwa [Heap.size_push] at this
 have ia:InstAt ((hh.push { cls:=.type "tuple",data:=.seq us.toArray }).push (lK C hh.objs.size none)) (hh.objs.size + 1) (lK C hh.objs.size none) C none:=⟨hg,rfl,rfl,trivial⟩
 have cC2:=kp _ _ cC
 have L0:PySem.W.Looks (model prog w) ((hh.push { cls:=.type "tuple",data:=.seq us.toArray }).push (lK C hh.objs.size none)) (isInstance (.ref (hh.objs.size + 1)) (.ref C)) true:=by
  refine ia.type.andThen ?_
  intro A' Q' E' s' k' q'
  have:=wpAny_isSubtype_exc (M:=model prog w) (A:=A') (E:=E') (g:=s'.gens) (d:=s'.drawn) (t:=s'.toks) (os:=s'.os) (base:=.ref C) (Q:=Q') (k' _ _ cC2) (by rw [show (Value.ref C :: bm).contains (.ref C) = true by simp];exact q')
  exact this
 refine wpAny_bind (PySem.W.Looks.here (s:=⟨(hh.push { cls:=.type "tuple",data:=.seq us.toArray }).push (lK C hh.objs.size none),g,d,t,os⟩) L0 ?_)
 rw [if_neg (by decide)]
 refine wpAny_bind (wpAny_holding (PySem.W.special_fn (s:=⟨(hh.push { cls:=.type "tuple",data:=.seq us.toArray }).push (lK C hh.objs.size none),g,d,t,os⟩) X2 ia hi hf (wpAny_mono hq (fun r s' ⟨e1,q1⟩=>?_) fun e s' z=>z)))
 subst e1
 exact wpAny_pure q1
end
end Dd
namespace Dd
open PySem PySem.Spec PyProof.Rows L2 Mz
open PySem.W (InstAt findIn clsIn takerIn mroIn looks_findIn looks_clsIn looks_mroIn)
noncomputable def NwY (od:Option Addr) (h:Heap) (e:Addr) (cls:Value):Prop:=∃ oe vs,h.get? e = some oe/\(oe.cls = cls/\oe.dict = od)/\oe.data = .fields vs/\vs[1]? = some Value.none
noncomputable def TrY (od:Option Addr) (h:Heap) (e:Addr) (cls:Value) (T:Addr) (fl:Value):Prop :=
 ∃ oe vs oT ts,h.get? e = some oe/\(oe.cls = cls/\oe.dict = od)/\oe.data = .fields vs/\vs[1]? = some (.ref T)/\T ≠ e/\h.get? T = some oT/\oT.data = .fields ts/\ts[3]? = some fl
section
variable {X:Cx} {pins:List (Addr × Obj)} {σ:L2.St} {H:Hp} {s:Shared} {M:Model} {A:Around} {E:Value->Shared->Prop} {e T:Addr} {cls:Value} {od:Option Addr}
theorem yJ {oe:Obj} {vs:Array Value} {head:Value} {hadNext:Bool} {Q:Unit->Shared->Prop} (I:Inv X pins σ H s) (hs:X.stack = X.env :: X.outer) (hf:X.env.frame = some X.env.locals) (hex:X.ex = [])
  (hA:A.frames = some X.stack) (he:s.heap.get? e = some oe) (hdi:oe.dict = od) (hd:oe.data = .fields vs) (hsz:1 < vs.size) (fe:FpN X pins H e)
  (h:∀ s' T,Inv X pins σ H s'->TrY od s'.heap e oe.cls T (rawInt X.env.locals)->FpN X pins H T->s.heap.get? T = none->Q () s') :
  wpAny M A (do let a <- frameOf X.env;let pl <- entryPlaceOf X.env.locals hadNext;let b <- EntryCells.newEntry head a .none (rawInt X.env.locals) .none pl;setField (.ref e) 1 b) Q E s:=by
 have hfr:A.frames = some (X.env :: X.outer):=by rw [hA,hs]
 have hl:s.heap.FunFrames X.base (X.env :: X.outer):=hs ▸ I.stack
 have hene:e ∉ (X.env :: X.outer).filterMap (·.frame):=fun hm=>by
  obtain ⟨_,o,ho,hnf⟩:=hl.mem hm
  rw [he] at ho;cases ho;exact hnf vs hd
 have hfs:frs X.stack = (X.env :: X.outer).filterMap (·.frame):=by rw [hs];rfl
 refine wpAny_bind (wpAny_frameOf_fun hfr hl hf fun h₁ hs₁=>?_)
 refine wpAny_bind (wpAny_entryPlaceOf fun pl hpl=>?_)
 unfold EntryCells.newEntry newFields
 refine wpAny_bind (wpAny_newObj_type ?_ (hpl.sizeOk5 _ _ _ _ _))
 have he₁:h₁.get? e = some oe:=(hs₁.2.1 e hene).trans he
 have he₂:=Heap.get?_push_of_some (h:=h₁) { cls:=.type "traceback",dict:=none,data:=.fields ([head,.ref X.env.locals,.none,rawInt X.env.locals,.none] ++ (if pl.isEmpty then List.replicate 6 Value.none else pl)).toArray } he₁
 refine wpAny_setField he₂ hd hsz ?_
 have hTe:h₁.objs.size ≠ e:=Nat.ne_of_gt (Heap.lt_size he₁)
 have hd₃:=Obj.data_mapFields hd (·.setIfInBounds 1 (Value.ref h₁.objs.size))
 have he₃:=Heap.get?_update_self (Obj.mapFields (·.setIfInBounds 1 (Value.ref h₁.objs.size))) he₂ (Obj.isFreed_of_fields hd₃)
 have hT₃:=(Heap.get?_update_other (h₁.push { cls:=.type "traceback",dict:=none,data:=.fields ([head,.ref X.env.locals,.none,rawInt X.env.locals,.none] ++ (if pl.isEmpty then List.replicate 6 Value.none else pl)).toArray })
  (Obj.mapFields (·.setIfInBounds 1 (Value.ref h₁.objs.size))) (Ne.symm hTe)).trans (Heap.get?_push_size h₁ rfl)
 have hTn:s.heap.get? h₁.objs.size = none:=Heap.get?_none_of_le (by rw [hs₁.1];exact Nat.le_refl _)
 refine h _ h₁.objs.size (L2.Inv.mark (s:=s) (ch:=[e]) I (fun b hb=>by rw [List.mem_singleton.mp hb];exact fe) (fun b o hb hc q=>?_) fun b o hc q=>?_) ?_ (L2.Inv.fpN (s:=s) I hex hTn (L2.Inv.untr (s:=s) I hTn)) hTn
 ·have hbe:b ≠ e:=fun z=>hc (by simp [z])
  rw [Heap.get?_update_other _ _ (Ne.symm hbe)]
  exact Heap.get?_push_of_some _ ((hs₁.2.1 b (by rw [<- hfs];exact hb)).trans q)
 ·have hbe:b ≠ e:=fun z=>hc (by simp [z])
  obtain ⟨sl,z⟩:=hs₁.2.2 b o q
  exact ⟨sl,by rw [Heap.get?_update_other _ _ (Ne.symm hbe)];exact Heap.get?_push_of_some _ z⟩
 ·exact ⟨_,_,_,_,he₃,⟨Obj.cls_mapFields _ _,(oZ _ _).trans hdi⟩,hd₃,by simp [hsz],hTe,hT₃,rfl,by first | (simp;done) | (rcases hpl with rfl | ⟨_,_,_,_,_,_,_,rfl⟩<;>simp)⟩
theorem aDD {Q:Unit->Shared->Prop} (I:Inv X pins σ H s) (hs:X.stack = X.env :: X.outer) (hf:X.env.frame = some X.env.locals) (hex:X.ex = []) (hA:A.frames = some X.stack) (n:NwY od s.heap e cls) (fe:FpN X pins H e)
  (h:∀ s' T,Inv X pins σ H s'->TrY od s'.heap e cls T (rawInt X.env.locals)->FpN X pins H T->s.heap.get? T = none->Q () s'):wpAny M A (noteFrame (.ref e) X.env) Q E s:=by
 obtain ⟨oe,vs,he,⟨rfl,hdi⟩,hd,h1⟩:=n
 unfold noteFrame
 simp only [hf]
 refine wpAny_bind (wpAny_field he hd h1 ?_)
 rw [if_neg (by decide)]
 exact yJ I hs hf hex hA he hdi hd (Array.getElem?_eq_some_iff.mp h1).1 fe h
theorem kZ {fl:Value} {Q:Unit->Shared->Prop} (I:Inv X pins σ H s) (t:TrY od s.heap e cls T fl) (fT:FpN X pins H T) (h:∀ s',Inv X pins σ H s'->TrY od s'.heap e cls T .none->Q () s'):wpAny M A (setFlight (.ref e) none) Q E s:=by
 obtain ⟨oe,vs,oT,ts,he,hcls,hd,h1,hTe,hT,hdT,h3⟩:=t
 have hsz3:3 < ts.size:=(Array.getElem?_eq_some_iff.mp h3).1
 unfold setFlight
 refine wpAny_bind (wpAny_field he hd h1 ?_)
 rw [if_pos (show (Value.ref T != Value.none) = true from by simp)]
 refine wpAny_setField hT hdT hsz3 (h _ (aA5 (ts:=ts) I fT hT) ?_)
 exact ⟨oe,vs,_,_,(Heap.get?_update_other _ _ hTe).trans he,hcls,hd,h1,hTe,Heap.get?_update_self _ hT (Obj.isFreed_of_fields (Obj.data_mapFields hdT _)),Obj.data_mapFields hdT _,by simp [hsz3]⟩
theorem xM {Q:Unit->Shared->Prop} (I:Inv X pins σ H s) (hs:X.stack = X.env :: X.outer) (hf:X.env.frame = some X.env.locals) (hex:X.ex = []) (hA:A.frames = some X.stack) (t:TrY od s.heap e cls T .none) (fe:FpN X pins H e) (fT:FpN X pins H T)
  (h:∀ s' T',Inv X pins σ H s'->TrY od s'.heap e cls T' (rawInt X.env.locals)->FpN X pins H T'->Q () s'):wpAny M A (noteFrame (.ref e) X.env) Q E s:=by
 obtain ⟨oe,vs,oT,ts,he,⟨rfl,hdi⟩,hd,h1,hTe,hT,hdT,h3⟩:=t
 unfold noteFrame
 simp only [hf]
 refine wpAny_bind (wpAny_field he hd h1 ?_)
 rw [if_pos (show (Value.ref T != Value.none) = true from by simp)]
 refine wpAny_bind (wpAny_field hT hdT h3 ?_)
 rw [if_neg (show ¬ ((Value.none == rawInt X.env.locals) = true) from by simp [rawInt])]
 refine wpAny_bind (wpAny_setField hT hdT (Array.getElem?_eq_some_iff.mp h3).1 ?_)
 exact yJ (aA5 (ts:=ts) I fT hT) hs hf hex hA ((Heap.get?_update_other _ _ hTe).trans he) hdi hd (Array.getElem?_eq_some_iff.mp h1).1 fe fun s' T' I' t' f' _=>h s' T' I' t' f'
theorem aCF {Q:Unit->Shared->Prop} (I:Inv X pins σ H s) (hs:X.stack = X.env :: X.outer) (hf:X.env.frame = some X.env.locals) (hex:X.ex = []) (hA:A.frames = some X.stack) (n:NwY od s.heap e cls) (fe:FpN X pins H e)
  (h:∀ s' T,Inv X pins σ H s'->TrY od s'.heap e cls T .none->FpN X pins H T->s.heap.get? T = none->Q () s'):wpAny M A (leaving X.env (.ref e)) Q E s:=by
 unfold leaving
 exact wpAny_bind (aDD I hs hf hex hA n fe fun s1 T I1 t1 f1 n1=>kZ I1 t1 f1 fun s2 I2 t2=>h s2 T I2 t2 f1 n1)
theorem aBv {Q:Unit->Shared->Prop} (I:Inv X pins σ H s) (hs:X.stack = X.env :: X.outer) (hf:X.env.frame = some X.env.locals) (hex:X.ex = []) (hA:A.frames = some X.stack) (t:TrY od s.heap e cls T .none) (fe:FpN X pins H e) (fT:FpN X pins H T)
  (h:∀ s' T',Inv X pins σ H s'->TrY od s'.heap e cls T' .none->FpN X pins H T'->Q () s'):wpAny M A (leaving X.env (.ref e)) Q E s:=by
 unfold leaving
 exact wpAny_bind (xM I hs hf hex hA t fe fT fun s1 T1 I1 t1 f1=>kZ I1 t1 f1 fun s2 I2 t2=>h s2 T1 I2 t2 f1)
end
noncomputable def CXy (P:Program) (w:World):CXT:=fun outer H s E e s'=>∃ (a:Addr) (cls:Value) (T:Addr) (H':Hp) (od:Option Addr),e = Value.ref a/\s'.os = s.os/\AllBare s'.gens/\Un (frs outer) [] H H' s.heap s'.heap/\HOk P w H' s'.heap /\
 TrY od s'.heap a cls T .none/\s.heap.get? a = none/\s.heap.get? T = none/\H' a = none/\H' T = none/\E cls od H'
structure qF (P:Program) (w:World) (K:PySem.W.Frag) (mg:Str->Option Value) (base:Heap) (x:Str) (C:Addr) (f:Str):Prop where
 nm:mg x = some (.ref C)
 kp:PySem.W.keepIn K (.ref C) = true
 ob:∃ M nm qn N bs hdct sn sub ab col dd k0 k1 k2 k3 k5,K.lookup C = some (excClassObj nm qn C N bs (.ref M :: bmV) hdct sn sub ab col dd k0 k1 k2 k3 k5 "ValueError.__new__")/\PySem.W.excIn K M bmV "ValueError.__new__" = true/\∃ cdM,clsIn K M = some cdM/\cdM.mro = .ref M :: bmV
 init:∃ fI fd a b,findIn K (.ref C) "__init__" = some (some (.ref fI))/\PySem.W.typeIn K (.ref fI) = some (.type "function")/\jK P w K mg base CX0 1 fI fd [a,b] (spI C f)/\mF K fd [a,b] []
theorem qF.tail {P:Program} {w:World} {K:PySem.W.Frag} {mg:Str->Option Value} {base h:Heap} {x f:Str} {C:Addr} (c:qF P w K mg base x C f) (X:K.In h) :
  ∃ bm nm qn N bs hdct sn sub ab col dd k0 k1 k2 k3 k5,h.get? C = some (excClassObj nm qn C N bs bm hdct sn sub ab col dd k0 k1 k2 k3 k5 "ValueError.__new__")/\OwnTail h bmV bm:=by
 obtain ⟨M,nm,qn,N,bs,hdct,sn,sub,ab,col,dd,k0,k1,k2,k3,k5,lk,hq,cdM,hcM,hm⟩:=c.ob
 obtain ⟨bm,N',nm',qn',bs',hdct',sn',sub',ab',col',dd',l0,l1,l2,l3,l5,mN,hC,hN,hni,T⟩:=aDf X hq
 refine ⟨_,nm,qn,N,bs,hdct,sn,sub,ab,col,dd,k0,k1,k2,k3,k5,X _ _ lk,?_⟩
 have e:bm = bmV:=by
  unfold PySem.W.clsIn at hcM
  split at hcM
  ·rename_i q
   have z:=(X _ _ q).symm.trans hC
   cases hcM
   cases z
   exact List.cons.inj hm |>.2
  ·cases hcM
 subst e
 exact .own hC hN hni T
noncomputable def aAl (X:Cx) (x:Str) (V:Int->DM->Prop):Prop:=X.calm = true/\X.ex = []/\∃ C f,qF X.prog X.w X.K X.mg X.base x C f /\
 ∀ pins σ H s a M' dx i,Inv X pins σ H s->NwY (some dx) s.heap a (.ref C)->FpN X pins H a->cN X.K M' H->H dx = some (.xd [(f,.int i)])->V i M'->X.xe (.ref a) s
noncomputable def aIN (V:Int->DM->Prop) (ds:List D) (M:DM):Prop:=match ds with
 | [.int i]=>V i M
 | _=>False
noncomputable def aAg (V:Int->DM->Prop) (te:DE):DS:=fun _ ρ M=>qJ te uT ρ M (aIN V)
theorem aDr {K:PySem.W.Frag} {M:DM} {H H':Hp} (h:cN K M H) (g:∀ b o,H b = some o->H' b = some o):cN K M H':=by
 have ex:Ext H H':=⟨fun a ys e=>g a _ e,fun a ob u e=>g a _ e⟩
 exact ⟨fun a ds q=>let ⟨xs,z,r⟩:=h.l a ds q;⟨xs,g _ _ z,r.ext ex⟩,fun a ds q=>let ⟨xs,z,r⟩:=h.d a ds q;⟨xs,g _ _ z,lS r ex⟩⟩
section
variable {X:Cx} {pins:List (Addr × Obj)} {σ:L2.St} {H:Hp} {s:Shared} {x f:Str} {C:Addr} {k:Nat} {i:Int}
theorem aEM {us:List Value} {Q:Value->Shared->Prop} (c:qF X.prog X.w X.K X.mg X.base x C f) (hr:eF k X.A) (hk:2<=k) (hex:X.ex = []) (I:Inv X pins σ H s) (r:cD [V.int i] us)
  (h:∀ s' a t dx H',Inv X pins σ H' s'->s'.heap.get? a = some (lK C t (some dx))->FpN X pins H' a->H' dx = some (.xd [(f,.int i)])->(∀ b o,H b = some o->H' b = some o)->Q (.ref a) s') :
  wpAny (model X.prog X.w) X.A (call (.ref C) us) Q X.xe s:=by
 obtain ⟨bm,nm,qn,N,bs,hdct,sn,sub,ab,col,dd,k0,k1,k2,k3,k5,hC,T⟩:=c.tail I.kIn
 obtain ⟨fI,fd,a,b,hi,hf,F,hb⟩:=c.init
 have hl:us.length<=sizeLine:=by rw [<- r.length];show 1<=sizeLine;decide
 refine aGY I.kIn T hC hi hf hl ?_
 have hg:((s.heap.push { cls:=.type "tuple",data:=.seq us.toArray }).push (lK C s.heap.objs.size none)).get? (s.heap.objs.size + 1) = some (lK C s.heap.objs.size none):=by
  have:=Heap.get?_push_size (s.heap.push { cls:=.type "tuple",data:=.seq us.toArray }) (o:=lK C s.heap.objs.size none) rfl
  rwa [Heap.size_push] at this
 have hn:s.heap.get? (s.heap.objs.size + 1) = none:=Heap.get?_none_of_le (Nat.le_succ _)
 have hH:H (s.heap.objs.size + 1) = none:=I.untr hn
 have I1:Inv X pins σ (upd H (s.heap.objs.size + 1) (.ext (XO (s.heap.objs.size + 1) C none))) { s with heap:=(s.heap.push { cls:=.type "tuple",data:=.seq us.toArray }).push (lK C s.heap.objs.size none) } :=
  I.laid (t':=s.toks) (fun b u q=>Heap.get?_push_of_some _ (Heap.get?_push_of_some _ q)) (Nat.le_succ _) (aHS ⟨_,hg⟩)
 generalize (s.heap.push { cls:=.type "tuple",data:=.seq us.toArray }).push (lK C s.heap.objs.size none) = h1 at I1 hg ⊢
 generalize s.heap.objs.size + 1 = e at *
 have r2:cD (V.ref e :: [V.int i]) (Value.ref e :: us):=.cons rfl r
 have hlen:(Value.ref e :: us ++ []).length = [a,b].length:=by rw [List.append_nil,<- r2.length];rfl
 have hsp:spI C f (V.ref e :: [V.int i]) (upd H e (.ext (XO e C none))) (fun v H2=>v = .non/\∃ dx,upd H e (.ext (XO e C none)) dx = none/\dx ≠ e/\H2 = upd (upd (upd H e (.ext (XO e C none))) dx (.xd [(f,.int i)])) e (.ext (XO e C (some dx)))) (fun _ _ _=>False) :=
  ⟨e,.int i,rfl,eN,fun dx n1 n2=>⟨rfl,dx,n1,n2,rfl⟩⟩
 have hbb:=hb { s with heap:=h1 } (Value.ref e :: us) I1.kIn hlen
 rw [List.append_nil] at hbb
 refine wpAny_call (codeAny_mono (F.run _ X.stack _ _ ⟨Value.ref e :: us,[]⟩ (Value.ref e :: us) _ _ _ ((hr.mono hk).make C us []) (I1.env0.make C us []) hbb r2 hsp) fun r s' hq'=>?_)
 cases r with
 | error ev=>exact False.elim (by exact hq')
 | ok fl =>
  cases fl with
  | ret u =>
   obtain ⟨v,H2,I3,rv,ev,dx,n1,n2,e2⟩:=I1.after hq'
   subst ev e2
   refine ⟨rv,?_⟩
   have he2:upd (upd (upd H e (.ext (XO e C none))) dx (.xd [(f,.int i)])) e (.ext (XO e C (some dx))) e = some (.ext (XO e C (some dx))):=eN
   obtain ⟨⟨t,ht⟩,_,_⟩:=I3.hok e _ he2
   have hdx:H dx = none:=by rw [bO n2] at n1;exact n1
   refine h s' e t dx _ (I3.drop he2) ht (I.fpN hex hn pW) (by rw [jC n2,bO n2];exact eN) fun b o q=>?_
   have b1:b ≠ e:=cG q hH
   rw [jC b1,bO b1,bO (cG q hdx),bO b1];exact q
  | next=>exact False.elim hq'
  | brk=>exact False.elim hq'
  | cont=>exact False.elim hq'
end
section
variable {X:Cx} {x:Str} {V:Int->DM->Prop} {e:Expr} {te:DE} {np cpos pos:Pos} {k:Nat}
theorem aDI (R:aAl X x V) (hr:eF k X.A) (hk:2<=k) (he:PDE X e te) (hg:Gl X x:=by rfl) (hd:(x == ("__debug__":Str)) = false:=by decide)
  (hst:starEach [e] X.env = (false,eval e X.env) :: starEach [] X.env:=by rfl) (hpl:(backTo cpos (starEach [] X.env)).any (·.1) = false:=by rfl) :
  PDS X (.Raise (some (.Call (.Name x np) [e] [] cpos)) none pos) (aAg V te):=by
 intro pins s σ H D I ⟨ρ,M,D',re,hm,q,kk⟩
 obtain ⟨calm,hex,C,f,hc,fly⟩:=R
 rw [arm_exec_Raise]
 refine wpAny_bind (wpAny_standAt ?_)
 show wpAny _ _ (raiseStmt X.env (some (do let v <- eval (.Call (.Name x np) [e] [] cpos) X.env;standAt pos;pure v)) none) _ _ _
 have key:wpAny (model X.prog X.w) X.A (eval (.Call (.Name x np) [e] [] cpos) X.env) (fun v s1=>∃ a t dx,v = .ref a/\X.K.In s1.heap/\s1.heap.get? a = some (lK C t (some dx))/\X.xe (.ref a) s1) X.xe s:=by
  refine wpAny_Call_Name_kw (jA I hg hc.nm ?_ hd)
  refine PySem.W.callWith_K (h₀:=X.base) I.ok.mod.kin hc.kp (thn ((wB he aAZ hst:PDA X [e] (qJ te uT)) cpos pins s σ H (LA X.K H _) I ⟨ρ,M,aIN V,re,hm,?_,fun vs H' z=>z⟩) fun us s1 ⟨vs,H1,I1,rv,ds,M1,rs,hm1,ex,q1⟩=>⟨I1.kIn,?_⟩) hst hpl
  ·exact q
  ·match ds,q1 with
   | [.int i],q1 =>
    obtain ⟨v,rfl,r1⟩:=iX rs
    obtain rfl:=aU r1
    refine aEM hc hr hk hex I1 rv fun s' a t dx H' I' ht fe hx mono=>?_
    exact ⟨a,t,dx,rfl,I'.kIn,ht,fly pins σ H' s' a M1 dx i I' ⟨_,_,ht,⟨rfl,rfl⟩,rfl,rfl⟩ fe (aDr hm1 mono) hx q1⟩
 unfold raiseStmt
 refine wpAny_bind (wpAny_bind (wpAny_mono key (fun v s1 ⟨a,t,dx,ev,kin,h1,h4⟩=>wpAny_bind (wpAny_standAt (wpAny_pure ?_))) fun _ _ z=>z))
 subst ev
 obtain ⟨bm,nm,qn,N,bs,hdct,sn,sub,ab,col,dd,k0,k1,k2,k3,k5,cC,T⟩:=hc.tail kin
 have hcB:(Value.ref C :: bm).contains (.type "BaseException") = true:=by rw [List.contains_cons,T.hasType (X:="BaseException") (b:=true) (by decide +kernel),Bool.or_true]
 obtain ⟨hh,g,d,tk,os⟩:=s1
 dsimp only at cC h1
 unfold lK at h1
 repeat (first | (with_reducible refine wpAny_loadPart_at h1 ?_) | (with_reducible refine wpAny_loadPart_at cC ?_) | (with_reducible refine wpAny_isSubtype_exc cC ?_;rw [hcB]) | wp_step)
 exact wpAny_raiseNew_none (I.ok.hd calm) h4
end
end Dd
namespace Dd
open PySem PySem.Spec PyProof.Rows L2 Mz
open PySem.W (InstAt findIn clsIn takerIn mroIn looks_findIn looks_clsIn looks_mroIn)
noncomputable def aIx (K:PySem.W.Frag) (C:Addr) (f:Str) (cond:List D->DM->Int->Prop):Sp:=fun vs H _ E=>∃ ds M i,bR K H ds vs/\cN K M H/\cond ds M i/\∀ M' H' dx,cN K M' H'->bC M M'->H' dx = some (.xd [(f,.int i)])->E (.ref C) (some dx) H'
noncomputable def gW (P:Program) (w:World) (K:PySem.W.Frag) (mg:Str->Option Value) (base:Heap) (k:Nat) (x:Str) (ps:List Str) (C:Addr) (f:Str) (cond:List D->DM->Int->Prop):Prop :=
 ∃ fa fd,jK P w K mg base (CXy P w) k fa fd ps (aIx K C f cond)/\mg x = some (.ref fa)/\PySem.W.keepIn K (.ref fa) = true/\mF K fd ps []
noncomputable def aCO (X:Cx) (C:Addr) (f:Str) (V:Int->DM->Prop):Prop:=X.ex = [] /\
 ∀ pins σ H s a T M' dx i,Inv X pins σ H s->TrY (some dx) s.heap a (.ref C) T .none->FpN X pins H a->FpN X pins H T->cN X.K M' H->H dx = some (.xd [(f,.int i)])->V i M'->X.xe (.ref a) s
noncomputable def aCp (V:Int->DM->Prop) (cond:List D->DM->Int->Prop) (t:DA):DE:=fun ρ M _=>t ρ M fun ds M1=>∃ i,cond ds M1 i/\∀ M',bC M1 M'->V i M'
noncomputable def XW (K:PySem.W.Frag) (C:Addr) (f:Str) (M1:DM) (i:Int):XK:=fun c od H'=>c = .ref C/\∃ dx M',od = some dx/\cN K M' H'/\bC M1 M'/\H' dx = some (.xd [(f,.int i)])
section
variable {X:Cx} {e:Expr} {es:List Expr} {t:DA} {fn f:Str} {ps:List Str} {cond:List D->DM->Int->Prop} {C:Addr} {k1 k:Nat} {V:Int->DM->Prop} {pf pc:Pos}
theorem aFh (hH:gW X.prog X.w X.K X.mg X.base k1 fn ps C f cond) (hr:eF k X.A) (hk1:k1<=k) (PO:aCO X C f V) (ha:PDA X (e :: es) t) (hg:Gl X fn:=by rfl) (hdb:(fn == ("__debug__":Str)) = false:=by decide)
  (he:starEach (e :: es) X.env = (false,eval e X.env) :: starEach es X.env:=by rfl) (hpl:(backTo pc (starEach es X.env)).any (·.1) = false:=by rfl) :
  PDE X (.Call (.Name fn pf) (e :: es) [] pc) (aCp V cond t):=by
 intro pins s σ H Q I ⟨ρ,M,Q',re,hm,q,k'⟩
 obtain ⟨hex,fly⟩:=PO
 obtain ⟨f1,fd,F,hmf,hk,hb⟩:=id hH
 refine wpAny_Call_Name_kw (jA I hg hmf ?_ hdb)
 refine PySem.W.callWith_K (h₀:=X.base) I.ok.mod.kin hk (thn (ha pc pins s σ H (LA X.K H _) I ⟨ρ,M,_,re,hm,q,fun vs H' z=>z⟩) fun us s1 ⟨vs,H1,I1,rv,ds,M1,rs,hm1,ex,i,q1,q2⟩=>⟨I1.kIn,?_⟩) he hpl
 have hsp:aIx X.K C f cond vs H1 (fun _ _=>False) (XW X.K C f M1 i):=⟨ds,M1,i,rs,hm1,q1,fun M' H' dx a b c=>⟨rfl,dx,M',rfl,a,b,c⟩⟩
 have hl:(us ++ []).length = ps.length:=by rw [List.append_nil,<- rv.length];exact F.len _ _ _ _ hsp
 have hbb:=hb s1 us I1.kIn hl
 rw [List.append_nil] at hbb
 refine wpAny_call (codeAny_mono (F.run X.A X.stack s1 H1 ⟨us,[]⟩ us vs _ _ (hr.mono hk1) I1.env0 hbb rv hsp) fun r s' hq=>?_)
 cases r with
 | error ev =>
  obtain ⟨a,cls,T,H',od,rfl,os,bare,un,hok,tr,na,nT,ha',hT,rfl,dx,M',rfl,hm',sub,hx⟩:=(show CXy X.prog X.w X.stack H1 s1 (XW X.K C f M1 i) ev s' from hq)
  have I2:Inv X pins σ H' s':=I1.call' (ch:=[]) os un hok bare (fun b z=>absurd z (by simp))
  exact fly pins σ H' s' a T M' dx i I2 tr (I1.fpN hex na ha') (I1.fpN hex nT hT) hm' hx (q2 M' sub)
 | ok fl =>
  cases fl with
  | ret u=>obtain ⟨_,_,_,_,_,_,_,z⟩:=(show CE _ _ _ _ _ _ _ _ from hq);exact z.elim
  | next=>exact False.elim hq
  | brk=>exact False.elim hq
  | cont=>exact False.elim hq
end
section
variable {P:Program} {w:World} {K:PySem.W.Frag} {mg:Str->Option Value} {base:Heap}
theorem gW.mkZ {x c f:Str} {C:Addr} {st:Stmt} {N ps:List Str} {k:Nat} {cond:List D->DM->Int->Prop} (h:bV K mg x st ps) (hc:qF P w K mg base c C f) (S:aR N ps (aI st)) (len:∀ ds M i,cond ds M i->ds.length = ps.length)
  (hbody:∀ (fa:Addr) (cdv:Value) (A:Around) (outer:List Env) (s:Shared) (H:Hp) (ds:List D) (M:DM) (i:Int) (E:XK),eF k (A.deeper (envOfC x (aI st) s.heap.objs.size fa cdv))->cond ds M i ->
   aAl (jV (CXy P w) P w K mg base N x (aI st) fa cdv A outer s H E) c (fun j M'=>j = i/\bC M M')->aCO (jV (CXy P w) P w K mg base N x (aI st) fa cdv A outer s H E) C f (fun j M'=>j = i/\bC M M') ->
   ∃ t,ZSs (jV (CXy P w) P w K mg base N x (aI st) fa cdv A outer s H E) (eR st) t/\t { nx:=fun _ _=>False,rt:=fun _ _=>False } (iD N ds) M):gW P w K mg base (k + 1) x ps C f cond:=by
 obtain ⟨fa,fd,F,hm,hb⟩:=h
 refine ⟨fa,fd,?_,hm,F.kp,hb⟩
 obtain ⟨oc,od,kV,doc,pm,an,cdv,ct,osl,rfl,lk,hcd⟩:=F.ex
 refine aED lk hcd S (fun vs H Q E ⟨ds,M,i,rs,hm,q,_⟩=>by rw [<- rs.length];exact len ds M i q) fun A outer s H vs Q E hr ⟨ds,M,i,rs,hm,q,k'⟩=>?_
 have RO:aAl (jV (CXy P w) P w K mg base N x (aI st) fa cdv A outer s H E) c (fun j M'=>j = i/\bC M M') :=
  ⟨rfl,rfl,C,f,hc,fun pins σ H' s1 a M' dx j I n fe hm' hx ⟨ej,sub⟩ =>
   aCF (X:=jV (CXy P w) P w K mg base N x (aI st) fa cdv A outer s H E) I rfl rfl rfl I.ok.frames n fe fun s' T I' t' fT _ =>
    ⟨a,.ref C,T,H',some dx,rfl,I'.os,I'.bare,I'.base,I'.hok,t',fe.2.2.1,fT.2.2.1,fe.1,fT.1,k' M' H' dx hm' sub (by rw [<- ej];exact hx)⟩⟩
 have PO:aCO (jV (CXy P w) P w K mg base N x (aI st) fa cdv A outer s H E) C f (fun j M'=>j = i/\bC M M') :=
  ⟨rfl,fun pins σ H' s1 a T M' dx j I t fe fT hm' hx ⟨ej,sub⟩ =>
   aBv (X:=jV (CXy P w) P w K mg base N x (aI st) fa cdv A outer s H E) I rfl rfl rfl I.ok.frames t fe fT fun s' T' I' t' fT' =>
    ⟨a,.ref C,T',H',some dx,rfl,I'.os,I'.bare,I'.base,I'.hok,t',fe.2.2.1,fT'.2.2.1,fe.1,fT'.1,k' M' H' dx hm' sub (by rw [<- ej];exact hx)⟩⟩
 obtain ⟨t,h1,h2⟩:=hbody fa cdv A outer s H ds M i E hr q RO PO
 exact ⟨_,h1.o,iD N ds,M,_,qW rs N,hm,h2,⟨fun σ' H' ⟨_,_,_,_,_,z⟩=>z.elim,fun v H' ⟨_,_,_,_,_,z⟩=>z.elim,fun σ' H' ⟨_,_,_,_,_,z⟩=>z.elim,fun σ' H' ⟨_,_,_,_,_,z⟩=>z.elim⟩⟩
theorem gW.never {x c f:Str} {C:Addr} {st:Stmt} {N ps:List Str} (h:bV K mg x st ps) (hc:qF P w K mg base c C f) (S:aR N ps (aI st)) (k:Nat):gW P w K mg base (k + 1) x ps C f (fun _ _ _=>False) :=
 gW.mkZ h hc S (fun _ _ _ z=>z.elim) fun _ _ _ _ _ _ _ _ _ _ _ z=>z.elim
theorem gW.imp {x f:Str} {C:Addr} {ps:List Str} {k:Nat} {cond cond':List D->DM->Int->Prop} (h:gW P w K mg base k x ps C f cond) (g:∀ ds M i,cond' ds M i->cond ds M i):gW P w K mg base k x ps C f cond':=by
 obtain ⟨fa,fd,F,hm,hk,hb⟩:=h
 exact ⟨fa,fd,F.imp fun vs H Q E ⟨ds,M,i,a,b,c,d⟩=>⟨ds,M,i,a,b,g _ _ _ c,d⟩,hm,hk,hb⟩
end
noncomputable def ExY (o:Obj) (C dx:Addr):Prop:=o.cls = .ref C/\o.dict = some dx/\∃ vs,o.data = .fields vs
noncomputable abbrev Pn (X:Cx) (a:Addr) (o:Obj):Cx:={ X with pn:=(a,o) :: X.pn }
section
variable {X:Cx} {pins:List (Addr × Obj)} {σ:L2.St} {H:Hp} {s:Shared} {a e:Addr} {o:Obj} {fs:List (Str × V)}
theorem aBt (I:X.Ok):(Pn X a o).Ok:=⟨I.mod,I.kind,I.glob,I.blt,I.above,I.inj,I.has,I.cab,I.hd,I.frames,I.stk,I.exf,I.bs,I.bsz,I.noex,I.exfs,I.funs,I.frf⟩
theorem aA0 (ok:X.Ok) (I:Inv (Pn X a o) pins σ H s):Inv X pins σ H s :=
 ⟨ok,I.os,I.bare,I.base,I.loc,I.cell,I.free,I.freeC,fun p hp=>I.pin p (List.mem_cons_of_mem _ hp),I.hok,I.len⟩
theorem Ext.delX (h:H e = some (.xd fs)):Ext H (Dd.delH H e) :=
 ⟨fun a ys q=>by rw [jC (yM q h (by intro z;cases z))];exact q,fun a ob u q=>by rw [jC (yM q h (by intro z;cases z))];exact q⟩
theorem aDz {K:PySem.W.Frag} {M:DM} (h:cN K M H) (hp:H e = some (.xd fs)):cN K M (delH H e) where
 l:=fun a ds q=>by
  obtain ⟨xs,z,r⟩:=h.l a ds q
  exact ⟨xs,by rw [jC (yM z hp (by intro z;cases z))];exact z,r.ext (Ext.delX hp)⟩
 d:=fun a ds q=>by
  obtain ⟨xs,z,r⟩:=h.d a ds q
  exact ⟨xs,by rw [jC (yM z hp (by intro z;cases z))];exact z,lS r (Ext.delX hp)⟩
theorem _root_.L2.Inv.dropX (I:Inv X pins σ H s) (h:H e = some (.xd fs)):Inv X pins σ (delH H e) s:=by
 have out:∀ b o,delH H e b = some o->b ≠ e/\H b = some o:=fun b o q=>by
  by_cases z:b = e
  ·rw [z,pW] at q;cases q
  ·rw [jC z] at q;exact ⟨z,q⟩
 have sub:∀ b,H b = none->delH H e b = none:=fun b q=>by
  unfold delH;split
  ·rfl
  ·exact q
 have nt:∀ b o,H b = some o->(∀ φ,o ≠ .xd φ)->delH H e b = some o:=fun b o q n=>by
  rw [jC (fun z=>by rw [z,h] at q;exact n fs (Option.some.inj q).symm)];exact q
 refine ⟨I.ok,I.os,I.bare,⟨I.base.keep,I.base.slot,fun b o q n hx=>sub b (I.base.free b o q n hx),I.base.there,fun b xs q=>nt b _ (I.base.tups b xs q) (fun φ z=>by cases z),fun b o v q=>nt b _ (I.base.frzs b o v q) (fun φ z=>by cases z),fun b ps q=>?_⟩,I.loc,I.cell,sub _ I.free,fun x c q=>sub c (I.freeC x c q),fun p hp=>?_,fun b o q=>?_,I.len⟩
 ·obtain ⟨m,z⟩:=I.base.tbls b ps q
  exact ⟨m,nt b _ z fun φ z=>by cases z⟩
 ·obtain ⟨a1,a2,a3,a4,a5⟩:=I.pin p hp
  exact ⟨a1,sub _ a2,a3,a4,a5⟩
 ·obtain ⟨ne,q⟩:=out b o q
  refine (I.hok b o q).stay (fun _ _ _ z=>z) (fun c z=>nt c _ z fun φ y=>by cases y) fun c xs z=>nt c _ z fun φ y=>by cases y
theorem aL7 (I:Inv X pins σ H s) (h:H e = some (.xd fs)):∃ oD,Inv (Pn X e oD) pins σ (delH H e) s/\∀ f i,fs = [(f,.int i)]->∃ t,PySem.W.lookIn f oD = some (some (.int i t)):=by
 obtain ⟨mA,hns,rel⟩:=I.hok e _ h
 obtain ⟨oD,ho,hl⟩:=zS hns
 have I':=I.dropX h
 have nl:e ≠ X.env.locals:=fun z=>by have:=I.free;rw [<- z,h] at this;cases this
 have nfr:e ∉ X.fs:=fun z=>by
  have m:e ∈ frs X.stack:=by
   rcases I.ok.stk with q | ⟨q,_⟩
   ·rw [q];exact z
   ·rw [q];unfold frs;rw [List.filterMap_cons]
    split
    ·exact z
    ·exact List.mem_cons_of_mem _ z
  have:=I.stkFree e m
  rw [h] at this;cases this
 refine ⟨oD,⟨aBt I'.ok,I'.os,I'.bare,I'.base,I'.loc,I'.cell,I'.free,I'.freeC,fun p hp=>?_,I'.hok,I'.len⟩,fun f i ef=>?_⟩
 ·rcases List.mem_cons.mp hp with z | z
  ·subst z
   refine ⟨ho,pW,nl,nfr,fun v z=>?_⟩
   have:=hl "row"
   unfold PySem.W.lookIn at this
   dsimp only at z
   rw [z] at this
   cases this
  ·exact I'.pin p z
 ·have:=rel f
  rw [ef,List.lookup_cons,beq_self_eq_true] at this
  cases hm:mA f with
  | none=>rw [hm] at this;exact this.elim
  | some u =>
   rw [hm] at this
   obtain ⟨t,rfl⟩:=(show ∃ t,u = Value.int i t from this)
   exact ⟨t,by rw [hl,hm]⟩
end
noncomputable def aFL (sp:DSp) (cond:List D->DM->Int->Prop) (j:Nat) (t:DA) (nx:iM->D->cO->DM->Prop) (ts:Addr->Int->DS):DS:=fun D ρ M=>t ρ M fun ds M1 =>
 (∃ i,cond ds M1 i/\∀ a,ts a i (D.un j) (ρ.set j (some (.ref a))) M1) ∨ sp ds M1 fun d M2=>nx D d ρ M2
section
variable {X:Cx} {a:Expr} {e:Expr} {es:List Expr} {t:DA} {x f n cm fl:Str} {ps:List Str} {sp:DSp} {cond:List D->DM->Int->Prop} {C Cm:Addr} {k1 k2 k i j:Nat} {ts:Addr->Int->DS} {b0:Stmt} {suite:List Stmt} {px pf pc pa pcm ph pos:Pos}
theorem aHd {pins:List (Addr × Obj)} {σ:L2.St} {H1:Hp} {s1 s':Shared} {M1:DM} {ρ:cO} {De:iM} {En:sR} {ev:Value} {i:Int} (ok:X.Ok) (hs:X.stack = X.env :: X.outer) (hf:X.env.frame = some X.env.locals) (hex:X.ex = [])
  (hX:∀ e s,X.xe e s->False) (hN:X.N.Nodup) (hj:X.N[j]? = some n) (hnl:X.env.scope.names.lookup n = some .local)
  (hcm:X.mg cm = some (.ref Cm)) (hgc:Gl X cm) (hdc:(cm == ("__debug__":Str)) = false) (hmt:PySem.W.exmOne X.K (.ref C) (.ref Cm) = some true)
  (hsu:∀ a o dx oD t,ExY o C dx->PySem.W.lookIn fl oD = some (some (.int i t))->lJ (Exc (Pn X dx oD) a o) (b0 :: suite) (ts a i))
  (I1:Inv X pins σ H1 s1) (re:hJ X.K H1 ρ σ) (k:lF X.K H1 De En) (q:∀ a,ts a i (De.un j) (ρ.set j (some (.ref a))) M1)
  (h:CXy X.prog X.w X.stack H1 s1 (XW X.K C fl M1 i) ev s') :
  wpAny (model X.prog X.w) X.A (noteFrame ev X.env) (fun _ s₂=>wpAny (model X.prog X.w) X.A (setFlight ev none)
   (fun _ s₃=>wpAny (model X.prog X.w) X.A (handleBy ev X.env [.ExceptHandler (some (.Name cm pcm)) (some n) (b0 :: suite) ph]) (SP X pins En) X.xe s₃) X.xe s₂) X.xe s':=by
 obtain ⟨a,cls,T,H',od,rfl,os,bare,un,hok,tr,na,nT,ha,hT,rfl,dx,M',rfl,hm',sub,hxd⟩:=h
 have I2:Inv X pins σ H' s':=I1.call' (ch:=[]) os un hok bare (fun b z=>absurd z (by simp))
 have fa:FpN X pins H' a:=I1.fpN hex na ha
 have fT:FpN X pins H' T:=I1.fpN hex nT hT
 have ex:Ext H1 H':=⟨un.tups,un.frzs⟩
 refine xM I2 hs hf hex I2.ok.frames tr fa fT fun s3 T3 I3 t3 f3=>?_
 refine kZ I3 t3 f3 fun s4 I4 t4=>?_
 have noF:∀ {s:Shared} {oe:Obj} {vs:Array Value},Inv X pins σ H' s->s.heap.get? a = some oe->oe.data = .fields vs->a ∉ X.fs:=fun {s oe vs} I he hd hb=>by
  obtain ⟨_,o,ho,hnf⟩:=I.funs.mem hb
  rw [he] at ho;cases ho;exact hnf vs hd
 have inn:∀ {s:Shared} {T fl},Inv X pins σ H' s->TrY (some dx) s.heap a (.ref C) T fl->∃ oe,oe.cls = .ref C/\s.heap.get? a = some oe/\Inv (Exc X a oe) pins σ H' s:=fun {s T fl} I t=>by
  obtain ⟨oe,vs,oT,ts,he,hc,hd,_⟩:=t
  exact ⟨oe,hc.1,he,aEO I he ha fa.2.1 (noF I he hd) fun v z=>by rw [hd] at z;cases z⟩
 obtain ⟨o4,hc4,he4,J4⟩:=inn I4 t4
 refine wpAny_handleBy_cons (codeAny_handlers_test ?_) (by intro z;cases z)
 refine jA (X:=Exc X a o4) J4 hgc hcm ?_ hdc
 have LT:∀ M:Model,PySem.W.Looks M s4.heap (typeOf (.ref a)) (.ref C):=fun M=>hc4 ▸ (PySem.W.Looks.ld he4).andThen .now
 refine (PySem.W.exm_one J4.kIn (LT _) hmt).here ?_
 simp only [if_true]
 refine codeAny_handlers_suite_as ?_
 refine kZ I4 t4 f3 fun s5 I5 t5=>?_
 obtain ⟨oe,vs,oT,tts,he5,hc5,hd5,_⟩:=t5
 refine aAc (v:=.ref a) I5 hN hj (.inl hnl) rfl (fun s6 I6 ⟨b,hsb,hb⟩=>?_) (.inr hnl)
 have hne:a ≠ b:=by
  rcases hb with hb | hb
  ·rw [hb];exact fa.2.1
  ·exact fun z=>fa.2.2.2.1 n b hb z.symm
 have he6:s6.heap.get? a = some oe:=(hsb.2 a hne).trans he5
 obtain ⟨oD,I7,hlk⟩:=aL7 I6 hxd
 obtain ⟨tk,hlk⟩:=hlk fl i rfl
 have ha':delH H' dx a = none:=by
  unfold delH;split
  ·rfl
  ·exact ha
 have J6:Inv (Exc (Pn X dx oD) a oe) pins (σ.set j (some (.ref a))) (delH H' dx) s6:=aEO (X:=Pn X dx oD) I7 he6 ha' fa.2.1 (noF I5 he5 hd5) fun v z=>by rw [hd5] at z;cases z
 have ex2:=ex.trans (Ext.delX hxd)
 have run:=hsu a oe dx oD tk ⟨hc5.1,hc5.2,_,hd5⟩ hlk pins s6 (σ.set j (some (.ref a))) (delH H' dx) (aEv En j) J6 ⟨_,M1,De.un j,(re.ext ex2).set jU j,aDz (hm'.sub sub) hxd,q a,(k.at ex2).un j⟩
 refine wpAny_mono run (fun fl s7 h7=>?_) fun x s7 h7=>(hX x s7 h7).elim
 cases fl with
 | next =>
  obtain ⟨σ',H7,I7,q7⟩:=h7
  exact pZ (aA0 ok (vY (aBt ok) I7)) hN hj hnl fun s8 I8=>⟨_,H7,I8,q7⟩
 | brk =>
  obtain ⟨σ',H7,I7,q7⟩:=h7
  exact pZ (aA0 ok (vY (aBt ok) I7)) hN hj hnl fun s8 I8=>⟨_,H7,I8,q7⟩
 | cont =>
  obtain ⟨σ',H7,I7,q7⟩:=h7
  exact pZ (aA0 ok (vY (aBt ok) I7)) hN hj hnl fun s8 I8=>⟨_,H7,I8,q7⟩
 | ret u =>
  obtain ⟨v,σ',H7,I7,r7,q7⟩:=h7
  exact pZ (aA0 ok (vY (aBt ok) I7)) hN hj hnl fun s8 I8=>⟨v,_,H7,I8,r7,q7⟩
theorem aEb {pins:List (Addr × Obj)} {σ:L2.St} {H1:Hp} {s1:Shared} {M1:DM} {ds:List D} {us:List Value} {vs:List V} {Q:Value->Shared->Prop} {E:Value->Shared->Prop} {f':Addr} {Q':DQ}
  (hH:gW X.prog X.w X.K X.mg X.base k1 f ps C fl cond) (hh:Has X.prog X.w X.K X.mg X.base k2 f ps sp) (hr:eF k X.A) (hk1:k1<=k) (hk2:k2<=k) (hmf:X.mg f = some (.ref f'))
  (I1:Inv X pins σ H1 s1) (rv:cD vs us) (rs:bR X.K H1 ds vs) (hm1:cN X.K M1 H1)
  (q:(∃ i,cond ds M1 i/\∀ ev s',CXy X.prog X.w X.stack H1 s1 (XW X.K C fl M1 i) ev s'->E ev s') ∨ sp ds M1 Q')
  (hQ:∀ u s',EP X pins σ (LQ X.K H1 Q') u s'->Q u s'):wpAny (model X.prog X.w) X.A (call (.ref f') us) Q E s1:=by
 rcases q with ⟨i,q,hE⟩ | q
 ·obtain ⟨f1,fd,F,hm,_,hb⟩:=hH
  have hf:f1 = f':=by have:=hm.symm.trans hmf;cases this;rfl
  subst hf
  have hsp:aIx X.K C fl cond vs H1 (fun _ _=>False) (XW X.K C fl M1 i):=⟨ds,M1,i,rs,hm1,q,fun M' H' dx a b c=>⟨rfl,dx,M',rfl,a,b,c⟩⟩
  have hl:(us ++ []).length = ps.length:=by rw [List.append_nil,<- rv.length];exact F.len _ _ _ _ hsp
  have hbb:=hb s1 us I1.kIn hl
  rw [List.append_nil] at hbb
  refine wpAny_call (codeAny_mono (F.run X.A X.stack s1 H1 ⟨us,[]⟩ us vs _ _ (hr.mono hk1) I1.env0 hbb rv hsp) fun r s' hq=>?_)
  cases r with
  | error ev=>exact hE ev s' hq
  | ok fl =>
   cases fl with
   | ret u=>obtain ⟨_,_,_,_,_,_,_,z⟩:=(show CE _ _ _ _ _ _ _ _ from hq);exact z.elim
   | next=>exact False.elim hq
   | brk=>exact False.elim hq
   | cont=>exact False.elim hq
 ·obtain ⟨f1,fd,F,hm,_,hb⟩:=hh
  have hf:f1 = f':=by have:=hm.symm.trans hmf;cases this;rfl
  subst hf
  have hsp:tK X.K sp vs H1 (LQ X.K H1 Q') (fun _ _ _=>False):=⟨ds,M1,Q',rs,hm1,q,fun v H' z=>z⟩
  have hl:(us ++ []).length = ps.length:=by rw [List.append_nil,<- rv.length];exact F.len _ _ _ _ hsp
  have hbb:=hb s1 us I1.kIn hl
  rw [List.append_nil] at hbb
  refine wpAny_call (codeAny_mono (F.run X.A X.stack s1 H1 ⟨us,[]⟩ us vs _ _ (hr.mono hk2) I1.env0 hbb rv hsp) fun r s' hq=>?_)
  cases r with
  | error ev=>exact False.elim hq
  | ok fl =>
   cases fl with
   | ret u=>exact hQ u s' (I1.after hq)
   | next=>exact False.elim hq
   | brk=>exact False.elim hq
   | cont=>exact False.elim hq
theorem aEn (hH:gW X.prog X.w X.K X.mg X.base k1 f ps C fl cond) (hh:Has X.prog X.w X.K X.mg X.base k2 f ps sp) (hr:eF k X.A) (hk1:k1<=k) (hk2:k2<=k) (hN:X.N.Nodup)
  (hcm:X.mg cm = some (.ref Cm)) (hmt:PySem.W.exmOne X.K (.ref C) (.ref Cm) = some true) (ha:PDA X (e :: es) t) (hsu:∀ i a o dx oD t,ExY o C dx->PySem.W.lookIn fl oD = some (some (.int i t))->lJ (Exc (Pn X dx oD) a o) (b0 :: suite) (ts a i))
  (hi:X.N[i]? = some x:=by rfl) (hj:X.N[j]? = some n:=by rfl) (hxl:X.env.scope.names.lookup x = some .local:=by rfl) (hnl:X.env.scope.names.lookup n = some .local:=by rfl)
  (hs:X.stack = X.env :: X.outer:=by rfl) (hf:X.env.frame = some X.env.locals:=by rfl) (hex:X.ex = []:=by rfl) (hX:∀ e s,X.xe e s->False:=by exact fun _ _ z=>z)
  (hgc:Gl X cm:=by rfl) (hdc:(cm == ("__debug__":Str)) = false:=by decide) (hg:Gl X f:=by rfl) (hdb:(f == ("__debug__":Str)) = false:=by decide)
  (he:starEach (e :: es) X.env = (false,eval e X.env) :: starEach es X.env:=by rfl) (hpl:(backTo pc (starEach es X.env)).any (·.1) = false:=by rfl)
  (hsw:swapsWith (.Call (.Name f pf) (e :: es) [] pc) (some (.Name x px)) pa.line X.env = pure false:=by rfl) :
  PDS X (.Try [.Assign [.Name x px] (.Call (.Name f pf) (e :: es) [] pc) pa] [.ExceptHandler (some (.Name cm pcm)) (some n) (b0 :: suite) ph] [] [] pos) (aFL sp cond j t (fun D d ρ M=>D.nx (ρ.set i (some d)) M) ts):=by
 intro pins s σ H En I ⟨ρ,M,De,re,hm,q,k'⟩
 obtain ⟨f',fd,F,hmf,hk,hb⟩:=id hh
 refine wpAny_Try_except ?_
 refine wpAny_execs_cons (wpAny_Assign_Name (wpAny_Call_Name_kw (jA I hg hmf ?_ hdb)) hsw)
 refine PySem.W.callWith_K (h₀:=X.base) I.ok.mod.kin hk (wpAny_mono (ha pc pins s σ H (LA X.K H _) I ⟨ρ,M,_,re,hm,q,fun vs H' z=>z⟩) (fun us s1 ⟨vs,H1,I1,rv,ds,M1,rs,hm1,ex,q1⟩=>⟨I1.kIn,?_⟩) fun ev s' z=>(hX ev s' z).elim) he hpl
 refine aEb hH hh hr hk1 hk2 hmf I1 rv rs hm1 (q1.imp (fun z=>by
  obtain ⟨iv,z1,z2⟩:=z
  exact ⟨iv,z1,fun ev s' y=>aHd I.ok hs hf hex hX hN hj hnl hcm hgc hdc hmt (hsu iv) I1 (re.ext ex) (k'.at ex) z2 y⟩) id) fun u s' ⟨v,H2,I2,rr,d,M2,rd,hm2,ex2,q2⟩=>?_
 ·exact mL I2 hN hi (.inl hxl) rr (fun s3 I3=>wpAny_execs_nil (wpAny_execs_nil ⟨_,H2,I3,k'.nx _ H2 ⟨_,M2,(re.ext (ex.trans ex2)).set rd i,hm2,ex.trans ex2,q2⟩⟩)) (.inr hxl)
end
noncomputable def aHW (j:Nat) (a:Addr) (i:Int):DE:=fun ρ M Q=>ρ[j]? = some (some (.ref a))/\Q (.int i) M
section
variable {X:Cx} {n f:Str} {C a dx:Addr} {o oD:Obj} {p pos:Pos} {j:Nat} {i:Int} {tk:Tok}
theorem aKe (ho:ExY o C dx) (hl:PySem.W.lookIn f oD = some (some (.int i tk))) (ek:aCx X.K C) (fk:yP X.K C f) (hj:X.N[j]? = some n:=by rfl) (hnl:Vis X.env.scope n:=by first | exact Or.inl rfl | exact Or.inr (Or.inl rfl) | exact Or.inr (Or.inr rfl))
  (hd1:(n == ("__debug__":Str)) = false:=by decide) (hd2:(n == ("__classdict__":Str)) = false:=by decide) (hb:attributeBase (.Name n p) f X.env (eval (.Name n p) X.env) = eval (.Name n p) X.env:=by rfl) :
  PDE (Exc (Pn X dx oD) a o) (.Attribute (.Name n p) f pos) (aHW j a i):=by
 intro pins s σ H Q I ⟨ρ,M,Q',re,hm,⟨e,q⟩,k⟩
 obtain ⟨v,e1,rv⟩:=re.get j _ e
 obtain rfl:=bK rv
 refine aGQ (A:=X.A.mark (some (.ref a))) hb (thn (xF (X:=Exc (Pn X dx oD) a o) (i:=j) hj hnl hd1 hd2 pins s σ H (fun v H'=>v = .ref a/\H' = H) I ⟨_,e1,rfl,rfl⟩) fun u s1 ⟨v',H1,I1,rx,ev,eH⟩=>?_)
 subst ev eH
 obtain rfl:u = Value.ref a:=rx
 have p1:=I1.pin (a,o) (List.mem_append_left _ (List.mem_cons_self))
 have p2:=I1.pin (dx,oD) (List.mem_append_left _ (List.mem_cons_of_mem _ (List.mem_cons_self)))
 obtain ⟨h1,h2,vs,h3⟩:=ho
 have ia:InstAt s1.heap a o C (some oD):=⟨p1.1,h1,by unfold PySem.W.notCls;rw [h3],by rw [h2];exact p2.1⟩
 exact aLQ I1.kIn ia ek fk hl rfl fun t'=>⟨.int i,H1,I1.tok t',⟨_,rfl⟩,k _ H1 ⟨.int i,M,bL,hm,.refl _,q⟩⟩
end
end Dd
namespace Dd
open PySem PySem.Spec PyProof.Rows L2 Mz
noncomputable def aDo (w:World) (K:PySem.W.Frag) (mg:Str->Option Value) (x:Str) (tab:List (Str × Int)) (non:List Str):Prop :=
 ∃ a es ep,mg x = some (.ref a)/\(a == sysModules) = false/\K.lookup a = some ⟨.type "dict",none,.dict es ep,#[]⟩/\PySem.W.KeysLit w.params es.toList/\(∀ k n,tab.lookup k = some n->∃ t,PySem.W.nsIn K a k = some (some (.int n t)))/\∀ k ∈ non,PySem.W.nsIn K a k = some none
noncomputable def aIj (tab:List (Str × Int)) (non:List Str) (Q:DQ) (ds:List D) (M1:DM):Prop:=match ds with
 | [.str k]=>(∃ n,tab.lookup k = some n/\Q (.int n) M1) ∨ (k ∈ non/\Q .non M1)
 | _=>False
noncomputable def aEz (tab:List (Str × Int)) (non:List Str) (te:DE):DE:=fun ρ M Q=>qJ te uT ρ M (aIj tab non Q)
section
variable {X:Cx} {x:Str} {tab:List (Str × Int)} {non:List Str} {p apos cpos:Pos} {e:Expr} {te:DE}
theorem aGm (T:aDo X.w X.K X.mg x tab non) (he:PDE X e te) (hg:Gl X x:=by rfl) (hd:(x == ("__debug__":Str)) = false:=by decide)
  (hbase:attributeBase (.Name x p) "get" X.env (eval (.Name x p) X.env) = eval (.Name x p) X.env:=by rfl)
  (hfew:((backTo cpos (starEach [e] X.env)).all (fun x=>!x.1) && (backToKw cpos (keywordEach [] X.env)).all (fun x=>x.1.isSome)
   && decide ([e].length + ([]:List Keyword).length + (if ([]:List Keyword).isEmpty then 0 else 1) < 30)) = true:=by rfl)
  (hline:(apos.endLine == cpos.line) = true:=by rfl) (hs:starEach [e] X.env = (false,eval e X.env) :: starEach [] X.env:=by rfl) (hplain:(backTo cpos (starEach [] X.env)).any (·.1) = false:=by rfl) :
  PDE X (.Call (.Attribute (.Name x p) "get" apos) [e] [] cpos) (aEz tab non te):=by
 obtain ⟨a,es,ep,hm,hsm,hk,ks,look,nol⟩:=T
 intro pins s σ H Q I ⟨ρ,M,Q',re,hm',q,kq⟩
 refine wpAny_Call_method_late hbase hfew hline rfl (jA I hg hm ?_ hd)
 have mo:=PySem.W.mapOf_K (prog:=X.prog) (w:=X.w) I.kIn hk ks
 refine ⟨"dict","dict.get",PySem.F.plainAttrs_dict,PySem.F.slot_dict_get,PySem.F.type_dict_get,mo.typeIs,?_,?_⟩
 ·intro b e;cases e;exact ⟨_,I.kIn _ _ hk,rfl⟩
 ·have hA:=(wB he aAZ hs:PDA X [e] (qJ te uT)) cpos pins s σ H (LA X.K H (aIj tab non Q')) I ⟨ρ,M,_,re,hm',q,fun vs H' z=>z⟩
  rw [hs] at hA ⊢
  refine Calls.callWith_builtin (by show (false || (backTo cpos (starEach [] X.env)).any (·.1)) = false;rw [hplain]<;>rfl) (Calls.evalArgs_plain (thn hA fun us s1 ⟨vs,H1,I1,rv,ds,M1,rs,hm1,ex,q1⟩=>?_))
  match ds,q1 with
  | [.str k],q1 =>
   obtain ⟨v,rfl,r1⟩:=iX rs
   obtain rfl:=cP r1
   obtain ⟨u,rfl,ru⟩:=yE rv
   obtain ⟨t,rfl⟩:=ru
   have mo1:=PySem.W.mapOf_K (prog:=X.prog) (w:=X.w) I1.kIn hk ks
   refine call_meetsIn PySem.F.slot_dict_get mo1.typeIs PySem.F.entry_dict_get (PySem.F.args_dict_get_2 _ _) (meets_dict_get (PySem.strKind X.prog X.w) a (strKind_is X.prog X.w k t) hsm) ⟨_,mo1,?_⟩
   rcases q1 with ⟨n,hn,q1⟩ | ⟨hn,q1⟩
   ·obtain ⟨t',hf⟩:=look k n hn
    rw [PySem.W.find_K hk hf]
    exact ⟨.int n,H1,I1.tok _,⟨_,rfl⟩,kq _ _ ⟨.int n,M1,bL,hm1,ex,q1⟩⟩
   ·rw [PySem.W.find_K hk (nol k hn)]
    exact ⟨.non,H1,I1.tok _,rfl,kq _ _ ⟨.non,M1,wD,hm1,ex,q1⟩⟩
end
end Dd
namespace Dd
open PySem PySem.Spec PyProof.Rows L2
section
variable {X:Cx} {pins:List (Addr × Obj)} {σ:L2.St} {H:Hp} {s:Shared} {M:Model} {A:Around} {E:Value->Shared->Prop} {e T:Addr} {cls:Value} {od:Option Addr}
end
section
variable {X:Cx} {pins:List (Addr × Obj)} {σ:L2.St} {H:Hp} {s:Shared} {x f:Str} {C:Addr} {k:Nat} {i:Int}
end
section
variable {X:Cx} {x:Str} {V:Int->DM->Prop} {e:Expr} {te:DE} {np cpos pos:Pos} {k:Nat}
theorem xH (R:aAl X x V) (hr:eF k X.A) (hk:2<=k) (he:ZE X e te) (hg:Gl X x:=by rfl) (hd:(x == ("__debug__":Str)) = false:=by decide) (hst:starEach [e] X.env = (false,eval e X.env) :: starEach [] X.env:=by rfl) (hpl:(backTo cpos (starEach [] X.env)).any (·.1) = false:=by rfl):ZS X (.Raise (some (.Call (.Name x np) [e] [] cpos)) none pos) (aAg V te):=.i (aDI R hr hk he.o hg hd hst hpl)
end
section
variable {X:Cx} {e:Expr} {es:List Expr} {t:DA} {fn f:Str} {ps:List Str} {cond:List D->DM->Int->Prop} {C:Addr} {k1 k:Nat} {V:Int->DM->Prop} {pf pc:Pos}
theorem zV (hH:gW X.prog X.w X.K X.mg X.base k1 fn ps C f cond) (hr:eF k X.A) (hk1:k1<=k) (PO:aCO X C f V) (ha:ZA X (e :: es) t) (hg:Gl X fn:=by rfl) (hdb:(fn == ("__debug__":Str)) = false:=by decide) (he:starEach (e :: es) X.env = (false,eval e X.env) :: starEach es X.env:=by rfl) (hpl:(backTo pc (starEach es X.env)).any (·.1) = false:=by rfl):ZE X (.Call (.Name fn pf) (e :: es) [] pc) (aCp V cond t):=.i (aFh hH hr hk1 PO ha.o hg hdb he hpl)
end
section
variable {P:Program} {w:World} {K:PySem.W.Frag} {mg:Str->Option Value} {base:Heap}
end
section
variable {X:Cx} {pins:List (Addr × Obj)} {σ:L2.St} {H:Hp} {s:Shared} {a e:Addr} {o:Obj} {fs:List (Str × V)}
end
section
variable {X:Cx} {a:Expr} {e:Expr} {es:List Expr} {t:DA} {x f n cm fl:Str} {ps:List Str} {sp:DSp} {cond:List D->DM->Int->Prop} {C Cm:Addr} {k1 k2 k i j:Nat} {ts:Addr->Int->DS} {b0:Stmt} {suite:List Stmt} {px pf pc pa pcm ph pos:Pos}
theorem aD6 (hH:gW X.prog X.w X.K X.mg X.base k1 f ps C fl cond) (hh:Has X.prog X.w X.K X.mg X.base k2 f ps sp) (hr:eF k X.A) (hk1:k1<=k) (hk2:k2<=k) (hN:X.N.Nodup) (hcm:X.mg cm = some (.ref Cm)) (hmt:PySem.W.exmOne X.K (.ref C) (.ref Cm) = some true) (ha:ZA X (e :: es) t) (hsu:∀ i a o dx oD t,ExY o C dx->PySem.W.lookIn fl oD = some (some (.int i t))->ZSs (Exc (Pn X dx oD) a o) (b0 :: suite) (ts a i)) (hi:X.N[i]? = some x:=by rfl) (hj:X.N[j]? = some n:=by rfl) (hxl:X.env.scope.names.lookup x = some .local:=by rfl) (hnl:X.env.scope.names.lookup n = some .local:=by rfl) (hs:X.stack = X.env :: X.outer:=by rfl) (hf:X.env.frame = some X.env.locals:=by rfl) (hex:X.ex = []:=by rfl) (hX:∀ e s,X.xe e s->False:=by exact fun _ _ z=>z) (hgc:Gl X cm:=by rfl) (hdc:(cm == ("__debug__":Str)) = false:=by decide) (hg:Gl X f:=by rfl) (hdb:(f == ("__debug__":Str)) = false:=by decide) (he:starEach (e :: es) X.env = (false,eval e X.env) :: starEach es X.env:=by rfl) (hpl:(backTo pc (starEach es X.env)).any (·.1) = false:=by rfl) (hsw:swapsWith (.Call (.Name f pf) (e :: es) [] pc) (some (.Name x px)) pa.line X.env = pure false:=by rfl):ZS X (.Try [.Assign [.Name x px] (.Call (.Name f pf) (e :: es) [] pc) pa] [.ExceptHandler (some (.Name cm pcm)) (some n) (b0 :: suite) ph] [] [] pos) (aFL sp cond j t (fun D d ρ M=>D.nx (ρ.set i (some d)) M) ts):=.i (aEn hH hh hr hk1 hk2 hN hcm hmt ha.o (fun i a o dx oD t h1 h2=>(hsu i a o dx oD t h1 h2).o) hi hj hxl hnl hs hf hex hX hgc hdc hg hdb he hpl hsw)
end
section
variable {X:Cx} {n f:Str} {C a dx:Addr} {o oD:Obj} {p pos:Pos} {j:Nat} {i:Int} {tk:Tok}
theorem aF7 (ho:ExY o C dx) (hl:PySem.W.lookIn f oD = some (some (.int i tk))) (ek:aCx X.K C) (fk:yP X.K C f) (hj:X.N[j]? = some n:=by rfl) (hnl:Vis X.env.scope n:=by first | exact Or.inl rfl | exact Or.inr (Or.inl rfl) | exact Or.inr (Or.inr rfl)) (hd1:(n == ("__debug__":Str)) = false:=by decide) (hd2:(n == ("__classdict__":Str)) = false:=by decide) (hb:attributeBase (.Name n p) f X.env (eval (.Name n p) X.env) = eval (.Name n p) X.env:=by rfl):ZE (Exc (Pn X dx oD) a o) (.Attribute (.Name n p) f pos) (aHW j a i):=.i (aKe ho hl ek fk hj hnl hd1 hd2 hb)
end
section
variable {X:Cx} {x:Str} {tab:List (Str × Int)} {non:List Str} {p apos cpos:Pos} {e:Expr} {te:DE}
theorem aEC (T:aDo X.w X.K X.mg x tab non) (he:ZE X e te) (hg:Gl X x:=by rfl) (hd:(x == ("__debug__":Str)) = false:=by decide) (hbase:attributeBase (.Name x p) "get" X.env (eval (.Name x p) X.env) = eval (.Name x p) X.env:=by rfl) (hfew:((backTo cpos (starEach [e] X.env)).all (fun x=>!x.1) && (backToKw cpos (keywordEach [] X.env)).all (fun x=>x.1.isSome)
   && decide ([e].length + ([]:List Keyword).length + (if ([]:List Keyword).isEmpty then 0 else 1) < 30)) = true:=by rfl) (hline:(apos.endLine == cpos.line) = true:=by rfl) (hs:starEach [e] X.env = (false,eval e X.env) :: starEach [] X.env:=by rfl) (hplain:(backTo cpos (starEach [] X.env)).any (·.1) = false:=by rfl):ZE X (.Call (.Attribute (.Name x p) "get" apos) [e] [] cpos) (aEz tab non te):=.i (aGm T he.o hg hd hbase hfew hline hs hplain)
end
end Dd
namespace Lw
open PySem PySem.Spec PyProof.Rows L2 Dd Mz
local macro_rules | `(tactic| decreasing_tactic) => `(tactic| try dsimp only [aAg, aIN, aCp, aFL, aHW, aEz, aIj, aIz, aFj, aEl, aJ4, aFY, aKd, aLc, aKI, aKZ, iD, aCG, aJe, List.map, List.length_cons, List.length_nil, Nat.reduceAdd, Nat.reduceSub, List.reduceReplicate, List.cons_append, List.nil_append, List.set_cons_zero, List.set_cons_succ, List.getElem?_cons_zero, List.getElem?_cons_succ, gCn, gN, gNl, aI7, aI6, aLd, aLM, aLX, aLs, aKY, aK3, aKx, aGa, aGp, aHs, aFB, aJ3, aGG, aG9, aHe, aGi, aF5, aGU, aHv, aEZ, aIp, aLk, aKR, aKG, aLF, ixT, ixF, aMl, aL5, aK1, aLG, aLU, aH7, nV, qJ, uT, dOp, aAx, dC, d2I, d2J, aLx, zP, aJl, dOr, aIn, aD9, aJ0, aEq, aIS, aJB, aIw, aFV, aJ5, aFo, aH5, aCq, aDq, aIR, aFK, aGO, aIO, aBV, aEr, aIy, aGD, aHo, aJF, aJi, aLr, aJf, yS, Option.join_some, aLw, aH1, aJm, dPt, aLT, dSl, aIQ, aJu, aHJ, aIU, aCh, aFs, aKX, aAq, aA8, aLV, aDn, aKD, aKC, aMs, aIK, aHw, aFA, isV, aH3, aJS, aJM, aJX, aKu, aKh, aIY, aIt, aJb, aJQ, aHU, aKv, aH0, aJZ, aH9, aJT, aIG, aJR, aJK, aIk, aJk, aIL, aIJ, aIZ, aKb, aJG, aI5])
local macro_rules | `(tactic| simp_arith) => `(tactic| try simp only [aAA, aFz, aIC, bI, aL, id, decide_eq_true_eq, Bool.not_eq_true', decide_eq_false_iff_not])
noncomputable def top (i:Nat):Stmt:=PySem.Challenge.pw_arcmill_k21_programs_by_form.main.body.getD i (.Pass ⟨0,0,0,0⟩)
section
variable {P:Program} {w:World} {K:PySem.W.Frag} {mg:Str->Option Value} {base:Heap}
noncomputable abbrev gL:Stmt:=top 6
theorem jQ:aR ["one","other"] ["one","other"] (aI gL):=⟨rfl,rfl,rfl,by decide +kernel,rfl,by decide +kernel,by decide +kernel⟩
theorem oO (hF:bV K mg "greatest_divisor" gL ["one","other"]) (lU:mg "abs" = none):Has P w K mg base 101 "greatest_divisor" ["one","other"] dN:=by
 refine Has.mkZ hF jQ (fun ds M Q ⟨a,b,e,_⟩=>by rw [e];rfl) fun f cdv A outer s H ds M Q E hr h=>?_
 obtain ⟨a,b,rfl,q⟩:=h
 refine ⟨_,(aF (kD PassesOwn.never (aQ (pT hr) (aB 1) aC) (aE (pX (i:=0) (j:=1) rfl jQ.nd (aA (aB 1) (aA (aJ cW (aB 0) (aB 1)) aD)))))
  (aE (aO (bW yG lU (aA (aB 0) aD))))),?_⟩
 refine kB (fun m ρ M'=>M' = M/\∃ x y:Int,ρ = [some (.int x),some (.int y)]/\m = y.natAbs/\Int.gcd x y = Int.gcd a b) _ ⟨rfl,a,b,rfl,rfl,rfl⟩ ?_
 rintro m ρ M' ⟨rfl,x,y,rfl,rfl,g⟩
 refine ⟨rfl,rfl,aLN (fun c=>?_) (fun c=>?_)⟩
 ·have c:y ≠ 0:=by simpa [eqD] using c
  exact ⟨c,_,aAm c,rfl,y,x.fmod y,rfl,rfl,(xX x y).trans g⟩
 ·have c:y = 0:=by simpa [eqD] using c
  subst c
  refine ⟨M',.refl _,?_⟩
  have e:(if x < 0 then -x else x) = (Int.gcd a b:Int):=by rw [<- g,Int.gcd_zero_right];split<;>omega
  rw [e]
  exact q
noncomputable abbrev aCB:Stmt:=top 7
theorem sW:aR ["one","other","shared","part","top","left"] ["one","other"] (aI aCB):=⟨rfl,rfl,rfl,by decide +kernel,rfl,by decide +kernel,by decide +kernel⟩
theorem aEc (hF:bV K mg "plus" aCB ["one","other"]) (aY:Has P w K mg base 101 "greatest_divisor" ["one","other"] dN):Has P w K mg base 102 "plus" ["one","other"] aA4:=by
 refine Has.mkZ hF sW sI fun f cdv A outer s H ds M Q E hr h=>?_
 obtain ⟨p,r,m,n,rfl,_,h1,h2,l,q⟩:=h
 refine ⟨_,(aF (aP (i:=2) sW.nd (aG aY hr (by decide) (aA (aH (aB 0) aC) (aA (aH (aB 1) aC) aD))))
  (aF (aP (i:=3) sW.nd (aJ dI (aH (aB 0) aC) (aB 2)))
  (aF (aP (i:=4) sW.nd (aJ cF (aJ bD (aH (aB 0) aC) (aJ dI (aH (aB 1) aC) (aB 2))) (aJ bD (aH (aB 1) aC) (aB 3))))
  (aF (aP (i:=5) sW.nd (aG aY hr (by decide) (aA (aB 4) (aA (aB 2) aD))))
  (aE (aO (aN (aA (aJ dI (aB 4) (aB 5)) (aA (aJ bD (aB 3) (aJ dI (aH (aB 1) aC) (aB 5))) aD))))))))),?_⟩
 obtain ⟨g0,l0,gd,ld,e1,e2⟩:=aMi p r _ _ _ _ rfl rfl rfl rfl
 have gr:(Int.gcd p.den r.den:Int) ∣ (r.den:Int):=Int.gcd_dvd_right _ _
 have bg:Bd m (Int.gcd p.den r.den:Int):=h1.2.dvd gd (eG p)
 refine ⟨_,_,rfl,vU h1.2 (by omega) gd (eG p) g0,vU h1.2 (by omega) gd (eG p) g0,cT h1.1 (h2.2.fdiv gr) (by omega),cT h2.1 (h1.2.fdiv gd) (by omega),_,_,rfl,?_⟩
 refine ⟨vU bg (by omega) ld g0 l0,vU bg (by omega) ld g0 l0,cT (h1.2.fdiv gd) (h2.2.fdiv (Int.dvd_trans ld gr)) (by omega),by show (2:Nat)<=1000;decide,M,.refl _,?_⟩
 have q':Q (.tup [.int (p + r).num,.int ((p + r).den:Int)]) M:=q
 rw [<- e1,<- e2] at q'
 exact q'
noncomputable abbrev vZ:Stmt:=top 8
theorem mE:aR ["one","other","falling","rising"] ["one","other"] (aI vZ):=⟨rfl,rfl,rfl,by decide +kernel,rfl,by decide +kernel,by decide +kernel⟩
theorem aDs (hF:bV K mg "times" vZ ["one","other"]) (aY:Has P w K mg base 101 "greatest_divisor" ["one","other"] dN):Has P w K mg base 102 "times" ["one","other"] aBH:=by
 refine Has.mkZ hF mE sI fun f cdv A outer s H ds M Q E hr h=>?_
 obtain ⟨p,r,m,n,rfl,_,h1,h2,l,q⟩:=h
 refine ⟨_,(aF (aP (i:=2) mE.nd (aG aY hr (by decide) (aA (aH (aB 0) aC) (aA (aH (aB 1) aC) aD))))
  (aF (aP (i:=3) mE.nd (aG aY hr (by decide) (aA (aH (aB 1) aC) (aA (aH (aB 0) aC) aD))))
  (aE (aO (aN (aA (aJ bD (aJ dI (aH (aB 0) aC) (aB 2)) (aJ dI (aH (aB 1) aC) (aB 3))) (aA (aJ bD (aJ dI (aH (aB 0) aC) (aB 3)) (aJ dI (aH (aB 1) aC) (aB 2))) aD))))))),?_⟩
 obtain ⟨f0,r0,fd,rd,e1,e2⟩:=aLJ p r _ _ rfl rfl
 have fl:(Int.gcd p.num r.den:Int) ∣ p.num:=Int.gcd_dvd_left _ _
 have rl:(Int.gcd r.num p.den:Int) ∣ r.num:=Int.gcd_dvd_left _ _
 refine ⟨_,_,rfl,_,_,rfl,vU h2.2 (by omega) fd (eG r) f0,vU h1.2 (by omega) rd (eG p) r0,cT (h1.1.fdiv fl) (h2.1.fdiv rl) (by omega),vU h1.2 (by omega) rd (eG p) r0,vU h2.2 (by omega) fd (eG r) f0,cT (h1.2.fdiv rd) (h2.2.fdiv fd) (by omega),by show (2:Nat)<=1000;decide,M,.refl _,?_⟩
 have q':Q (.tup [.int (p * r).num,.int ((p * r).den:Int)]) M:=q
 rw [<- e1,<- e2] at q'
 exact q'
noncomputable abbrev aAs:Stmt:=top 9
theorem aEp:aR ["one","other"] ["one","other"] (aI aAs):=⟨rfl,rfl,rfl,by decide +kernel,rfl,by decide +kernel,by decide +kernel⟩
theorem aDX (hF:bV K mg "below" aAs ["one","other"]):Has P w K mg base 101 "below" ["one","other"] aBm:=by
 refine Has.mkZ hF aEp sI fun f cdv A outer s H ds M Q E hr h=>?_
 obtain ⟨p,r,m,n,rfl,_,h1,h2,l,q⟩:=h
 refine ⟨_,(aE (aO (cB wW (aJ bD (aH (aB 0) aC) (aH (aB 1) aC)) (aJ bD (aH (aB 1) aC) (aH (aB 0) aC))))),?_⟩
 refine ⟨cT h1.1 h2.2 (by omega),cT h2.1 h1.2 (by omega),M,.refl _,?_⟩
 have e:decide (p.num * (r.den:Int) < r.num * (p.den:Int)) = decide (p < r):=decide_eq_decide.mpr (ltQ p r)
 show Q (.bl (decide (p.num * (r.den:Int) < r.num * (p.den:Int)))) M
 rw [e]
 exact q
noncomputable def oD (x y:Rat):Int:=if (x.den:Int) = (y.den:Int) then (x.den:Int) else (x.den:Int) * (y.den:Int)
noncomputable def oX (x y:Rat):Int:=if (x.den:Int) = (y.den:Int) then x.num else x.num * (y.den:Int)
noncomputable def oY (x y:Rat):Int:=if (x.den:Int) = (y.den:Int) then y.num else y.num * (x.den:Int)
theorem aCD (x y:Rat):0 < oD x y:=by
 have h1:(0:Int) < x.den:=by have:=x.den_pos;omega
 have h2:(0:Int) < y.den:=by have:=y.den_pos;omega
 unfold oD;split
 ·exact h1
 ·exact Int.mul_pos h1 h2
theorem aHK (x y:Rat):((oX x y:Int):Rat) = x * (oD x y:Int):=by
 have e:=gD x
 unfold oX oD;split
 ·rw [e]
 ·rw [Rat.intCast_mul,Rat.intCast_mul,e];grind
theorem aHP (x y:Rat):((oY x y:Int):Rat) = y * (oD x y:Int):=by
 have e:=gD y
 unfold oY oD;split
 ·rename_i h;rw [e,h]
 ·rw [Rat.intCast_mul,Rat.intCast_mul,e];grind
theorem aDF {x y:Rat} {n:Nat} (hx:BQ n x) (hy:BQ n y):Bd (n + n) (oX x y)/\Bd (n + n) (oY x y)/\Bd (n + n) (oD x y):=by
 unfold oX oY oD
 refine ⟨?_,?_,?_⟩
 ·split
  ·exact hx.1.mono (by omega)
  ·exact hx.1.mul hy.2
 ·split
  ·exact hy.1.mono (by omega)
  ·exact hy.1.mul hx.2
 ·split
  ·exact hx.2.mono (by omega)
  ·exact hx.2.mul hy.2
noncomputable def iW:DSp:=fun ds M Q=>∃ x y n,ds = [PQ x y]/\BQ n x/\BQ n y/\n<=8998/\Q (.tup [.int (oX x y),.int (oY x y),.int (oD x y)]) M
noncomputable abbrev jI:Stmt:=top 12
theorem iQ:aR ["p","x","y"] ["p"] (aI jI):=⟨rfl,rfl,rfl,by decide +kernel,rfl,by decide +kernel,by decide +kernel⟩
theorem tD (hF:bV K mg "on_one_bottom" jI ["p"]):Has P w K mg base 101 "on_one_bottom" ["p"] iW:=by
 refine Has.mkZ hF iQ (fun ds M Q ⟨x,y,n,e,_⟩=>by rw [e];rfl) fun f cdv A outer s H ds M Q E hr h=>?_
 obtain ⟨x,y,n,rfl,hx,hy,hn,q⟩:=h
 refine ⟨_,(aF (jT (aB 0) (jR (n:=2) rfl (bX (aZ (i:=1) iQ.nd) (bX (aZ (i:=2) iQ.nd) hZ))))
  (aF (aV (aQ (bT hr) (aH (aB 1) aC) (aH (aB 2) aC)) (aE (aO (aN (aA (aH (aB 1) aC) (aA (aH (aB 2) aC) (aA (aH (aB 1) aC) aD)))))) aS)
  (aE (aO (aN (aA (aJ bD (aH (aB 1) aC) (aH (aB 2) aC)) (aA (aJ bD (aH (aB 2) aC) (aH (aB 1) aC)) (aA (aJ bD (aH (aB 1) aC) (aH (aB 2) aC)) aD)))))))),?_⟩
 unfold oX oY oD at q
 decreasing_tactic
 rw [bI]
 refine ⟨rfl,dif (fun c=>?_) (fun c=>?_)⟩
 ·rw [if_pos c,if_pos c,if_pos c] at q
  exact ⟨by decide,M,.refl _,q⟩
 ·rw [if_neg c,if_neg c,if_neg c] at q
  exact ⟨cT hx.1 hy.2 (by omega),cT hy.1 hx.2 (by omega),cT hx.2 hy.2 (by omega),by decide,M,.refl _,q⟩
noncomputable def aAf:DSp:=fun ds M Q=>∃ i,ds = [.int i]/\Q (.int (if 0 < i then 1 else if i = 0 then 0 else -1)) M
noncomputable abbrev aCy:Stmt:=top 13
theorem aGc:aR ["number"] ["number"] (aI aCy):=⟨rfl,rfl,rfl,by decide +kernel,rfl,by decide +kernel,by decide +kernel⟩
theorem aFM (hF:bV K mg "sign" aCy ["number"]):Has P w K mg base 101 "sign" ["number"] aAf:=by
 refine Has.mkZ hF aGc (fun ds M Q ⟨x,e,_⟩=>by rw [e];rfl) fun f cdv A outer s H ds M Q E hr h=>?_
 obtain ⟨i,rfl,q⟩:=h
 refine ⟨_,(aF (aV (aQ gE (aB 0) aC) (aE (aO aC)) aS)
  (aE (aO (mD (aQ (bT hr) (aB 0) aC) aC (cU aC))))),?_⟩
 decreasing_tactic
 refine dif (fun c=>?_) (fun c=>?_)
 ·rw [if_pos c] at q
  exact ⟨M,.refl _,q⟩
 ·rw [if_neg c] at q
  rw [bI]
  refine dif (fun d=>?_) (fun d=>?_)
  ·rw [if_pos d] at q
   exact ⟨M,.refl _,q⟩
  ·rw [if_neg d] at q
   exact ⟨M,.refl _,q⟩
noncomputable def fS (cx cy px py:Rat):Int:=(oX px py * oD cx cy - oX cx cy * oD px py) * (oX px py * oD cx cy - oX cx cy * oD px py) + (oY px py * oD cx cy - oY cx cy * oD px py) * (oY px py * oD cx cy - oY cx cy * oD px py)
theorem aHM (cx cy px py:Rat):((fS cx cy px py:Int):Rat) = ((px - cx) * (px - cx) + (py - cy) * (py - cy)) * (((oD cx cy:Int):Rat) * ((oD px py:Int):Rat)) * (((oD cx cy:Int):Rat) * ((oD px py:Int):Rat)):=by
 unfold fS
 simp only [Rat.intCast_add,Rat.intCast_mul,Rat.intCast_sub]
 rw [aHK,aHK,aHP,aHP]
 grind
noncomputable def qO:DSp:=fun ds M Q=>∃ cx cy px py n,ds = [PQ cx cy,PQ px py]/\BQ n cx/\BQ n cy/\BQ n px/\BQ n py/\n<=4000/\Q (.tup [.int (fS cx cy px py),.int (oD px py)]) M
noncomputable abbrev mZ:Stmt:=top 15
theorem dD:aR ["c","p","cx","cy","cd","px","py","pd","x","y"] ["c","p"] (aI mZ):=⟨rfl,rfl,rfl,by decide +kernel,rfl,by decide +kernel,by decide +kernel⟩
theorem wL (hF:bV K mg "scaled_far" mZ ["c","p"]) (gI:Has P w K mg base 101 "on_one_bottom" ["p"] iW):Has P w K mg base 102 "scaled_far" ["c","p"] qO:=by
 refine Has.mkZ hF dD (fun ds M Q ⟨cx,cy,px,py,n,e,_⟩=>by rw [e];rfl) fun f cdv A outer s H ds M Q E hr h=>?_
 obtain ⟨cx,cy,px,py,n,rfl,h1,h2,h3,h4,hn,q⟩:=h
 refine ⟨_,(aF (jT (aG gI hr (by decide) (aA (aB 0) aD)) (jR (n:=3) rfl (bX (aZ (i:=2) dD.nd) (bX (aZ (i:=3) dD.nd) (bX (aZ (i:=4) dD.nd) hZ)))))
  (aF (jT (aG gI hr (by decide) (aA (aB 1) aD)) (jR (n:=3) rfl (bX (aZ (i:=5) dD.nd) (bX (aZ (i:=6) dD.nd) (bX (aZ (i:=7) dD.nd) hZ)))))
  (aF (aP (i:=8) dD.nd (aJ lO (aJ bD (aB 5) (aB 4)) (aJ bD (aB 2) (aB 7))))
  (aF (aP (i:=9) dD.nd (aJ lO (aJ bD (aB 6) (aB 4)) (aJ bD (aB 3) (aB 7))))
  (aE (aO (aN (aA (aJ cF (aJ bD (aB 8) (aB 8)) (aJ bD (aB 9) (aB 9))) (aA (aB 7) aD))))))))),?_⟩
 decreasing_tactic
 obtain ⟨a1,a2,a3⟩:=aDF h1 h2
 obtain ⟨b1,b2,b3⟩:=aDF h3 h4
 have dX:Bd (n + n + (n + n) + 1) (oX px py * oD cx cy - oX cx cy * oD px py):=(b1.mul a3).sub (a1.mul b3)
 have dY:Bd (n + n + (n + n) + 1) (oY px py * oD cx cy - oY cx cy * oD px py):=(b2.mul a3).sub (a2.mul b3)
 refine ⟨cx,cy,n,rfl,h1,h2,by omega,?_⟩
 decreasing_tactic
 refine ⟨rfl,px,py,n,rfl,h3,h4,by omega,?_⟩
 decreasing_tactic
 exact ⟨rfl,cT b1 a3 (by omega),cT a1 b3 (by omega),cT b2 a3 (by omega),cT a2 b3 (by omega),cT dX dX (by omega),cT dY dY (by omega),by decide,M,.refl _,q⟩
noncomputable def gA (cx cy px py:Rat):Rat:=(px - cx) * (px - cx) + (py - cy) * (py - cy)
theorem aHL {cx cy px py:Rat} {n:Nat} (h1:BQ n cx) (h2:BQ n cy) (h3:BQ n px) (h4:BQ n py):Bd (8 * n + 3) (fS cx cy px py):=by
 obtain ⟨a1,a2,a3⟩:=aDF h1 h2
 obtain ⟨b1,b2,b3⟩:=aDF h3 h4
 have dX:Bd (n + n + (n + n) + 1) (oX px py * oD cx cy - oX cx cy * oD px py):=(b1.mul a3).sub (a1.mul b3)
 have dY:Bd (n + n + (n + n) + 1) (oY px py * oD cx cy - oY cx cy * oD px py):=(b2.mul a3).sub (a2.mul b3)
 exact ((dX.mul dX).add (dY.mul dY)).mono (by omega)
theorem aF0 (cx cy px py qx qy:Rat):(0 < fS cx cy px py * oD qx qy * oD qx qy - fS cx cy qx qy * oD px py * oD px py ↔ gA cx cy qx qy < gA cx cy px py) /\
  (fS cx cy px py * oD qx qy * oD qx qy - fS cx cy qx qy * oD px py * oD px py = 0 ↔ gA cx cy px py = gA cx cy qx qy):=by
 have e:((fS cx cy px py * oD qx qy * oD qx qy - fS cx cy qx qy * oD px py * oD px py:Int):Rat) = (gA cx cy px py - gA cx cy qx qy) * ((((oD cx cy:Int):Rat) * ((oD px py:Int):Rat) * ((oD qx qy:Int):Rat)) * (((oD cx cy:Int):Rat) * ((oD px py:Int):Rat) * ((oD qx qy:Int):Rat))):=by
  simp only [Rat.intCast_mul,Rat.intCast_sub]
  rw [aHM,aHM]
  unfold gA
  grind
 have c1:(0:Rat) < ((oD cx cy:Int):Rat):=Rat.intCast_pos.mpr (aCD _ _)
 have c2:(0:Rat) < ((oD px py:Int):Rat):=Rat.intCast_pos.mpr (aCD _ _)
 have c3:(0:Rat) < ((oD qx qy:Int):Rat):=Rat.intCast_pos.mpr (aCD _ _)
 have k0:(0:Rat) < (((oD cx cy:Int):Rat) * ((oD px py:Int):Rat) * ((oD qx qy:Int):Rat)) * (((oD cx cy:Int):Rat) * ((oD px py:Int):Rat) * ((oD qx qy:Int):Rat)):=Rat.mul_pos (Rat.mul_pos (Rat.mul_pos c1 c2) c3) (Rat.mul_pos (Rat.mul_pos c1 c2) c3)
 generalize (((oD cx cy:Int):Rat) * ((oD px py:Int):Rat) * ((oD qx qy:Int):Rat)) * (((oD cx cy:Int):Rat) * ((oD px py:Int):Rat) * ((oD qx qy:Int):Rat)) = κ at e k0
 generalize fS cx cy px py * oD qx qy * oD qx qy - fS cx cy qx qy * oD px py * oD px py = z at e ⊢
 generalize gA cx cy px py = u at e ⊢
 generalize gA cx cy qx qy = v at e ⊢
 constructor
 ·rw [<- Rat.intCast_pos,e]
  constructor
  ·intro h
   by_cases c:v < u
   ·exact c
   ·have:u - v<=0:=by grind
    have:=Rat.mul_nonneg (a:=v - u) (b:=κ) (by grind) (by grind)
    grind
  ·intro h
   exact Rat.mul_pos (by grind) k0
 ·constructor
  ·intro h
   rw [h] at e
   have:=(Rat.mul_eq_zero.mp e.symm).resolve_right (by grind)
   grind
  ·intro h
   have:(z:Rat) = 0:=by rw [e,h];grind
   exact Rat.intCast_eq_zero_iff.mp this
noncomputable def aFH (cx cy px py qx qy:Rat):Int:=if gA cx cy qx qy < gA cx cy px py then 1 else if gA cx cy px py = gA cx cy qx qy then 0 else -1
noncomputable def wP:DSp:=fun ds M Q=>∃ cx cy px py qx qy n,ds = [PQ cx cy,PQ px py,PQ qx qy]/\BQ n cx/\BQ n cy/\BQ n px/\BQ n py/\BQ n qx/\BQ n qy/\n<=4000/\Q (.int (aFH cx cy px py qx qy)) M
noncomputable abbrev uF:Stmt:=top 14
theorem kI:aR ["c","p","q","p_square","pd","q_square","qd"] ["c","p","q"] (aI uF):=⟨rfl,rfl,rfl,by decide +kernel,rfl,by decide +kernel,by decide +kernel⟩
theorem aBC (hF:bV K mg "farther" uF ["c","p","q"]) (jX:Has P w K mg base 102 "scaled_far" ["c","p"] qO) (aCz:Has P w K mg base 101 "sign" ["number"] aAf):Has P w K mg base 103 "farther" ["c","p","q"] wP:=by
 refine Has.mkZ hF kI (fun ds M Q ⟨cx,cy,px,py,qx,qy,n,e,_⟩=>by rw [e];rfl) fun f cdv A outer s H ds M Q E hr h=>?_
 obtain ⟨cx,cy,px,py,qx,qy,n,rfl,h1,h2,h3,h4,h5,h6,hn,q⟩:=h
 refine ⟨_,(aF (jT (aG jX hr (by decide) (aA (aB 0) (aA (aB 1) aD))) (jR (n:=2) rfl (bX (aZ (i:=3) kI.nd) (bX (aZ (i:=4) kI.nd) hZ))))
  (aF (jT (aG jX hr (by decide) (aA (aB 0) (aA (aB 2) aD))) (jR (n:=2) rfl (bX (aZ (i:=5) kI.nd) (bX (aZ (i:=6) kI.nd) hZ))))
  (aE (aO (aG aCz hr (by decide) (aA (aJ lO (aJ bD (aJ bD (aB 3) (aB 6)) (aB 6)) (aJ bD (aJ bD (aB 5) (aB 4)) (aB 4))) aD)))))),?_⟩
 decreasing_tactic
 have bP:=aHL h1 h2 h3 h4
 have bQ:=aHL h1 h2 h5 h6
 have dP:=(aDF h3 h4).2.2
 have dQ:=(aDF h5 h6).2.2
 refine ⟨cx,cy,px,py,n,rfl,h1,h2,h3,h4,hn,?_⟩
 decreasing_tactic
 refine ⟨rfl,cx,cy,qx,qy,n,rfl,h1,h2,h5,h6,hn,?_⟩
 decreasing_tactic
 refine ⟨rfl,cT bP dQ (by omega),cT (bP.mul dQ) dQ (by omega),cT bQ dP (by omega),cT (bQ.mul dP) dP (by omega),_,rfl,M,.refl _,?_⟩
 obtain ⟨e1,e2⟩:=aF0 cx cy px py qx qy
 have e:(if 0 < fS cx cy px py * oD qx qy * oD qx qy - fS cx cy qx qy * oD px py * oD px py then 1 else if fS cx cy px py * oD qx qy * oD qx qy - fS cx cy qx qy * oD px py * oD px py = 0 then 0 else -1:Int) = aFH cx cy px py qx qy:=by
  unfold aFH
  by_cases c:gA cx cy qx qy < gA cx cy px py
  ·rw [if_pos c,if_pos (e1.mpr c)]
  ·rw [if_neg c,if_neg (fun z=>c (e1.mp z))]
   by_cases d:gA cx cy px py = gA cx cy qx qy
   ·rw [if_pos d,if_pos (e2.mpr d)]
   ·rw [if_neg d,if_neg (fun z=>d (e2.mp z))]
 rw [e]
 exact q
noncomputable def aBI:DSp:=fun ds M Q=>ds = []/\Q (FR 0 0 0 1 1) M
noncomputable abbrev aAR:Stmt:=top 30
theorem aEY:aR [] [] (aI aAR):=⟨rfl,rfl,rfl,by decide +kernel,rfl,by decide +kernel,by decide +kernel⟩
theorem aDw (hF:bV K mg "first" aAR []) (bB:eY K mg "MIDDLE" sG) (kO:eY K mg "ONE" aCn):Has P w K mg base 101 "first" [] aBI:=by
 refine Has.mkZ hF aEY (fun ds M Q ⟨e,_⟩=>by rw [e];rfl) fun f cdv A outer s H ds M Q E hr h=>?_
 obtain ⟨rfl,q⟩:=h
 refine ⟨_,(aE (aO (aN (aA (bA bB) (aA aC (aA aC (aA (bA kO) aD))))))),?_⟩
 decreasing_tactic
 exact ⟨by decide,M,.refl _,q⟩
noncomputable def fC:DSp:=fun ds M Q=>∃ t b,ds = [.int t,.int b]/\0 < b/\Bd 8999 b/\Q (FQ ((t:Rat) / (b:Rat))) M
noncomputable abbrev lB:Stmt:=top 69
theorem gC:aR ["_law_top","_law_bottom","_law_one","_law_other"] ["_law_top","_law_bottom"] (aI lB):=⟨rfl,rfl,rfl,by decide +kernel,rfl,by decide +kernel,by decide +kernel⟩
theorem yN (hF:bV K mg "_law_ratio" lB ["_law_top","_law_bottom"]) (lU:mg "abs" = none):Has P w K mg base 101 "_law_ratio" ["_law_top","_law_bottom"] fC:=by
 refine Has.mkZ hF gC (fun ds M Q ⟨a,b,e,_⟩=>by rw [e];rfl) fun f cdv A outer s H ds M Q E hr h=>?_
 obtain ⟨t,b,rfl,hb,hB,q⟩:=h
 refine ⟨_,(aF (pX (i:=2) (j:=3) rfl gC.nd (aA (bW yG lU (aA (aB 0) aD)) (aA (aB 1) aD)))
  (aF (kD PassesOwn.never (aQ gE (aB 3) aC) (aE (pX (i:=2) (j:=3) rfl gC.nd (aA (aB 3) (aA (aJ cW (aB 2) (aB 3)) aD)))))
  (aE (aO (aN (aA (aJ dI (aB 0) (aB 2)) (aA (aJ dI (aB 1) (aB 2)) aD))))))),?_⟩
 have hb0:b ≠ 0:=by omega
 refine kB (fun m ρ M'=>M' = M/\∃ x y:Int,ρ = [some (.int t),some (.int b),some (.int x),some (.int y)]/\m = y.natAbs/\0<=x/\0<=y/\Int.gcd x y = Int.gcd t b) _ ⟨rfl,_,_,rfl,rfl,by split<;>omega,by omega,by
  split<;>simp [Int.neg_gcd]⟩ ?_
 rintro m ρ M' ⟨rfl,x,y,rfl,rfl,hx,hy,g⟩
 decreasing_tactic
 refine dif (fun c=>?_) (fun c=>?_)
 ·have hy':y ≠ 0:=by omega
  exact ⟨hy',_,aAm hy',rfl,y,x.fmod y,rfl,rfl,hy,Int.fmod_nonneg_of_pos _ (by omega),(xX x y).trans g⟩
 ·have hy':y = 0:=by omega
  subst hy'
  have e:x = (Int.gcd t b:Int):=by rw [<- g,Int.gcd_zero_right];omega
  have fin:Q (.tup [.int (fT t b),.int (fB t b)]) M':=by rw [aCT hb0];exact q
  unfold fT fB at fin
  have s1:=aHO (t:=t) hb0
  have s2:=(hB.sg (t:=t) hb0).log (by decide)
  unfold sg at fin s1 s2
  rw [if_neg (by omega),<- e] at fin s1 s2
  exact ⟨⟨s1,Nat.lt_succ_of_lt s2⟩,⟨s1,Nat.lt_succ_of_lt s2⟩,by decide,M',.refl _,fin⟩
noncomputable def pA:DSp:=aA4
noncomputable abbrev rR:Stmt:=top 70
theorem aBE:aR ["_law_one","_law_other"] ["_law_one","_law_other"] (aI rR):=⟨rfl,rfl,rfl,by decide +kernel,rfl,by decide +kernel,by decide +kernel⟩
theorem aAW (hF:bV K mg "_law_plus" rR ["_law_one","_law_other"]) (bG:Has P w K mg base 101 "_law_ratio" ["_law_top","_law_bottom"] fC):Has P w K mg base 102 "_law_plus" ["_law_one","_law_other"] pA:=by
 refine Has.mkZ hF aBE sI fun f cdv A outer s H ds M Q E hr h=>?_
 obtain ⟨p,r,m,n,rfl,_,h1,h2,l,q⟩:=h
 refine ⟨_,(aE (aO (aG bG hr (by decide) (aA (aJ cF (aJ bD (aH (aB 0) aC) (aH (aB 1) aC)) (aJ bD (aH (aB 1) aC) (aH (aB 0) aC))) (aA (aJ bD (aH (aB 0) aC) (aH (aB 1) aC)) aD))))),?_⟩
 decreasing_tactic
 exact ⟨cT h1.1 h2.2 (by omega),cT h2.1 h1.2 (by omega),cT h1.2 h2.2 (by omega),_,_,rfl,Int.mul_pos (den_pos p) (den_pos r),(h1.2.mul h2.2).mono (by omega),M,.refl _,by rw [aLW];exact q⟩
noncomputable def iE:DSp:=aBH
noncomputable abbrev kW:Stmt:=top 71
theorem sD:aR ["_law_one","_law_other"] ["_law_one","_law_other"] (aI kW):=⟨rfl,rfl,rfl,by decide +kernel,rfl,by decide +kernel,by decide +kernel⟩
theorem zK (hF:bV K mg "_law_times" kW ["_law_one","_law_other"]) (bG:Has P w K mg base 101 "_law_ratio" ["_law_top","_law_bottom"] fC):Has P w K mg base 102 "_law_times" ["_law_one","_law_other"] iE:=by
 refine Has.mkZ hF sD sI fun f cdv A outer s H ds M Q E hr h=>?_
 obtain ⟨p,r,m,n,rfl,_,h1,h2,l,q⟩:=h
 refine ⟨_,(aE (aO (aG bG hr (by decide) (aA (aJ bD (aH (aB 0) aC) (aH (aB 1) aC)) (aA (aJ bD (aH (aB 0) aC) (aH (aB 1) aC)) aD))))),?_⟩
 decreasing_tactic
 exact ⟨cT h1.1 h2.1 (by omega),cT h1.2 h2.2 (by omega),_,_,rfl,Int.mul_pos (den_pos p) (den_pos r),(h1.2.mul h2.2).mono (by omega),M,.refl _,by rw [aHV];exact q⟩
theorem aEG {a b:Rat} (ha:0 < a) (hb:0 < b):0 < a / b:=by
 have e:a / b * b = a:=by grind
 rcases (show a / b < 0 ∨ a / b = 0 ∨ 0 < a / b by grind) with c | c | c
 ·have:=Rat.mul_pos (show 0 < -(a / b) by grind) hb
  grind
 ·rw [c] at e;grind
 ·exact c
theorem vI {x:Int} (h1:-10000000<=x) (h2:x<=10000000):Bd 24 x:=by unfold Bd;omega
theorem aFd {t b:Int} (h0:0 < b) (h1:-10000000<=t) (h2:t<=10000000) (h3:b<=10000000):BQ 24 ((t:Rat) / (b:Rat)):=.make (by omega) (vI h1 h2) (vI (by omega) h3)
noncomputable def Wh (q:Rat):Prop:=∃ z:Int,q = (z:Rat)/\-20<=z/\z<=20
noncomputable def nO:DSp:=fun ds M Q=>∃ a b,ds = [.int a,.int b]/\∀ q,BQ 24 q->(b.fmod 5 ≠ 4->b.fmod 3 ≠ 2->Wh q)->Q (FQ q) M
noncomputable abbrev pE:Stmt:=top 72
theorem aAK:aR ["_law_one","_law_other"] ["_law_one","_law_other"] (aI pE):=⟨rfl,rfl,rfl,by decide +kernel,rfl,by decide +kernel,by decide +kernel⟩
theorem zC (hF:bV K mg "_law_drawn" pE ["_law_one","_law_other"]) (bG:Has P w K mg base 101 "_law_ratio" ["_law_top","_law_bottom"] fC):Has P w K mg base 102 "_law_drawn" ["_law_one","_law_other"] nO:=by
 refine Has.mkZ hF aAK (fun ds M Q ⟨a,b,e,_⟩=>by rw [e];rfl) fun f cdv A outer s H ds M Q E hr h=>?_
 obtain ⟨a,b,rfl,q⟩:=h
 refine ⟨_,(aF (aV (aQ (bT hr) (aJ cW (aB 1) aC) aC) (aE (aO (aG bG hr (by decide) (aA (aJ lO (aJ cW (aJ bD (aB 0) aC) aC) aC) (aA (aJ cF aC (aJ cW (aJ bD (aB 1) aC) aC)) aD))))) aS)
  (aE (aO (aG bG hr (by decide) (aA (aJ lO (aJ cW (aB 0) aC) aC) (aA (aJ cF aC (aJ cW (aJ dI (aB 0) aC) (aH (bN (aA aC (aA aC (aA aC aD)))) (aJ cW (aB 1) aC)))) aD)))))),?_⟩
 decreasing_tactic
 simp_arith
 refine ⟨by decide,?_⟩
 by_cases c:b.fmod 5 = 4
 ·rw [if_pos c]
  have h1:=Int.fmod_nonneg_of_pos (a * 7) (show (0:Int) < 1999999 by decide)
  have h2:=Int.fmod_lt_of_pos (a * 7) (show (0:Int) < 1999999 by decide)
  have h3:=Int.fmod_nonneg_of_pos (b * 13) (show (0:Int) < 999999 by decide)
  have h4:=Int.fmod_lt_of_pos (b * 13) (show (0:Int) < 999999 by decide)
  exact ⟨qT (by unfold Bd;decide),by decide,qT (by unfold Bd;decide),by decide,_,_,rfl,by omega,(vI (by omega) (by omega)).mono (by decide),M,.refl _,q _ (aFd (by omega) (by omega) (by omega) (by omega)) fun n=>absurd c n⟩
 ·rw [if_neg c]
  refine ⟨by decide,⟨by decide,by decide +kernel⟩,by decide,fun p hp=>⟨by decide,?_⟩⟩
  have s1:=bC.new hp [.int 1,.int 1,.int 9]
  have h1:=Int.fmod_nonneg_of_pos a (show (0:Int) < 41 by decide)
  have h2:=Int.fmod_lt_of_pos a (show (0:Int) < 41 by decide)
  obtain ⟨k,hk,k0,k1,kw⟩:∃ k:Int,atI [D.int 1,.int 1,.int 9] (b.fmod 3) = some (.int k)/\0 < k/\k<=9/\(b.fmod 3 ≠ 2->k = 1):=by
   have h1:=Int.fmod_nonneg_of_pos b (show (0:Int) < 3 by decide)
   have h2:=Int.fmod_lt_of_pos b (show (0:Int) < 3 by decide)
   have:b.fmod 3 = 0 ∨ b.fmod 3 = 1 ∨ b.fmod 3 = 2:=by omega
   rcases this with e | e | e<;>rw [e]
   ·exact ⟨1,rfl,by decide,by decide,fun _=>rfl⟩
   ·exact ⟨1,rfl,by decide,by decide,fun _=>rfl⟩
   ·exact ⟨9,rfl,by decide,by decide,fun n=>absurd rfl n⟩
  refine ⟨_,_,aK,hk,?_⟩
  decreasing_tactic
  have h3:=Int.fmod_nonneg_of_pos (a.fdiv 41) k0
  have h4:=Int.fmod_lt_of_pos (a.fdiv 41) k0
  refine ⟨by omega,_,_,rfl,by omega,(vI (by omega) (by omega)).mono (by decide),M,s1,q _ (aFd (by omega) (by omega) (by omega) (by omega)) fun _ n=>⟨a.fmod 41 - 20,?_,by omega,by omega⟩⟩
  rw [show 1 + (a.fdiv 41).fmod k = 1 by have:=kw n;omega]
  show _ / (1:Rat) = _
  grind
theorem bqz:BQ 1 0:=⟨by unfold Bd;decide,by unfold Bd;decide⟩
theorem aDv {cx cy px py qx qy:Rat}:aFH cx cy px py qx qy = 0 ↔ gA cx cy px py = gA cx cy qx qy:=by
 unfold aFH
 by_cases c:gA cx cy qx qy < gA cx cy px py
 ·rw [if_pos c]
  exact ⟨fun z=>absurd z (by decide),fun z=>by rw [z] at c;exact absurd c Rat.lt_irrefl⟩
 ·rw [if_neg c]
  by_cases d:gA cx cy px py = gA cx cy qx qy
  ·rw [if_pos d];exact ⟨fun _=>d,fun _=>rfl⟩
  ·rw [if_neg d];exact ⟨fun z=>absurd z (by decide),fun z=>absurd z d⟩
inductive Pl where
 | go (a:Rat) | side (a b:Rat) | skip (a:Rat) | dot | left | right | rnd | mirror | grow (a:Rat) | quarter (a:Rat) | half (a:Rat) | arc (a b c d:Rat)
noncomputable def plD:Pl->D
 | .go a=>.tup [.str "go",FQ a]
 | .side a b=>.tup [.str "side",FQ a,FQ b]
 | .skip a=>.tup [.str "skip",FQ a]
 | .dot=>.tup [.str "dot"]
 | .left=>.tup [.str "left"]
 | .right=>.tup [.str "right"]
 | .rnd=>.tup [.str "round"]
 | .mirror=>.tup [.str "mirror"]
 | .grow a=>.tup [.str "grow",FQ a]
 | .quarter a=>.tup [.str "quarter",FQ a]
 | .half a=>.tup [.str "half",FQ a]
 | .arc a b c d=>.tup [.str "arc",FQ a,FQ b,FQ c,FQ d]
noncomputable def plB (B:Nat):Pl->Prop
 | .go a=>BQ B a
 | .side a b=>BQ B a/\BQ B b
 | .skip a=>BQ B a
 | .grow a=>BQ B a/\0 < a
 | .quarter a=>BQ B a/\a ≠ 0
 | .half a=>BQ B a/\a ≠ 0
 | .arc a b c d=>BQ B a/\BQ B b/\BQ B c/\BQ B d/\¬ (a = 0/\b = 0)/\¬ (a = c/\b = d)/\gA a b 0 0 = gA a b c d
 | _=>True
inductive Lg where
 | st (x y u v:Rat) | bd (a b c d e f:Rat) (w:Int)
noncomputable def lgD:Lg->D
 | .st x y u v=>.tup [.str "straight",PQ x y,PQ u v]
 | .bd a b c d e f w=>.tup [.str "bend",PQ a b,PQ c d,PQ e f,.int w]
noncomputable def aAy:Pl->Option Lg
 | .go a=>some (.st 0 0 a 0)
 | .side a b=>some (.st 0 0 a b)
 | .dot=>some (.st 0 0 0 0)
 | .quarter a=>if 0 < a then some (.bd 0 a 0 0 a a 1) else some (.bd 0 a 0 0 (-a) a (-1))
 | .half a=>some (.bd 0 a 0 0 0 (a + a) (if 0 < a then 1 else -1))
 | .arc a b c d=>some (.bd a b 0 0 c d 1)
 | _=>none
noncomputable def aFa:Pl->Fm
 | .go a=>⟨a,0,0,1,1⟩
 | .side a b=>⟨a,b,0,1,1⟩
 | .skip a=>⟨a,0,0,1,1⟩
 | .dot=>⟨0,0,0,1,1⟩
 | .left=>⟨0,0,1,1,1⟩
 | .right=>⟨0,0,3,1,1⟩
 | .rnd=>⟨0,0,2,1,1⟩
 | .mirror=>⟨0,0,0,-1,1⟩
 | .grow a=>⟨0,0,0,1,a⟩
 | .quarter a=>if 0 < a then ⟨a,a,1,1,1⟩ else ⟨-a,a,3,1,1⟩
 | .half a=>⟨0,a + a,2,1,1⟩
 | .arc _ _ c d=>⟨c,d,0,1,1⟩
noncomputable def lgO:Option Lg->D
 | none=>.non
 | some l=>lgD l
inductive Rw where
 | pl (p:Pl) | ag (n:Nat) (rs:List Rw) | kp (rs:List Rw) | ev (rs:List Rw)
mutual
noncomputable def rwD:Rw->D
 | .pl p=>plD p
 | .ag n rs=>.tup [.str "again",.int (n:Int),.tup (bM rs)]
 | .kp rs=>.tup [.str "keep",.tup (bM rs)]
 | .ev rs=>.tup [.str "ever",.tup (bM rs)]
noncomputable def bM:List Rw->List D
 | []=>[]
 | r :: rs=>rwD r :: bM rs
end
theorem dG:∀ rs:List Rw,bM rs = rs.map rwD
 | []=>rfl
 | r :: rs=>by rw [bM,dG rs,List.map_cons]
noncomputable def Dp:Nat->Rw->Prop
 | _,.pl _=>True
 | 0,_=>False
 | d + 1,.ag n rs=>(n:Int) < 2 ^ 60/\rs.length<=1000/\∀ r ∈ rs,Dp d r
 | d + 1,.kp rs=>rs.length<=1000/\∀ r ∈ rs,Dp d r
 | d + 1,.ev rs=>rs.length<=1000/\∀ r ∈ rs,Dp d r
noncomputable def DpS:Nat->List Rw->Prop
 | 0,_=>False
 | d + 1,rs=>rs.length<=1000/\∀ r ∈ rs,Dp d r
theorem mJ {d n:Nat} {rs:List Rw} (h:Dp d (.ag n rs)):(n:Int) < 2 ^ 60/\DpS d rs:=by
 cases d with
 | zero=>exact h.elim
 | succ d=>exact ⟨h.1,h.2.1,h.2.2⟩
theorem qH {d:Nat} {rs:List Rw} (h:Dp d (.kp rs)):DpS d rs:=by
 cases d with
 | zero=>exact h.elim
 | succ d=>exact h
theorem mG {d:Nat} {rs:List Rw} (h:Dp d (.ev rs)):DpS d rs:=by
 cases d with
 | zero=>exact h.elim
 | succ d=>exact h
theorem kU:∀ {d d':Nat} {r:Rw},Dp d r->d<=d'->Dp d' r
 | _,0,.pl _,_,_=>trivial
 | _,_ + 1,.pl _,_,_=>trivial
 | 0,_,.ag _ _,h,_=>h.elim
 | 0,_,.kp _,h,_=>h.elim
 | 0,_,.ev _,h,_=>h.elim
 | d + 1,0,_,_,l=>absurd l (by omega)
 | d + 1,d' + 1,.ag n rs,h,l=>⟨h.1,h.2.1,fun r hr=>kU (h.2.2 r hr) (by omega)⟩
 | d + 1,d' + 1,.kp rs,h,l=>⟨h.1,fun r hr=>kU (h.2 r hr) (by omega)⟩
 | d + 1,d' + 1,.ev rs,h,l=>⟨h.1,fun r hr=>kU (h.2 r hr) (by omega)⟩
noncomputable def inR:Rw->D
 | .pl _=>.non
 | .ag _ rs=>.tup (bM rs)
 | .kp rs=>.tup (bM rs)
 | .ev rs=>.tup (bM rs)
mutual
noncomputable def dnR:Rw->Nat
 | .pl _=>1
 | .ag n rs=>dnS rs * n
 | .kp rs=>dnS rs
 | .ev rs=>dnS rs
noncomputable def dnS:List Rw->Nat
 | []=>0
 | r :: rs=>dnR r + dnS rs
end
noncomputable abbrev LR:=Lg × Int × List Int
structure Ed where
 f:Fm
 a:Int
 rd:List Int
 ls:List LR
theorem aT {Q:DQ} {d:D} {M:DM} (q:Q d M):Dn Q d M:=⟨M,.refl _,q⟩
theorem iG {rs:List Rw} {i:Nat} {d:D} (h:(bM rs)[i]? = some d):∃ r,rs[i]? = some r/\d = rwD r:=by
 rw [dG,List.getElem?_map] at h
 obtain ⟨r,e,z⟩:=Option.map_eq_some_iff.mp h
 exact ⟨r,e,z.symm⟩
theorem cV (rs:List Rw):(bM rs).length = rs.length:=by rw [dG,List.length_map]
theorem fM {α:Type} {rs:List α} {i:Nat} {r:α} (h:rs[i]? = some r):rs.take (i + 1) = rs.take i ++ [r]:=by
 have hl:=(List.getElem?_eq_some_iff.mp h).1
 have e:rs[i] = r:=(List.getElem?_eq_some_iff.mp h).2
 rw [List.take_succ_eq_append_getElem hl,e]
theorem eE:∀ xs ys:List Rw,dnS (xs ++ ys) = dnS xs + dnS ys
 | [],ys=>by rw [List.nil_append,dnS,Nat.zero_add]
 | x :: xs,ys=>by rw [List.cons_append,dnS,dnS,eE xs ys,Nat.add_assoc]
noncomputable def lrD (x:LR):D:=.tup [lgD x.1,.int x.2.1,.tup (x.2.2.map D.int)]
noncomputable def EdR (M M':DM) (d:D) (e:Ed):Prop:=∃ q:Addr,d = .tup [FmD e.f,.int e.a,.tup (e.rd.map D.int),.ref q]/\M q = none/\M' q = some (e.ls.map lrD)
structure aDk (M M':DM) (ps pe:Addr) (L Es:List D) (ls:List LR) (es:List Ed):Prop where
 s:M' ps = some (L ++ ls.map lrD)
 e:∃ Es',M' pe = some (Es ++ Es')/\Paired (EdR M M') Es' es
 o:∀ k:AK,k ≠ .l ps->k ≠ .l pe->∀ o,M k = some o->M' k = some o
theorem aDd {α β:Type} {F:α->β->Prop}:∀ {l₁:List α} {l₂:List β} {m₁:List α} {m₂:List β},Paired F l₁ l₂->Paired F m₁ m₂->Paired F (l₁ ++ m₁) (l₂ ++ m₂)
 | _,_,_,_,.nil,h=>h
 | _,_,_,_,.cons h₁ t,h=>.cons h₁ (aDd t h)
theorem aDk.trans {M M1 M2:DM} {ps pe:Addr} {L Es Es1:List D} {ls ls2:List LR} {es es2:List Ed} (a1:M ps = some L) (a2:M pe = some Es) (h:aDk M M1 ps pe L Es ls es) (e1:M1 pe = some Es1) (h2:aDk M1 M2 ps pe (L ++ ls.map lrD) Es1 ls2 es2):aDk M M2 ps pe L Es (ls ++ ls2) (es ++ es2):=by
 obtain ⟨Es',e,pr⟩:=h.e
 obtain ⟨Es2,e2,pr2⟩:=h2.e
 have eq:Es1 = Es ++ Es':=by rw [e] at e1;exact (Option.some.inj e1).symm
 subst eq
 refine ⟨by rw [List.map_append,<- List.append_assoc];exact h2.s,⟨Es' ++ Es2,by rw [<- List.append_assoc];exact e2,?_⟩,fun k n1 n2 o q=>h2.o k n1 n2 o (h.o k n1 n2 o q)⟩
 refine aDd (Paired.mapP pr fun d x ⟨q,z,f,l⟩=>⟨q,z,f,?_⟩) (Paired.mapP pr2 fun d x ⟨q,z,f,l⟩=>⟨q,z,?_,l⟩)
 ·have n1:(AK.l q) ≠ .l ps:=fun z=>by rw [z,a1] at f;cases f
  have n2:(AK.l q) ≠ .l pe:=fun z=>by rw [z,a2] at f;cases f
  exact h2.o _ n1 n2 _ l
 ·cases c:M q with
  | none=>rfl
  | some o =>
   have n1:(AK.l q) ≠ .l ps:=fun z=>by rw [z,h.s] at f;cases f
   have n2:(AK.l q) ≠ .l pe:=fun z=>by rw [z,e] at f;cases f
   have:=h.o _ n1 n2 _ c
   rw [f] at this;cases this
noncomputable def lX:DSp:=fun ds M Q=>∃ (p r:Rat) (m n:Nat),ds = [FQ p,FQ r]/\(p ≠ 0/\r ≠ 0)/\BQ m p/\BQ n r/\(m<=4400 ∨ n<=4400)/\m + n<=1000000/\Q (FQ (p * r)) M
theorem aCC {p:Rat} (h:p ≠ 0):p.num ≠ 0:=fun z=>h (Rat.num_eq_zero.mp z)
theorem aDR (hF:bV K mg "times" vZ ["one","other"]) (aY:Has P w K mg base 101 "greatest_divisor" ["one","other"] dN):Has P w K mg base 102 "times" ["one","other"] lX:=by
 refine Has.mkZ hF mE (fun ds M Q ⟨_,_,_,_,z,_⟩=>by rw [z];rfl) fun f cdv A outer s H ds M Q E hr h=>?_
 obtain ⟨p,r,m,n,rfl,⟨p0,r0'⟩,h1,h2,sm,l,q⟩:=h
 refine ⟨_,(aF (aP (i:=2) mE.nd (aG aY hr (by decide) (aA (aH (aB 0) aC) (aA (aH (aB 1) aC) aD))))
  (aF (aP (i:=3) mE.nd (aG aY hr (by decide) (aA (aH (aB 1) aC) (aA (aH (aB 0) aC) aD))))
  (aE (aO (aN (aA (aJ bD (aJ dI (aH (aB 0) aC) (aB 2)) (aJ dI (aH (aB 1) aC) (aB 3))) (aA (aJ bD (aJ dI (aH (aB 0) aC) (aB 3)) (aJ dI (aH (aB 1) aC) (aB 2))) aD))))))),?_⟩
 obtain ⟨f0,r0,fd,rd,e1,e2⟩:=aLJ p r _ _ rfl rfl
 have fl:(Int.gcd p.num r.den:Int) ∣ p.num:=Int.gcd_dvd_left _ _
 have rl:(Int.gcd r.num p.den:Int) ∣ r.num:=Int.gcd_dvd_left _ _
 have cf:∀ x,CFd x (Int.gcd p.num r.den:Int):=fun x=>by
  rcases sm with z | z
  ·exact vU h1.1 (by omega) fl (aCC p0) f0
  ·exact vU h2.2 (by omega) fd (eG r) f0
 have cr:∀ x,CFd x (Int.gcd r.num p.den:Int):=fun x=>by
  rcases sm with z | z
  ·exact vU h1.2 (by omega) rd (eG p) r0
  ·exact vU h2.1 (by omega) rl (aCC r0') r0
 refine ⟨_,_,rfl,_,_,rfl,cf _,cr _,cT (h1.1.fdiv fl) (h2.1.fdiv rl) (by omega),cr _,cf _,cT (h1.2.fdiv rd) (h2.2.fdiv fd) (by omega),by show (2:Nat)<=1000;decide,M,.refl _,?_⟩
 have q':Q (.tup [.int (p * r).num,.int ((p * r).den:Int)]) M:=q
 rw [<- e1,<- e2] at q'
 exact q'
noncomputable def qK:DSp:=fun ds M Q=>∃ t b:Int,ds = [.int t,.int b]/\0 < b/\Bd 8999 (Int.gcd t b:Int)/\Q (FQ ((t:Rat) / (b:Rat))) M
theorem yQ (hF:bV K mg "_law_ratio" lB ["_law_top","_law_bottom"]) (lU:mg "abs" = none):Has P w K mg base 101 "_law_ratio" ["_law_top","_law_bottom"] qK:=by
 refine Has.mkZ hF gC (fun ds M Q ⟨a,b,e,_⟩=>by rw [e];rfl) fun f cdv A outer s H ds M Q E hr h=>?_
 obtain ⟨t,b,rfl,hb,hB,q⟩:=h
 refine ⟨_,(aF (pX (i:=2) (j:=3) rfl gC.nd (aA (bW yG lU (aA (aB 0) aD)) (aA (aB 1) aD)))
  (aF (kD PassesOwn.never (aQ gE (aB 3) aC) (aE (pX (i:=2) (j:=3) rfl gC.nd (aA (aB 3) (aA (aJ cW (aB 2) (aB 3)) aD)))))
  (aE (aO (aN (aA (aJ dI (aB 0) (aB 2)) (aA (aJ dI (aB 1) (aB 2)) aD))))))),?_⟩
 have hb0:b ≠ 0:=by omega
 refine kB (fun m ρ M'=>M' = M/\∃ x y:Int,ρ = [some (.int t),some (.int b),some (.int x),some (.int y)]/\m = y.natAbs/\0<=x/\0<=y/\Int.gcd x y = Int.gcd t b) _ ⟨rfl,_,_,rfl,rfl,by split<;>omega,by omega,by
  split<;>simp [Int.neg_gcd]⟩ ?_
 rintro m ρ M' ⟨rfl,x,y,rfl,rfl,hx,hy,g⟩
 decreasing_tactic
 refine dif (fun c=>?_) (fun c=>?_)
 ·have hy':y ≠ 0:=by omega
  exact ⟨hy',_,aAm hy',rfl,y,x.fmod y,rfl,rfl,hy,Int.fmod_nonneg_of_pos _ (by omega),(xX x y).trans g⟩
 ·have hy':y = 0:=by omega
  subst hy'
  have e:x = (Int.gcd t b:Int):=by rw [<- g,Int.gcd_zero_right];omega
  have fin:Q (.tup [.int (fT t b),.int (fB t b)]) M':=by rw [aCT hb0];exact q
  unfold fT fB at fin
  have s1:=aHO (t:=t) hb0
  have s2:x.natAbs.log2 < 8999:=by rw [e];exact hB.log (by decide)
  unfold sg at fin s1
  rw [if_neg (by omega),<- e] at fin s1
  exact ⟨⟨s1,Nat.lt_succ_of_lt s2⟩,⟨s1,Nat.lt_succ_of_lt s2⟩,by decide,M',.refl _,fin⟩
theorem aDY (p r:Rat):Int.gcd (p.num * r.num) ((p.den:Int) * (r.den:Int)) ∣ r.den * r.num.natAbs:=by
 have h1:Nat.gcd p.num.natAbs p.den = 1:=p.reduced
 have h2:Nat.gcd r.num.natAbs r.den = 1:=r.reduced
 have e:Int.gcd (p.num * r.num) ((p.den:Int) * (r.den:Int)) = Nat.gcd (p.num.natAbs * r.num.natAbs) (p.den * r.den):=by
  rw [Int.gcd_eq_natAbs_gcd_natAbs,Int.natAbs_mul,Int.natAbs_mul,Int.natAbs_natCast,Int.natAbs_natCast]
 rw [e]
 have k1:Nat.gcd (p.num.natAbs * r.num.natAbs) (p.den * r.den) ∣ Nat.gcd (p.num.natAbs * r.num.natAbs) p.den * Nat.gcd (p.num.natAbs * r.num.natAbs) r.den:=Nat.gcd_mul_right_dvd_mul_gcd _ _ _
 refine Nat.dvd_trans k1 ?_
 rw [Nat.mul_comm r.den]
 refine Nat.mul_dvd_mul ?_ (Nat.gcd_dvd_right _ _)
 have g1:=Nat.gcd_dvd_left (p.num.natAbs * r.num.natAbs) p.den
 have g2:=Nat.gcd_dvd_right (p.num.natAbs * r.num.natAbs) p.den
 have co:Nat.Coprime (Nat.gcd (p.num.natAbs * r.num.natAbs) p.den) p.num.natAbs:=Nat.Coprime.coprime_dvd_left g2 (Nat.Coprime.symm h1)
 exact co.dvd_of_dvd_mul_left g1
theorem aEi {p r:Rat} {n:Nat} (h:BQ n r) (r0:r ≠ 0) (l:n + n<=8999):Bd 8999 (Int.gcd (p.num * r.num) ((p.den:Int) * (r.den:Int)):Int):=by
 have rp:0 < r.num.natAbs:=Int.natAbs_pos.mpr (aCC r0)
 have le:=Nat.le_of_dvd (Nat.mul_pos r.den_pos rp) (aDY p r)
 have b:Bd (n + n) ((r.den:Int) * r.num):=h.2.mul h.1
 refine Bd.mono ?_ l
 show (Int.gcd (p.num * r.num) ((p.den:Int) * (r.den:Int)):Int).natAbs < 2 ^ (n + n)
 have b:((r.den:Int) * r.num).natAbs < 2 ^ (n + n):=b
 rw [Int.natAbs_mul,Int.natAbs_natCast] at b
 rw [Int.natAbs_natCast]
 omega
theorem yR (hF:bV K mg "_law_times" kW ["_law_one","_law_other"]) (w_law_ratio:Has P w K mg base 101 "_law_ratio" ["_law_top","_law_bottom"] qK):Has P w K mg base 102 "_law_times" ["_law_one","_law_other"] lX:=by
 refine Has.mkZ hF sD (fun ds M Q ⟨_,_,_,_,z,_⟩=>by rw [z];rfl) fun f cdv A outer s H ds M Q E hr h=>?_
 obtain ⟨p,r,m,n,rfl,⟨p0,r0⟩,h1,h2,sm,l,q⟩:=h
 have bG:=w_law_ratio
 refine ⟨_,(aE (aO (aG bG hr (by decide) (aA (aJ bD (aH (aB 0) aC) (aH (aB 1) aC)) (aA (aJ bD (aH (aB 0) aC) (aH (aB 1) aC)) aD))))),?_⟩
 decreasing_tactic
 refine ⟨cT h1.1 h2.1 (by omega),cT h1.2 h2.2 (by omega),_,_,rfl,Int.mul_pos (den_pos p) (den_pos r),?_,M,.refl _,by rw [aHV];exact q⟩
 rcases sm with z | z
 ·have:=aEi (p:=r) h1 p0 (by omega)
  rw [Int.mul_comm r.num,Int.mul_comm (r.den:Int)] at this
  exact this
 ·exact aEi h2 r0 (by omega)
noncomputable def rF (M:DM) (x:D) (rs:List Rw):Prop:=x = .tup (bM rs) ∨ ∃ a:Addr,x = .ref a/\M a = some (bM rs)
theorem qA {i:Nat} {x:D} {rs:List Rw} {g:DG} {tb:DS} {E:iM} {ρ:cO} {M:DM} (h:ρ[i]? = some (some x)) (ra:rF M x rs) (q:∀ at':Option Addr,(∀ a,at' = some a->M a = some (bM rs))->dIt at' (bM rs) g tb E ρ M):aBo (aAx i) g tb E ρ M:=by
 rcases ra with rfl | ⟨a,rfl,ha⟩
 ·exact aEh h (q none fun a e=>by cases e)
 ·exact aE0 h ha (q (some a) fun b e=>by cases e;exact ha)
theorem wF (p:Pl):∃ w cR,plD p = .tup (.str w :: cR)/\w ≠ "again"/\w ≠ "keep"/\w ≠ "ever":=by
 cases p<;>exact ⟨_,_,rfl,by decide,by decide,by decide⟩
theorem xQ {d:D} {r:List D}:atI (d :: r) 0 = some d:=by
 unfold atI ixN
 rw [if_pos (by decide),if_pos (by rw [List.length_cons];omega)]
 rfl
noncomputable def gX (d:Nat):DSp:=fun ds M Q=>∃ x rs,ds = [x]/\rF M x rs/\DpS d rs/\Q (.int (dnS rs:Int)) M
noncomputable abbrev rB:Stmt:=top 78
theorem fQ:aR ["_law_rows","_law_many","_law_row_here"] ["_law_rows"] (aI rB):=⟨rfl,rfl,rfl,by decide +kernel,rfl,by decide +kernel,by decide +kernel⟩
theorem aBf (hF:bV K mg "_law_done" rB ["_law_rows"]):Has P w K mg base 118 "_law_done" ["_law_rows"] (gX 8):=by
 have all:∀ d,Has P w K mg base (110 + d) "_law_done" ["_law_rows"] (gX d):=fun d=>by
  induction d with
  | zero=>exact (Has.never hF fQ 109).imp fun ds M Q ⟨_,rs,_,_,z,_⟩=>z
  | succ d cQ =>
   refine Has.mkZ (k:=110 + d) hF fQ (fun ds M Q ⟨a,_,z,_⟩=>by rw [z];rfl) fun f cdv A outer s H ds M Q E hr h=>?_
   obtain ⟨x,rs,rfl,ra,dp,q⟩:=h
   refine ⟨_,(aF (aP (i:=1) fQ.nd aC)
  (aF (sS PassesOwn.never rfl (aB 0) (aZ (i:=2) fQ.nd) (aE (aV (aQ (bT hr) (aH (aB 2) aC) aM) (aE (aP (i:=1) fQ.nd (aJ cF (aB 1) (aJ bD (aH (aB 2) aC) (aG cQ hr (by omega) (aA (aH (aB 2) aC) aD)))))) (aE (aV (aQ sT (aH (aB 2) aC) (bN (aA aM (aA aM aD))) rfl) (aE (aP (i:=1) fQ.nd (aJ cF (aB 1) (aG cQ hr (by omega) (aA (aH (aB 2) aC) aD))))) (aE (aP (i:=1) fQ.nd (aJ cF (aB 1) aC))))))))
  (aE (aO (aB 1))))),?_⟩
   decreasing_tactic
   refine qA rfl ra fun at' hat=>?_
   refine ⟨fun i ρ M'=>bC M M'/\∃ o1,ρ = [some x,some (.int (dnS (rs.take i):Int)),o1],⟨.refl _,_,rfl⟩,fun i ρ M' _ h a e=>h.1 _ _ (hat a e),?_,?_⟩
   ·rintro i d1 ρ M1 hd ⟨sub,o1,rfl⟩
    obtain ⟨r,hr',rfl⟩:=iG hd
    have dr:=dp.2 r (List.mem_of_getElem? hr')
    decreasing_tactic
    have fin:dnS (rs.take (i + 1)) = dnS (rs.take i) + dnR r:=by rw [fM hr',eE,dnS,dnS,Nat.add_zero]
    rw [fin]
    cases r with
    | pl p =>
     obtain ⟨w0,cR,e,w1,w2,w3⟩:=wF p
     dsimp only [dnR,rwD]
     rw [e]
     decreasing_tactic
     rw [xQ]
     decreasing_tactic
     rw [aL]
     refine ifF (decide_eq_false w1) ⟨by decide,fun a ha=>⟨["keep","ever"],aK,ifF (by simp [Ne.symm w2,Ne.symm w3]) ?_⟩⟩
     exact ⟨sub.trans (bC.new ha _),_,rfl⟩
    | ag n ws =>
     obtain ⟨hn,dw⟩:=mJ dr
     dsimp only [dnR,rwD]
     decreasing_tactic
     rw [aL]
     refine ifT (by decide) ⟨_,ws,rfl,.inl rfl,dw,oH (by unfold Bd;omega),?_⟩
     rw [Int.natCast_add,Int.natCast_mul,Int.mul_comm (dnS ws:Int)]
     exact ⟨sub,_,rfl⟩
    | kp ws =>
     have dw:=qH dr
     dsimp only [dnR,rwD]
     decreasing_tactic
     rw [aL]
     refine ifF (by decide) ⟨by decide,fun a ha=>⟨["keep","ever"],aK,ifT (by decide) ⟨_,ws,rfl,.inl rfl,dw,?_⟩⟩⟩
     exact ⟨sub.trans (bC.new ha _),_,rfl⟩
    | ev ws =>
     have dw:=mG dr
     dsimp only [dnR,rwD]
     decreasing_tactic
     rw [aL]
     refine ifF (by decide) ⟨by decide,fun a ha=>⟨["keep","ever"],aK,ifT (by decide) ⟨_,ws,rfl,.inl rfl,dw,?_⟩⟩⟩
     exact ⟨sub.trans (bC.new ha _),_,rfl⟩
   ·rintro ρ M' ⟨sub,o1,rfl⟩
    rw [cV,List.take_length]
    exact ⟨M,sub,q⟩
 exact all 8
mutual
noncomputable def drR:Rw->Bool
 | .pl p=>(aAy p).isSome
 | .ag n rs=>n != 0 && drS rs
 | .kp rs=>drS rs
 | .ev rs=>drS rs
noncomputable def drS:List Rw->Bool
 | []=>false
 | r :: rs=>drR r || drS rs
end
theorem aDa:∀ xs ys:List Rw,drS (xs ++ ys) = (drS xs || drS ys)
 | [],ys=>by rw [List.nil_append,drS,Bool.false_or]
 | x :: xs,ys=>by rw [List.cons_append,drS,drS,aDa xs ys,Bool.or_assoc]
theorem aDj (p:Pl) (n:Nat):aW (n + 3) (plD p) = true:=by cases p<;>rfl
theorem sA:∀ (d:Nat) (r:Rw) (k:Nat),Dp d r->aW (k + 2 * d + 3) (rwD r) = true
 | _,.pl p,k,_=>by rw [rwD];exact aDj p _
 | d + 1,.ag n ws,k,h=>by
  have hw:∀ x ∈ bM ws,aW (k + 2 * d + 3) x = true:=fun x hx=>by
   rw [dG] at hx
   obtain ⟨r,hr,rfl⟩:=List.mem_map.mp hx
   exact sA d r k (h.2.2 r hr)
  rw [rwD,show k + 2 * (d + 1) + 3 = (k + 2 * d + 3) + 1 + 1 by omega]
  show ([D.str "again",.int (n:Int),.tup (bM ws)].all (aW (k + 2 * d + 3 + 1))) = true
  rw [List.all_cons,List.all_cons,List.all_cons]
  show (true && (true && (((bM ws).all (aW (k + 2 * d + 3))) && true))) = true
  rw [List.all_eq_true.mpr hw];rfl
 | d + 1,.kp ws,k,h=>by
  have hw:∀ x ∈ bM ws,aW (k + 2 * d + 3) x = true:=fun x hx=>by
   rw [dG] at hx
   obtain ⟨r,hr,rfl⟩:=List.mem_map.mp hx
   exact sA d r k (h.2 r hr)
  rw [rwD,show k + 2 * (d + 1) + 3 = (k + 2 * d + 3) + 1 + 1 by omega]
  show ([D.str "keep",.tup (bM ws)].all (aW (k + 2 * d + 3 + 1))) = true
  rw [List.all_cons,List.all_cons]
  show (true && (((bM ws).all (aW (k + 2 * d + 3))) && true)) = true
  rw [List.all_eq_true.mpr hw];rfl
 | d + 1,.ev ws,k,h=>by
  have hw:∀ x ∈ bM ws,aW (k + 2 * d + 3) x = true:=fun x hx=>by
   rw [dG] at hx
   obtain ⟨r,hr,rfl⟩:=List.mem_map.mp hx
   exact sA d r k (h.2 r hr)
  rw [rwD,show k + 2 * (d + 1) + 3 = (k + 2 * d + 3) + 1 + 1 by omega]
  show ([D.str "ever",.tup (bM ws)].all (aW (k + 2 * d + 3 + 1))) = true
  rw [List.all_cons,List.all_cons]
  show (true && (((bM ws).all (aW (k + 2 * d + 3))) && true)) = true
  rw [List.all_eq_true.mpr hw];rfl
theorem aBF {d:Nat} {ws:List Rw} (h:DpS d ws) (l:d<=9):aW 60 (.tup (bM ws)) = true:=by
 cases d with
 | zero=>exact h.elim
 | succ d =>
  show (bM ws).all (aW 59) = true
  rw [List.all_eq_true]
  intro x hx
  rw [dG] at hx
  obtain ⟨r,hr,rfl⟩:=List.mem_map.mp hx
  have:=sA d r (56 - 2 * d) (h.2 r hr)
  rw [show 56 - 2 * d + 2 * d + 3 = 59 by omega] at this
  exact this
theorem aEI (p:Pl):∃ w cR,plD p = .tup (.str w :: cR)/\(w ≠ "again"/\w ≠ "keep"/\w ≠ "ever")/\id ((["go","side","dot","quarter","half","arc"]:List Str).any fun x=>x == w) = (aAy p).isSome:=by
 cases p with
 | quarter a=>exact ⟨_,_,rfl,by decide,by dsimp only [aAy];split<;>rfl⟩
 | _=>exact ⟨_,_,rfl,by decide,by first | rfl | (dsimp only [aAy];decide)⟩
theorem xK {w:Str} (h:w ≠ "again"/\w ≠ "keep"/\w ≠ "ever"):id ((["again","keep","ever"]:List Str).any fun x=>x == w) = false:=by
 simp [Ne.symm h.1,Ne.symm h.2.1,Ne.symm h.2.2]
noncomputable def iN (d:Nat):DSp:=fun ds M Q=>∃ x rs,ds = [x]/\rF M x rs/\DpS d rs/\Q (.bl (drS rs)) M
noncomputable abbrev pS:Stmt:=top 76
theorem fX:aR ["_law_rows","_law_many","_law_row_here"] ["_law_rows"] (aI pS):=⟨rfl,rfl,rfl,by decide +kernel,rfl,by decide +kernel,by decide +kernel⟩
theorem zM (hF:bV K mg "_law_draws" pS ["_law_rows"]):Has P w K mg base 118 "_law_draws" ["_law_rows"] (iN 8):=by
 have all:∀ d,d<=8->Has P w K mg base (110 + d) "_law_draws" ["_law_rows"] (iN d):=fun d=>by
  induction d with
  | zero=>exact fun _=>(Has.never hF fX 109).imp fun ds M Q ⟨_,rs,_,_,z,_⟩=>z
  | succ d ih =>
   intro ld
   have dE:=ih (by omega)
   refine Has.mkZ (k:=110 + d) hF fX (fun ds M Q ⟨a,_,z,_⟩=>by rw [z];rfl) fun f cdv A outer s H ds M Q E hr h=>?_
   obtain ⟨x,rs,rfl,ra,dp,q⟩:=h
   refine ⟨_,(aF (aP (i:=1) fX.nd aC)
  (aF (sS PassesOwn.never rfl (aB 0) (aZ (i:=2) fX.nd) (aF (aV (aQ sT (aH (aB 2) aC) (bN (aA aM (aA aM (aA aM (aA aM (aA aM (aA aM aD))))))) rfl) (aE (aP (i:=1) fX.nd (aJ cF (aB 1) aC))) aS)
  (aE (aV (fP (eX (aQ sT (aH (aB 2) aC) (bN (aA aM (aA aM (aA aM aD)))) rfl) (eX (aQ (pT hr) (aH (aB 2) aC) aC) (eJ (dL (aG dE hr (by omega) (aA (aH (aB 2) (cU aC)) aD))))))) (aE (aP (i:=1) fX.nd (aJ cF (aB 1) aC))) aS))))
  (aE (aO (cB gE (aB 1) aC))))),?_⟩
   decreasing_tactic
   refine qA rfl ra fun at' hat=>?_
   refine ⟨fun i ρ M'=>bC M M'/\∃ (c:Nat) (o1:Option D),(0 < c ↔ drS (rs.take i) = true)/\ρ = [some x,some (.int (c:Int)),o1],⟨.refl _,0,_,by rw [List.take_zero,drS];simp,rfl⟩,fun i ρ M' _ h a e=>h.1 _ _ (hat a e),?_,?_⟩
   ·rintro i d1 ρ M1 hd ⟨sub,c,o1,hc,rfl⟩
    obtain ⟨r,hr',rfl⟩:=iG hd
    have dr:=dp.2 r (List.mem_of_getElem? hr')
    decreasing_tactic
    have fin:drS (rs.take (i + 1)) = (drS (rs.take i) || drR r):=by rw [fM hr',aDa,drS,drS,Bool.or_false]
    rw [fin]
    cases r with
    | pl p =>
     obtain ⟨w0,cR,e,wb,wl⟩:=aEI p
     dsimp only [drR,rwD]
     rw [e]
     decreasing_tactic
     rw [xQ]
     decreasing_tactic
     refine ⟨by decide,fun a ha=>⟨["go","side","dot","quarter","half","arc"],aK,?_⟩⟩
     rw [wl]
     have s1:=sub.trans (bC.new ha [D.str "go",.str "side",.str "dot",.str "quarter",.str "half",.str "arc"])
     generalize bJ M1 a _ = M2 at s1 ⊢
     cases hg:(aAy p).isSome with
     | true =>
      refine ifT rfl ⟨by decide,fun a2 ha2=>⟨["again","keep","ever"],aK,ifF (xK wb) ?_⟩⟩
      exact ⟨s1.trans (bC.new ha2 _),c + 1,_,by simp,rfl⟩
     | false =>
      refine ifF rfl ⟨by decide,fun a2 ha2=>⟨["again","keep","ever"],aK,ifF (xK wb) ?_⟩⟩
      exact ⟨s1.trans (bC.new ha2 _),c,_,by simpa using hc,rfl⟩
    | ag n ws =>
     have dw:=(mJ dr).2
     dsimp only [drR,rwD]
     decreasing_tactic
     refine ⟨by decide,fun a ha=>⟨["go","side","dot","quarter","half","arc"],aK,ifF (by decide) ?_⟩⟩
     have s1:=sub.trans (bC.new ha [D.str "go",.str "side",.str "dot",.str "quarter",.str "half",.str "arc"])
     generalize bJ M1 a _ = M2 at s1 ⊢
     refine ⟨by decide,fun a2 ha2=>⟨["again","keep","ever"],aK,ifT (by decide) ?_⟩⟩
     have s2:=s1.trans (bC.new ha2 [D.str "again",.str "keep",.str "ever"])
     generalize bJ M2 a2 _ = M3 at s2 ⊢
     rw [bI]
     by_cases n0:n = 0
     ·subst n0
      refine ifF rfl (ifF rfl ⟨s2,c,_,by simpa using hc,rfl⟩)
     ·refine ifT (by rw [decide_eq_false (by omega)];rfl) ⟨_,ws,rfl,.inl rfl,dw,?_⟩
      cases hg:drS ws with
      | true=>exact ifT rfl ⟨s2,c + 1,_,by simp [n0],rfl⟩
      | false=>exact ifF rfl ⟨s2,c,_,by simpa using hc,rfl⟩
    | kp ws =>
     have dw:=qH dr
     dsimp only [drR,rwD]
     decreasing_tactic
     refine ⟨by decide,fun a ha=>⟨["go","side","dot","quarter","half","arc"],aK,ifF (by decide) ?_⟩⟩
     have s1:=sub.trans (bC.new ha [D.str "go",.str "side",.str "dot",.str "quarter",.str "half",.str "arc"])
     generalize bJ M1 a _ = M2 at s1 ⊢
     refine ⟨by decide,fun a2 ha2=>⟨["again","keep","ever"],aK,ifT (by decide) ?_⟩⟩
     have s2:=s1.trans (bC.new ha2 [D.str "again",.str "keep",.str "ever"])
     generalize bJ M2 a2 _ = M3 at s2 ⊢
     refine ⟨aBF dw (by omega),rfl,?_⟩
     refine ifT rfl ⟨_,ws,rfl,.inl rfl,dw,?_⟩
     cases hg:drS ws with
     | true=>exact ifT rfl ⟨s2,c + 1,_,by simp,rfl⟩
     | false=>exact ifF rfl ⟨s2,c,_,by simpa using hc,rfl⟩
    | ev ws =>
     have dw:=mG dr
     dsimp only [drR,rwD]
     decreasing_tactic
     refine ⟨by decide,fun a ha=>⟨["go","side","dot","quarter","half","arc"],aK,ifF (by decide) ?_⟩⟩
     have s1:=sub.trans (bC.new ha [D.str "go",.str "side",.str "dot",.str "quarter",.str "half",.str "arc"])
     generalize bJ M1 a _ = M2 at s1 ⊢
     refine ⟨by decide,fun a2 ha2=>⟨["again","keep","ever"],aK,ifT (by decide) ?_⟩⟩
     have s2:=s1.trans (bC.new ha2 [D.str "again",.str "keep",.str "ever"])
     generalize bJ M2 a2 _ = M3 at s2 ⊢
     refine ⟨aBF dw (by omega),rfl,?_⟩
     refine ifT rfl ⟨_,ws,rfl,.inl rfl,dw,?_⟩
     cases hg:drS ws with
     | true=>exact ifT rfl ⟨s2,c + 1,_,by simp,rfl⟩
     | false=>exact ifF rfl ⟨s2,c,_,by simpa using hc,rfl⟩
   ·rintro ρ M' ⟨sub,c,o1,hc,rfl⟩
    rw [cV,List.take_length] at hc
    decreasing_tactic
    have e:decide ((0:Int) < (c:Int)) = drS rs:=by
     cases hg:drS rs with
     | true=>exact decide_eq_true (by have:=hc.mpr hg;omega)
     | false=>exact decide_eq_false fun z=>by rw [hc.mp (by omega)] at hg;cases hg
    rw [e]
    exact ⟨M,sub,q⟩
 exact all 8 (by decide)
noncomputable def Sz (k:Nat) (x:Rat):Prop:=∃ t b:Nat,(0 < t/\t<=12 ^ k)/\(0 < b/\b<=12 ^ k)/\x * (b:Rat) = (t:Rat)
theorem Sz.one:Sz 0 1:=⟨1,1,by decide,by decide,Rat.one_mul _⟩
theorem Sz.mul {j k:Nat} {x y:Rat} (h:Sz j x) (h2:Sz k y):Sz (j + k) (x * y):=by
 obtain ⟨t,b,⟨t0,t1⟩,⟨b0,b1⟩,e⟩:=h
 obtain ⟨u,c,⟨u0,u1⟩,⟨c0,c1⟩,e2⟩:=h2
 refine ⟨t * u,b * c,⟨Nat.mul_pos t0 u0,?_⟩,⟨Nat.mul_pos b0 c0,?_⟩,?_⟩
 ·rw [Nat.pow_add];exact Nat.mul_le_mul t1 u1
 ·rw [Nat.pow_add];exact Nat.mul_le_mul b1 c1
 ·rw [Rat.natCast_mul,Rat.natCast_mul,<- e,<- e2];grind
theorem Sz.mono {j k:Nat} {x:Rat} (h:Sz j x) (l:j<=k):Sz k x:=by
 obtain ⟨t,b,⟨t0,t1⟩,⟨b0,b1⟩,e⟩:=h
 have:=Nat.pow_le_pow_right (n:=12) (by decide) l
 exact ⟨t,b,⟨t0,by omega⟩,⟨b0,by omega⟩,e⟩
theorem Sz.pow {j:Nat} {x:Rat} (h:Sz j x):∀ n,Sz (j * n) (x ^ n)
 | 0=>by rw [Rat.pow_zero];exact Sz.one
 | n + 1=>by rw [Rat.pow_succ,Nat.mul_succ];exact (h.pow n).mul h
theorem Sz.bq {k:Nat} {x:Rat} (h:Sz k x):BQ (4 * k + 1) x:=by
 obtain ⟨t,b,⟨t0,t1⟩,⟨b0,b1⟩,e⟩:=h
 have p1:12 ^ k<=16 ^ k:=Nat.pow_le_pow_left (by decide) k
 have p2:16 ^ k = 2 ^ (4 * k):=by rw [Nat.pow_mul]
 have p3:2 ^ (4 * k) < 2 ^ (4 * k + 1):=Nat.pow_lt_pow_right (by decide) (by omega)
 have n0:((b:Int):Rat) ≠ 0:=by
  have:=aBM (show (0:Int) < (b:Int) by omega)
  grind
 have es:x = ((t:Int):Rat) / ((b:Int):Rat):=by
  simp only [Rat.intCast_natCast] at n0 ⊢
  grind
 rw [es]
 exact .make (by omega) (by unfold Bd;show t < _;omega) (by unfold Bd;show b < _;omega)
mutual
noncomputable def szR:Rw->Rat
 | .pl (.grow a)=>a
 | .pl _=>1
 | .ag n rs=>szS rs ^ n
 | .kp _=>1
 | .ev _=>1
noncomputable def szS:List Rw->Rat
 | []=>1
 | r :: rs=>szR r * szS rs
end
theorem wE:∀ xs ys:List Rw,szS (xs ++ ys) = szS xs * szS ys
 | [],ys=>by rw [List.nil_append,szS,Rat.one_mul]
 | x :: xs,ys=>by rw [List.cons_append,szS,szS,wE xs ys,Rat.mul_assoc]
mutual
noncomputable def gwR (N:Nat):Rw->Prop
 | .pl (.grow a)=>Sz 1 a
 | .pl _=>True
 | .ag _ rs=>dnS rs<=N/\gwS N rs
 | .kp rs=>dnS rs<=N/\gwS N rs
 | .ev rs=>(1<=dnS rs/\dnS rs<=N)/\gwS N rs
noncomputable def gwS (N:Nat):List Rw->Prop
 | []=>True
 | r :: rs=>gwR N r/\gwS N rs
end
theorem aDe {N:Nat}:∀ {rs:List Rw} {r:Rw},gwS N rs->r ∈ rs->gwR N r
 | x :: xs,r,h,m=>by
  rw [gwS] at h
  rcases List.mem_cons.mp m with rfl | z
  ·exact h.1
  ·exact aDe h.2 z
theorem iK {N:Nat}:∀ {xs ys:List Rw},gwS N (xs ++ ys) ↔ gwS N xs/\gwS N ys
 | [],ys=>by rw [List.nil_append,gwS];simp
 | x :: xs,ys=>by rw [List.cons_append,gwS,gwS,iK,and_assoc]
mutual
theorem aFc {N:Nat}:∀ r:Rw,gwR N r->Sz (dnR r) (szR r)
 | .pl p,h=>by
  cases p with
  | grow a=>rw [gwR] at h;rw [dnR,szR];exact h
  | _ =>
      rw [dnR,szR];· exact Sz.one.mono (by decide)
      all_goals (intro _ z;cases z)
 | .ag n rs,h=>by rw [gwR] at h;rw [dnR,szR];exact (aAh rs h.2).pow n
 | .kp rs,h=>by rw [szR];exact Sz.one.mono (Nat.zero_le _)
 | .ev rs,h=>by rw [szR];exact Sz.one.mono (Nat.zero_le _)
theorem aAh {N:Nat}:∀ rs:List Rw,gwS N rs->Sz (dnS rs) (szS rs)
 | [],_=>by rw [dnS,szS];exact Sz.one
 | r :: rs,h=>by rw [gwS] at h;rw [dnS,szS];exact (aFc r h.1).mul (aAh rs h.2)
end
theorem aBc (p:Pl):(∃ a,p = .grow a) ∨ ∃ w cR,plD p = .tup (.str w :: cR)/\w ≠ "grow"/\w ≠ "again"/\szR (.pl p) = 1:=by
 cases p with
 | grow a=>exact .inl ⟨a,rfl⟩
 | _=>refine .inr ⟨_,_,rfl,by decide,by decide,?_⟩;rw [szR];intro _ z;cases z
noncomputable def pQ (d:Nat):DSp:=fun ds M Q=>∃ x rs,ds = [x]/\rF M x rs/\DpS d rs/\dnS rs<=704/\gwS 704 rs/\Q (FQ (szS rs)) M
theorem aHH {p r:Rat} {j k:Nat} {M:DM} {Q:DQ} (h1:Sz j p) (h2:Sz k r) (l:j + k<=2200) (q:Q (FQ (p * r)) M):iE [FQ p,FQ r] M Q:=⟨_,_,_,_,rfl,trivial,h1.bq,h2.bq,by omega,q⟩
noncomputable abbrev nM:Stmt:=top 75
theorem bY:aR ["_law_rows","_law_size_here","_law_row_here","_law_once","_law_turn"] ["_law_rows"] (aI nM):=⟨rfl,rfl,rfl,by decide +kernel,rfl,by decide +kernel,by decide +kernel⟩
theorem aA9 (hF:bV K mg "_law_size" nM ["_law_rows"]) (jZ:mg "range" = none) (bZ:Has P w K mg base 102 "_law_times" ["_law_one","_law_other"] iE):Has P w K mg base 118 "_law_size" ["_law_rows"] (pQ 8):=by
 have all:∀ d,Has P w K mg base (110 + d) "_law_size" ["_law_rows"] (pQ d):=fun d=>by
  induction d with
  | zero=>exact (Has.never hF bY 109).imp fun ds M Q ⟨_,rs,_,_,z,_⟩=>z
  | succ d fE =>
   refine Has.mkZ (k:=110 + d) hF bY (fun ds M Q ⟨a,_,z,_⟩=>by rw [z];rfl) fun f cdv A outer s H ds M Q E hr h=>?_
   obtain ⟨x,rs,rfl,ra,dp,dn,gw,q⟩:=h
   refine ⟨_,(aF (aP (i:=1) bY.nd (aN (aA aC (aA aC aD))))
  (aF (sS PassesOwn.never rfl (aB 0) (aZ (i:=2) bY.nd) (aF (aV (aQ (bT hr) (aH (aB 2) aC) aM) (aE (aP (i:=1) bY.nd (aG bZ hr (by omega) (aA (aB 1) (aA (aH (aB 2) aC) aD))))) aS)
  (aE (aV (aQ (bT hr) (aH (aB 2) aC) aM) (aF (aP (i:=3) bY.nd (aG fE hr (by omega) (aA (aH (aB 2) aC) aD)))
  (aE (xC PassesOwn.never rfl jZ (aA (aH (aB 2) aC) aD) (aZ (i:=4) bY.nd) (aE (aP (i:=1) bY.nd (aG bZ hr (by omega) (aA (aB 1) (aA (aB 3) aD)))))))) aS))))
  (aE (aO (aB 1))))),?_⟩
   decreasing_tactic
   refine ⟨by decide,?_⟩
   refine qA rfl ra fun at' hat=>?_
   refine ⟨fun i ρ M'=>M' = M/\∃ o1 o2 o3,ρ = [some x,some (FQ (szS (rs.take i))),o1,o2,o3],⟨rfl,_,_,_,rfl⟩,fun i ρ M' _ h a e=>by rw [h.1];exact hat a e,?_,?_⟩
   ·rintro i d1 ρ M1 hd ⟨rfl,o1,o2,o3,rfl⟩
    obtain ⟨r,hr',rfl⟩:=iG hd
    have dr:=dp.2 r (List.mem_of_getElem? hr')
    have gr:=aDe gw (List.mem_of_getElem? hr')
    have gt:gwS 704 (rs.take i):=(iK.mp (by rw [List.take_append_drop];exact gw)).1
    have zt:=aAh _ gt
    have zr:=aFc r gr
    have fin:szS (rs.take (i + 1)) = szS (rs.take i) * szR r:=by rw [fM hr',wE,szS,szS,Rat.mul_one]
    have fdn:dnS (rs.take (i + 1)) = dnS (rs.take i) + dnR r:=by rw [fM hr',eE,dnS,dnS,Nat.add_zero]
    have ldn:dnS (rs.take (i + 1))<=dnS rs:=by
     have:=eE (rs.take (i + 1)) (rs.drop (i + 1))
     rw [List.take_append_drop] at this
     omega
    decreasing_tactic
    rw [fin]
    cases r with
    | pl p =>
     rcases aBc p with ⟨a,rfl⟩ | ⟨w0,cR,e,w1,w2,e1⟩
     ·dsimp only [rwD,plD]
      rw [dnR,szR] at zr
      rw [szR]
      rw [dnR] at fdn
      decreasing_tactic
      rw [aL]
      refine ifT (by decide) (aHH zt zr (by omega) ?_)
      decreasing_tactic
      rw [aL]
      exact ifF (by decide) ⟨rfl,_,_,_,rfl⟩
     ·dsimp only [rwD]
      rw [e,e1,Rat.mul_one]
      decreasing_tactic
      rw [xQ]
      decreasing_tactic
      rw [aL]
      refine ifF (decide_eq_false w1) ?_
      rw [aL]
      exact ifF (decide_eq_false w2) ⟨rfl,_,_,_,rfl⟩
    | ag n ws =>
     obtain ⟨hn,dw⟩:=mJ dr
     rw [gwR] at gr
     have zw:=aAh _ gr.2
     rw [dnR] at fdn
     rw [szR]
     dsimp only [rwD]
     decreasing_tactic
     rw [aL]
     refine ifF (by decide) ?_
     rw [aL]
     refine ifT (by decide) ⟨_,ws,rfl,.inl rfl,dw,gr.1,gr.2,?_⟩
     decreasing_tactic
     refine ⟨⟨by omega,by omega⟩,?_⟩
     rw [Int.toNat_natCast]
     refine ⟨fun j ρ M'=>M' = M1/\∃ o3,ρ = [some x,some (FQ (szS (rs.take i) * szS ws ^ j)),some (.tup [.str "again",.int (n:Int),.tup (bM ws)]),some (FQ (szS ws)),o3],⟨rfl,_,by rw [Rat.pow_zero,Rat.mul_one]⟩,?_,?_⟩
     ·rintro j ρ M' hj ⟨rfl,o3,rfl⟩
      decreasing_tactic
      have m1:dnS ws * (j + 1)<=dnS ws * n:=Nat.mul_le_mul_left _ hj
      rw [Nat.mul_succ] at m1
      have e:szS (rs.take i) * szS ws ^ (j + 1) = szS (rs.take i) * szS ws ^ j * szS ws:=by rw [Rat.pow_succ,Rat.mul_assoc]
      refine aHH (zt.mul (zw.pow j)) zw (by omega) ?_
      rw [<- e]
      exact ⟨rfl,_,rfl⟩
     ·rintro ρ M' ⟨rfl,o3,rfl⟩
      exact ⟨rfl,_,_,_,rfl⟩
    | kp ws =>
     rw [szR,Rat.mul_one]
     dsimp only [rwD]
     decreasing_tactic
     rw [aL]
     refine ifF (by decide) ?_
     rw [aL]
     exact ifF (by decide) ⟨rfl,_,_,_,rfl⟩
    | ev ws =>
     rw [szR,Rat.mul_one]
     dsimp only [rwD]
     decreasing_tactic
     rw [aL]
     refine ifF (by decide) ?_
     rw [aL]
     exact ifF (by decide) ⟨rfl,_,_,_,rfl⟩
   ·rintro ρ M' ⟨rfl,o1,o2,o3,rfl⟩
    rw [cV,List.take_length]
    exact aT q
 exact all 8
noncomputable def enB (rs:List Rw):Bool:=decide (dnS rs<=300) && ((decide (szS rs = 1) || decide (4 * (szS rs).num<=3 * ((szS rs).den:Int))) && drS rs)
noncomputable def kY:DSp:=fun ds M Q=>∃ x rs,ds = [x]/\rF M x rs/\DpS 8 rs/\gwS 704 rs/\Q (.bl (enB rs)) M
noncomputable abbrev fY:Stmt:=top 77
theorem fL:aR ["_law_rows","_law_size_here"] ["_law_rows"] (aI fY):=⟨rfl,rfl,rfl,by decide +kernel,rfl,by decide +kernel,by decide +kernel⟩
theorem qS (hF:bV K mg "_law_is_endless" fY ["_law_rows"]) (cQ:Has P w K mg base 118 "_law_done" ["_law_rows"] (gX 8)) (fE:Has P w K mg base 118 "_law_size" ["_law_rows"] (pQ 8)) (dE:Has P w K mg base 118 "_law_draws" ["_law_rows"] (iN 8)):Has P w K mg base 119 "_law_is_endless" ["_law_rows"] kY:=by
 refine Has.mkZ hF fL (fun ds M Q ⟨_,_,z,_⟩=>by rw [z];rfl) fun f cdv A outer s H ds M Q E hr h=>?_
 obtain ⟨x,rs,rfl,ra,dp,gw,q⟩:=h
 refine ⟨_,(aF (aV (aQ gE (aG cQ hr (by decide) (aA (aB 0) aD)) aC) (aE (aO fU)) aS)
  (aF (aP (i:=1) fL.nd (aG fE hr (by decide) (aA (aB 0) aD)))
  (aE (aO (eD (uK (cB (bT hr) (aB 1) (aN (aA aC (aA aC aD)))) (dR (cB sL (aJ bD aC (aH (aB 1) aC)) (aJ bD aC (aH (aB 1) aC))))) (dR (aG dE hr (by decide) (aA (aB 0) aD)))))))),?_⟩
 decreasing_tactic
 refine ⟨x,rs,rfl,ra,dp,?_⟩
 decreasing_tactic
 unfold enB at q
 by_cases c:dnS rs<=300
 ·refine ifF (decide_eq_false (by omega)) ⟨x,rs,rfl,ra,dp,by omega,gw,?_⟩
  rw [decide_eq_true c,Bool.true_and] at q
  decreasing_tactic
  refine ⟨by decide,?_⟩
  rw [show (D.tup [.int 1,.int 1]) = FQ 1 from rfl,aAA]
  by_cases c1:szS rs = 1
  ·rw [decide_eq_true c1,Bool.true_or,Bool.true_and] at q
   refine ifT (decide_eq_true c1) (ifT rfl ⟨x,rs,rfl,ra,dp,aT q⟩)
  ·rw [decide_eq_false c1,Bool.false_or] at q
   refine ifF (decide_eq_false c1) ⟨oH (by unfold Bd;decide),oH (by unfold Bd;decide),?_⟩
   by_cases c2:4 * (szS rs).num<=3 * ((szS rs).den:Int)
   ·rw [decide_eq_true c2,Bool.true_and] at q
    exact ifT (decide_eq_true c2) ⟨x,rs,rfl,ra,dp,aT q⟩
   ·rw [decide_eq_false c2,Bool.false_and] at q
    exact ifF (decide_eq_false c2) (aT q)
 ·refine ifT (decide_eq_true (by omega)) ?_
  rw [decide_eq_false c,Bool.false_and] at q
  exact aT q
mutual
noncomputable def wR:Rw->Prop
 | .pl (.grow a)=>Sz 1 a
 | .pl _=>True
 | .ag n ws=>wS ws/\dnS ws<=12000/\(∀ r ∈ ws,dnR r<=704 ∨ dnS ws<=dnR r + 704)/\(n<=1 ∨ dnS ws<=704)
 | .kp _=>True
 | .ev _=>True
noncomputable def wS:List Rw->Prop
 | []=>True
 | r :: rs=>wR r/\wS rs
end
noncomputable def loS (rs:List Rw):Prop:=wS rs/\dnS rs<=12000/\∀ r ∈ rs,dnR r<=704 ∨ dnS rs<=dnR r + 704
theorem aCI:∀ {rs:List Rw} {r:Rw},wS rs->r ∈ rs->wR r
 | x :: xs,r,h,m=>by
  rw [wS] at h
  rcases List.mem_cons.mp m with rfl | z
  ·exact h.1
  ·exact aCI h.2 z
theorem aA7:∀ {xs ys:List Rw},wS (xs ++ ys) ↔ wS xs/\wS ys
 | [],ys=>by rw [List.nil_append,wS,true_and]
 | x :: xs,ys=>by rw [List.cons_append,wS,wS,aA7,and_assoc]
mutual
theorem aFx:∀ r:Rw,wR r->Sz (dnR r) (szR r)
 | .pl p,h=>by
  cases p with
  | grow a=>rw [wR] at h;rw [dnR,szR];exact h
  | _ =>
      rw [dnR,szR];· exact Sz.one.mono (by decide)
      all_goals (intro _ z;cases z)
 | .ag n rs,h=>by rw [wR] at h;rw [dnR,szR];exact (xT rs h.1).pow n
 | .kp rs,h=>by rw [szR];exact Sz.one.mono (Nat.zero_le _)
 | .ev rs,h=>by rw [szR];exact Sz.one.mono (Nat.zero_le _)
theorem xT:∀ rs:List Rw,wS rs->Sz (dnS rs) (szS rs)
 | [],_=>by rw [dnS,szS];exact Sz.one
 | r :: rs,h=>by rw [wS] at h;rw [dnS,szS];exact (aFx r h.1).mul (xT rs h.2)
end
theorem aFe {n:Nat} {ws:List Rw} (h:wR (.ag n ws)):loS ws:=by rw [wR] at h;exact ⟨h.1,h.2.1,h.2.2.1⟩
theorem Sz.pos' {k:Nat} {x:Rat} (h:Sz k x):0 < x:=by
 obtain ⟨t,b,⟨t0,_⟩,⟨b0,_⟩,e⟩:=h
 have h1:=aBM (show (0:Int) < (t:Int) by omega)
 have h2:=aBM (show (0:Int) < (b:Int) by omega)
 simp only [Rat.intCast_natCast] at h1 h2
 rw [<- e] at h1
 exact Rat.lt_of_mul_lt_mul_right (by rw [Rat.zero_mul];exact h1) (Rat.le_of_lt h2)
theorem aGR {p r:Rat} {j k:Nat} {M:DM} {Q:DQ} (h1:Sz j p) (h2:Sz k r) (sm:j<=1000 ∨ k<=1000) (l:j + k<=200000) (q:Q (FQ (p * r)) M):lX [FQ p,FQ r] M Q :=
 ⟨_,_,_,_,rfl,⟨fun z=>by have:=h1.pos';rw [z] at this;exact absurd this (by decide),fun z=>by have:=h2.pos';rw [z] at this;exact absurd this (by decide)⟩,h1.bq,h2.bq,by omega,by omega,q⟩
noncomputable def nK (d:Nat):DSp:=fun ds M Q=>∃ x rs,ds = [x]/\rF M x rs/\DpS d rs/\loS rs/\Q (FQ (szS rs)) M
theorem aAD (hF:bV K mg "_law_size" nM ["_law_rows"]) (jZ:mg "range" = none) (w_law_times:Has P w K mg base 102 "_law_times" ["_law_one","_law_other"] lX):Has P w K mg base 118 "_law_size" ["_law_rows"] (nK 8):=by
 have bZ:=w_law_times
 have all:∀ d,Has P w K mg base (110 + d) "_law_size" ["_law_rows"] (nK d):=fun d=>by
  induction d with
  | zero=>exact (Has.never hF bY 109).imp fun ds M Q ⟨_,rs,_,_,z,_⟩=>z
  | succ d fE =>
   refine Has.mkZ (k:=110 + d) hF bY (fun ds M Q ⟨a,_,z,_⟩=>by rw [z];rfl) fun f cdv A outer s H ds M Q E hr h=>?_
   obtain ⟨x,rs,rfl,ra,dp,⟨gw,dn,one⟩,q⟩:=h
   refine ⟨_,(aF (aP (i:=1) bY.nd (aN (aA aC (aA aC aD))))
  (aF (sS PassesOwn.never rfl (aB 0) (aZ (i:=2) bY.nd) (aF (aV (aQ (bT hr) (aH (aB 2) aC) aM) (aE (aP (i:=1) bY.nd (aG bZ hr (by omega) (aA (aB 1) (aA (aH (aB 2) aC) aD))))) aS)
  (aE (aV (aQ (bT hr) (aH (aB 2) aC) aM) (aF (aP (i:=3) bY.nd (aG fE hr (by omega) (aA (aH (aB 2) aC) aD)))
  (aE (xC PassesOwn.never rfl jZ (aA (aH (aB 2) aC) aD) (aZ (i:=4) bY.nd) (aE (aP (i:=1) bY.nd (aG bZ hr (by omega) (aA (aB 1) (aA (aB 3) aD)))))))) aS))))
  (aE (aO (aB 1))))),?_⟩
   decreasing_tactic
   refine ⟨by decide,?_⟩
   refine qA rfl ra fun at' hat=>?_
   refine ⟨fun i ρ M'=>M' = M/\∃ o1 o2 o3,ρ = [some x,some (FQ (szS (rs.take i))),o1,o2,o3],⟨rfl,_,_,_,rfl⟩,fun i ρ M' _ h a e=>by rw [h.1];exact hat a e,?_,?_⟩
   ·rintro i d1 ρ M1 hd ⟨rfl,o1,o2,o3,rfl⟩
    obtain ⟨r,hr',rfl⟩:=iG hd
    have dr:=dp.2 r (List.mem_of_getElem? hr')
    have gr:=aCI gw (List.mem_of_getElem? hr')
    have on:=one r (List.mem_of_getElem? hr')
    have gt:wS (rs.take i):=(aA7.mp (by rw [List.take_append_drop];exact gw)).1
    have zt:=xT _ gt
    have zr:=aFx r gr
    have fin:szS (rs.take (i + 1)) = szS (rs.take i) * szR r:=by rw [fM hr',wE,szS,szS,Rat.mul_one]
    have fdn:dnS (rs.take (i + 1)) = dnS (rs.take i) + dnR r:=by rw [fM hr',eE,dnS,dnS,Nat.add_zero]
    have ldn:dnS (rs.take (i + 1))<=dnS rs:=by
     have:=eE (rs.take (i + 1)) (rs.drop (i + 1))
     rw [List.take_append_drop] at this
     omega
    decreasing_tactic
    rw [fin]
    cases r with
    | pl p =>
     rcases aBc p with ⟨a,rfl⟩ | ⟨w0,cR,e,w1,w2,e1⟩
     ·dsimp only [rwD,plD]
      rw [dnR,szR] at zr
      rw [szR]
      rw [dnR] at fdn
      decreasing_tactic
      rw [aL]
      refine ifT (by decide) (aGR zt zr (.inr (by decide)) (by omega) ?_)
      decreasing_tactic
      rw [aL]
      exact ifF (by decide) ⟨rfl,_,_,_,rfl⟩
     ·dsimp only [rwD]
      rw [e,e1,Rat.mul_one]
      decreasing_tactic
      rw [xQ]
      decreasing_tactic
      rw [aL]
      refine ifF (decide_eq_false w1) ?_
      rw [aL]
      exact ifF (decide_eq_false w2) ⟨rfl,_,_,_,rfl⟩
    | ag n ws =>
     obtain ⟨hn,dw⟩:=mJ dr
     have lg:=aFe gr
     rw [wR] at gr
     have zw:=xT _ gr.1
     rw [dnR] at fdn on
     rw [szR]
     dsimp only [rwD]
     decreasing_tactic
     rw [aL]
     refine ifF (by decide) ?_
     rw [aL]
     refine ifT (by decide) ⟨_,ws,rfl,.inl rfl,dw,lg,?_⟩
     decreasing_tactic
     refine ⟨⟨by omega,by omega⟩,?_⟩
     rw [Int.toNat_natCast]
     refine ⟨fun j ρ M'=>M' = M1/\∃ o3,ρ = [some x,some (FQ (szS (rs.take i) * szS ws ^ j)),some (.tup [.str "again",.int (n:Int),.tup (bM ws)]),some (FQ (szS ws)),o3],⟨rfl,_,by rw [Rat.pow_zero,Rat.mul_one]⟩,?_,?_⟩
     ·rintro j ρ M' hj ⟨rfl,o3,rfl⟩
      decreasing_tactic
      have m1:dnS ws * (j + 1)<=dnS ws * n:=Nat.mul_le_mul_left _ hj
      rw [Nat.mul_succ] at m1
      have e:szS (rs.take i) * szS ws ^ (j + 1) = szS (rs.take i) * szS ws ^ j * szS ws:=by rw [Rat.pow_succ,Rat.mul_assoc]
      have sm:dnS (rs.take i) + dnS ws * j<=1000 ∨ dnS ws<=1000:=by
       rcases gr.2.2.2 with z | z
       ·obtain ⟨rfl,rfl⟩:j = 0/\n = 1:=by omega
        rw [Nat.mul_one] at fdn on
        rw [Nat.mul_zero]
        omega
       ·exact .inr (by omega)
      refine aGR (zt.mul (zw.pow j)) zw sm (by omega) ?_
      rw [<- e]
      exact ⟨rfl,_,rfl⟩
     ·rintro ρ M' ⟨rfl,o3,rfl⟩
      exact ⟨rfl,_,_,_,rfl⟩
    | kp ws =>
     rw [szR,Rat.mul_one]
     dsimp only [rwD]
     decreasing_tactic
     rw [aL]
     refine ifF (by decide) ?_
     rw [aL]
     exact ifF (by decide) ⟨rfl,_,_,_,rfl⟩
    | ev ws =>
     rw [szR,Rat.mul_one]
     dsimp only [rwD]
     decreasing_tactic
     rw [aL]
     refine ifF (by decide) ?_
     rw [aL]
     exact ifF (by decide) ⟨rfl,_,_,_,rfl⟩
   ·rintro ρ M' ⟨rfl,o1,o2,o3,rfl⟩
    rw [cV,List.take_length]
    exact aT q
 exact all 8
noncomputable def kE:DSp:=fun ds M Q=>∃ x rs,ds = [x]/\rF M x rs/\DpS 8 rs/\(dnS rs<=300->loS rs)/\Q (.bl (enB rs)) M
theorem rG (hF:bV K mg "_law_is_endless" fY ["_law_rows"]) (cQ:Has P w K mg base 118 "_law_done" ["_law_rows"] (gX 8)) (w_law_size:Has P w K mg base 118 "_law_size" ["_law_rows"] (nK 8)) (dE:Has P w K mg base 118 "_law_draws" ["_law_rows"] (iN 8)):Has P w K mg base 119 "_law_is_endless" ["_law_rows"] kE:=by
 refine Has.mkZ hF fL (fun ds M Q ⟨_,_,z,_⟩=>by rw [z];rfl) fun f cdv A outer s H ds M Q E hr h=>?_
 obtain ⟨x,rs,rfl,ra,dp,gw,q⟩:=h
 have fE:=w_law_size
 refine ⟨_,(aF (aV (aQ gE (aG cQ hr (by decide) (aA (aB 0) aD)) aC) (aE (aO fU)) aS)
  (aF (aP (i:=1) fL.nd (aG fE hr (by decide) (aA (aB 0) aD)))
  (aE (aO (eD (uK (cB (bT hr) (aB 1) (aN (aA aC (aA aC aD)))) (dR (cB sL (aJ bD aC (aH (aB 1) aC)) (aJ bD aC (aH (aB 1) aC))))) (dR (aG dE hr (by decide) (aA (aB 0) aD)))))))),?_⟩
 decreasing_tactic
 refine ⟨x,rs,rfl,ra,dp,?_⟩
 decreasing_tactic
 unfold enB at q
 by_cases c:dnS rs<=300
 ·refine ifF (decide_eq_false (by omega)) ⟨x,rs,rfl,ra,dp,gw c,?_⟩
  rw [decide_eq_true c,Bool.true_and] at q
  decreasing_tactic
  refine ⟨by decide,?_⟩
  rw [show (D.tup [.int 1,.int 1]) = FQ 1 from rfl,aAA]
  by_cases c1:szS rs = 1
  ·rw [decide_eq_true c1,Bool.true_or,Bool.true_and] at q
   refine ifT (decide_eq_true c1) (ifT rfl ⟨x,rs,rfl,ra,dp,aT q⟩)
  ·rw [decide_eq_false c1,Bool.false_or] at q
   refine ifF (decide_eq_false c1) ⟨oH (by unfold Bd;decide),oH (by unfold Bd;decide),?_⟩
   by_cases c2:4 * (szS rs).num<=3 * ((szS rs).den:Int)
   ·rw [decide_eq_true c2,Bool.true_and] at q
    exact ifT (decide_eq_true c2) ⟨x,rs,rfl,ra,dp,aT q⟩
   ·rw [decide_eq_false c2,Bool.false_and] at q
    exact ifF (decide_eq_false c2) (aT q)
 ·refine ifT (decide_eq_true (by omega)) ?_
  rw [decide_eq_false c,Bool.false_and] at q
  exact aT q
structure En where
 wd:Str
 n:Nat
 a:Addr
 rs:List Rw
noncomputable def enD (e:En):D:=.tup [.str e.wd,.int (e.n:Int),.ref e.a]
noncomputable def fO (M M':DM) (as:List Addr):Prop:=∀ k:AK,(∀ a ∈ as,k ≠ .l a)->∀ x,M k = some x->M' k = some x
theorem fO.refl {M:DM} {as:List Addr}:fO M M as:=fun _ _ _ e=>e
theorem fO.sub {M M' M'':DM} {as:List Addr} (h:fO M M' as) (s:bC M' M''):fO M M'' as:=fun k n x e=>s _ _ (h k n x e)
theorem fO.put {M M':DM} {as:List Addr} {a:Addr} {L:List D} (h:fO M M' as) (m:a ∈ as):fO M (bJ M' a L) as:=fun k n x e=>by rw [aB4 (n a m)];exact h k n x e
theorem fO.mono {M M':DM} {as bs:List Addr} (h:fO M M' as) (s:∀ a ∈ as,a ∈ bs):fO M M' bs:=fun k n x e=>h k (fun a m=>n a (s a m)) x e
noncomputable def dS (rs:List Rw):List Rw:=rs ++ List.replicate (if drS rs then 0 else 1) (.pl .dot)
noncomputable def cI (rs:List Rw):List Rw:=dS rs ++ List.replicate (if enB (dS rs) then 0 else 1) (.pl (.grow (1 / 12)))
noncomputable def clE (wd:Str) (n:Nat) (rs:List Rw):Rw:=if wd = "again" then .ag (if 90 < n * dnS rs then 1 else n) rs else if wd = "ever" then (if enB (cI rs) then .ev (cI rs) else .kp (cI rs)) else .kp rs
theorem Dp.up:∀ {d:Nat} {r:Rw},Dp d r->Dp (d + 1) r
 | _,.pl _,_=>trivial
 | d + 1,.ag n rs,h=>⟨h.1,h.2.1,fun r hr=>Dp.up (h.2.2 r hr)⟩
 | d + 1,.kp rs,h=>⟨h.1,fun r hr=>Dp.up (h.2 r hr)⟩
 | d + 1,.ev rs,h=>⟨h.1,fun r hr=>Dp.up (h.2 r hr)⟩
theorem DpS.up {d:Nat} {rs:List Rw} (h:DpS d rs):DpS (d + 1) rs:=by
 cases d with
 | zero=>exact h.elim
 | succ d=>exact ⟨h.1,fun r hr=>Dp.up (h.2 r hr)⟩
theorem lV (xs ys:List Rw):bM (xs ++ ys) = bM xs ++ bM ys:=by rw [dG,dG,dG,List.map_append]
theorem aDB (r:Rw) (n:Nat):bM (List.replicate n r) = List.replicate n (rwD r):=by rw [dG,List.map_replicate]
theorem aMc:rwD (.pl (.grow (1 / 12))) = D.tup [.str "grow",.tup [.int 1,.int 12]]:=by
 show D.tup [.str "grow",FQ (1 / 12)] = _
 unfold FQ
 rw [show (1 / 12:Rat).num = 1 by decide +kernel,show (1 / 12:Rat).den = 12 by decide +kernel];rfl
theorem aLm {p:Addr} {d:D} {r:Rw} {b:Bool} {M:DM} {Q:DQ} (hp:M p = some [d]) (hr:rwD r = d) (q:∀ p2:Addr,M p2 = none->Q (.ref p2) (bJ M p2 (bM (List.replicate (if b then 0 else 1) r)))):aHC (.ref p) (.int (if (!b) = true then 1 else 0)) M Q:=by
 refine ⟨_,hp,by simp,by split<;>decide,by split<;>decide,by split<;>simp,fun p2 hp2=>?_⟩
 have:=q p2 hp2
 rw [aDB,hr] at this
 cases b with
 | true=>exact this
 | false=>exact this
theorem aAz {N n:Nat} {r:Rw} (h:gwR N r):gwS N (List.replicate n r):=by
 induction n with
 | zero=>rw [List.replicate_zero,gwS];trivial
 | succ n ih=>rw [List.replicate_succ,gwS];exact ⟨h,ih⟩
theorem aCY {d N:Nat} {xs ys:List Rw} (h:DpS (d + 1) xs) (l:(xs ++ ys).length<=N) (hy:∀ r ∈ ys,Dp d r) (lN:N<=1000:=by decide):DpS (d + 1) (xs ++ ys) :=
 ⟨by omega,fun r hr=>(List.mem_append.mp hr).elim (h.2 r) (hy r)⟩
theorem aE2 {xs:List D} {d:D}:atI (xs ++ [d]) (-1) = some d:=by
 unfold atI ixN
 rw [if_neg (by decide),if_pos (by rw [List.length_append,List.length_cons,List.length_nil];omega)]
 rw [List.length_append,List.length_cons,List.length_nil]
 show (xs ++ [d])[((-1:Int) + ((xs.length + (0 + 1):Nat):Int)).toNat]? = some d
 rw [show ((-1:Int) + ((xs.length + (0 + 1):Nat):Int)).toNat = xs.length by omega]
 simp
noncomputable def mR:DSp:=fun ds M Q=>∃ (st:Addr) (es:List En) (u e:En),ds = [.ref st]/\M st = some ((es ++ [u,e]).map enD)/\es.length<=20/\(st ≠ u.a/\st ≠ e.a/\u.a ≠ e.a)/\M u.a = some (bM u.rs)/\M e.a = some (bM e.rs)/\(e.wd = "again" ∨ e.wd = "keep" ∨ e.wd = "ever")/\e.n<=12/\DpS 7 e.rs/\gwS 704 e.rs/\u.rs.length<=900/\e.rs.length<=900/\dnS e.rs<=2000 /\
 ∀ M',M' st = some ((es ++ [u]).map enD)->M' u.a = some (bM (u.rs ++ [clE e.wd e.n e.rs]))->fO M M' [st,u.a]->Q .non M'
noncomputable abbrev nY:Stmt:=top 79
theorem dO:aR ["_law_stack","_law_word","_law_many","_law_rows","_law_block"] ["_law_stack"] (aI nY):=⟨rfl,rfl,rfl,by decide +kernel,rfl,by decide +kernel,by decide +kernel⟩
theorem yT (hF:bV K mg "_law_close" nY ["_law_stack"]) (iO:mg "int" = none) (cY:mg "tuple" = none) (cQ:Has P w K mg base 118 "_law_done" ["_law_rows"] (gX 8)) (dW:Has P w K mg base 119 "_law_is_endless" ["_law_rows"] kY) (dE:Has P w K mg base 118 "_law_draws" ["_law_rows"] (iN 8)):Has P w K mg base 120 "_law_close" ["_law_stack"] mR:=by
 refine Has.mkZ hF dO (fun ds M Q ⟨_,_,_,_,z,_⟩=>by rw [z];rfl) fun f cdv A outer s H ds M Q E hr h=>?_
 obtain ⟨st,es,u,e,rfl,hst,les,⟨n1,n2,n3⟩,hu,he,hw,hn,dp,gw,lu,le,dn,q⟩:=h
 refine ⟨_,(aF (jT (aCW (aB 0)) (jR (n:=3) rfl (bX (aZ (i:=1) dO.nd) (bX (aZ (i:=2) dO.nd) (bX (aZ (i:=3) dO.nd) hZ)))))
  (kK (aV (aQ (bT hr) (aB 1) aM) (aF (aP (i:=3) dO.nd (aJ cF (aB 3) (aJ aCM (bN (aA (aN (aA aM aD)) aD)) (eP uQ iO (aA (qD (aG dE hr (by decide) (aA (aB 3) aD))) aD)))))
  (aF (aP (i:=3) dO.nd (aJ cF (aB 3) (aJ aCM (bN (aA (aN (aA aM (aA (aN (aA aC (aA aC aD))) aD))) aD)) (eP uQ iO (aA (qD (aG dW hr (by decide) (aA (aB 3) aD))) aD)))))
  (aE (aP (i:=1) dO.nd (aH (bN (aA aM (aA aM aD))) (eP uQ iO (aA (aG dW hr (by decide) (aA (aB 3) aD)) aD))))))) aS)
  (aF (aP (i:=4) dO.nd (aN (aA (aB 1) (aA (eP tG cY (aA (aB 3) aD)) aD))))
  (kK (aV (aQ (bT hr) (aB 1) aM) (aE (aP (i:=4) dO.nd (aN (aA (aB 1) (aA (aH (bN (aA (aB 2) (aA aC aD))) (eP uQ iO (aA (cB gE (aJ bD (aB 2) (aG cQ hr (by decide) (aA (aB 3) aD))) aC) aD))) (aA (eP tG cY (aA (aB 3) aD)) aD)))))) aS)
  (aE (fG (iT (aH (aH (aB 0) (cU aC)) aC) (aB 4)))))))),?_⟩
 decreasing_tactic
 have el:((es ++ [u,e]).map enD) = (es ++ [u]).map enD ++ [enD e]:=by simp
 have ll:((es ++ [u,e]).map enD)[((es ++ [u,e]).map enD).length - 1]? = some (enD e):=by rw [el];simp
 have ld:((es ++ [u,e]).map enD).dropLast = (es ++ [u]).map enD:=by rw [el];simp
 refine ⟨_,_,hst,ll,?_⟩
 rw [ld]
 rw [show enD e = .tup [.str e.wd,.int (e.n:Int),.ref e.a] from rfl]
 decreasing_tactic
 have k0:fO M (bJ M st ((es ++ [u]).map enD)) [st]:=fO.refl.put (List.mem_singleton.mpr rfl)
 have st0:bJ M st ((es ++ [u]).map enD) st = some ((es ++ [u]).map enD):=aK
 have he0:bJ M st ((es ++ [u]).map enD) e.a = some (bM e.rs):=by rw [gJ (Ne.symm n2)];exact he
 have hu0:bJ M st ((es ++ [u]).map enD) u.a = some (bM u.rs):=by rw [gJ (Ne.symm n1)];exact hu
 generalize bJ M st ((es ++ [u]).map enD) = M0 at k0 st0 he0 hu0
 refine ⟨rfl,fun ρ' M'=>∃ (wd2:Str) (la:Addr) (rs2:List Rw),ρ' = [some (.ref st),some (.str wd2),some (.int (e.n:Int)),some (.ref la),none]/\M' la = some (bM rs2)/\M' st = some ((es ++ [u]).map enD)/\M' u.a = some (bM u.rs)/\fO M M' [st]/\(e.wd = "ever"->rs2 = cI e.rs/\wd2 = if enB (cI e.rs) then ("ever":Str) else "keep")/\(e.wd ≠ "ever"->rs2 = e.rs/\wd2 = e.wd),?_,?_⟩
 ·rw [aL]
  by_cases ce:e.wd = "ever"
  ·refine ifT (decide_eq_true ce) ⟨by decide,by decide,fun p hp=>?_⟩
   have s1:=bC.new hp [D.tup [D.str "dot"]]
   refine ⟨_,e.rs,rfl,.inr ⟨_,rfl,s1 _ _ he0⟩,DpS.up dp,?_⟩
   decreasing_tactic
   refine aLm aK (r:=.pl .dot) rfl fun p2 hp2=>?_
   have s2:=s1.trans (bC.new hp2 (bM (List.replicate (if drS e.rs then 0 else 1) (.pl .dot))))
   have hp2':bJ (bJ M0 p [D.tup [D.str "dot"]]) p2 (bM (List.replicate (if drS e.rs then 0 else 1) (.pl .dot))) p2 = some (bM (List.replicate (if drS e.rs then 0 else 1) (.pl .dot))):=aK
   generalize bJ (bJ M0 p [D.tup [D.str "dot"]]) p2 _ = M2 at s2 hp2' ⊢
   decreasing_tactic
   have l1:(dS e.rs).length<=901:=by
    unfold dS
    rw [List.length_append,List.length_replicate]
    split<;>omega
   refine ⟨_,_,s2 _ _ he0,hp2',by rw [cV,cV,List.length_replicate];split<;>omega,fun p3 hp3=>?_⟩
   rw [<- lV,show e.rs ++ List.replicate (if drS e.rs then 0 else 1) (.pl .dot) = dS e.rs from rfl]
   have s3:=s2.trans (bC.new hp3 (bM (dS e.rs)))
   have h3:bJ M2 p3 (bM (dS e.rs)) p3 = some (bM (dS e.rs)):=aK
   generalize bJ M2 p3 _ = M3 at s3 h3 ⊢
   refine ⟨by decide,by decide,by decide,fun p4 hp4=>?_⟩
   have s4:=bC.new hp4 [D.tup [D.str "grow",D.tup [D.int 1,D.int 12]]]
   have d1:DpS 8 (dS e.rs):=aCY (DpS.up dp) l1 fun r hr=>by
    rw [(List.mem_replicate.mp hr).2];trivial
   have g1:gwS 704 (dS e.rs):=iK.mpr ⟨gw,aAz (by rw [gwR];trivial;intro _ z;cases z)⟩
   refine ⟨_,dS e.rs,rfl,.inr ⟨_,rfl,s4 _ _ h3⟩,d1,g1,?_⟩
   decreasing_tactic
   refine aLm aK (r:=.pl (.grow (1 / 12))) aMc fun p5 hp5=>?_
   have s5:=s4.trans (bC.new hp5 (bM (List.replicate (if enB (dS e.rs) then 0 else 1) (.pl (.grow (1 / 12))))))
   have h5:bJ (bJ M3 p4 [D.tup [D.str "grow",D.tup [D.int 1,D.int 12]]]) p5 (bM (List.replicate (if enB (dS e.rs) then 0 else 1) (.pl (.grow (1 / 12))))) p5 = some (bM (List.replicate (if enB (dS e.rs) then 0 else 1) (.pl (.grow (1 / 12))))):=aK
   generalize bJ (bJ M3 p4 [D.tup [D.str "grow",D.tup [D.int 1,D.int 12]]]) p5 _ = M5 at s5 h5 ⊢
   decreasing_tactic
   have l2:(cI e.rs).length<=902:=by
    unfold cI
    rw [List.length_append,List.length_replicate]
    split<;>omega
   refine ⟨_,_,s5 _ _ h3,h5,by rw [cV,cV,List.length_replicate];split<;>omega,fun p6 hp6=>?_⟩
   rw [<- lV,show dS e.rs ++ List.replicate (if enB (dS e.rs) then 0 else 1) (.pl (.grow (1 / 12))) = cI e.rs from rfl]
   have s6:=s5.trans (bC.new hp6 (bM (cI e.rs)))
   have h6:bJ M5 p6 (bM (cI e.rs)) p6 = some (bM (cI e.rs)):=aK
   generalize bJ M5 p6 _ = M6 at s6 h6 ⊢
   refine ⟨by decide,fun p7 hp7=>?_⟩
   have s7:=bC.new hp7 [D.str "keep",D.str "ever"]
   have h7:bJ M6 p7 [D.str "keep",D.str "ever"] p7 = some [D.str "keep",D.str "ever"]:=aK
   generalize bJ M6 p7 _ = M7 at s7 h7 ⊢
   have d2:DpS 8 (cI e.rs):=aCY d1 l2 fun r hr=>by
    rw [(List.mem_replicate.mp hr).2];trivial
   have g2:gwS 704 (cI e.rs):=iK.mpr ⟨g1,aAz (by rw [gwR];exact ⟨1,12,by decide,by decide,by decide +kernel⟩)⟩
   refine ⟨_,cI e.rs,rfl,.inr ⟨_,rfl,s7 _ _ h6⟩,d2,g2,?_⟩
   decreasing_tactic
   have fs:bC M0 M7:=(s3.trans s6).trans s7
   cases hb:enB (cI e.rs) with
   | true=>exact ⟨_,_,h7,rfl,_,_,_,rfl,s7 _ _ h6,fs _ _ st0,fs _ _ hu0,k0.sub fs,fun _=>⟨rfl,by rw [if_pos rfl]⟩,fun z=>absurd ce z⟩
   | false=>exact ⟨_,_,h7,rfl,_,_,_,rfl,s7 _ _ h6,fs _ _ st0,fs _ _ hu0,k0.sub fs,fun _=>⟨rfl,by rw [if_neg (by decide)]⟩,fun z=>absurd ce z⟩
  ·exact ifF (decide_eq_false ce) ⟨_,_,_,rfl,he0,st0,hu0,k0,fun z=>absurd z ce,fun _=>⟨rfl,rfl⟩⟩
 rintro ρ' M1 ⟨wd2,la,rs2,rfl,hla,hst1,hu1,k1,ev1,ne1⟩
 decreasing_tactic
 refine ⟨_,hla,by decide,fun ρ' M'=>∃ o1 o2 o3 b,ρ' = [some (.ref st),o1,o2,o3,some b]/\b = rwD (clE e.wd e.n e.rs)/\M' st = some ((es ++ [u]).map enD)/\M' u.a = some (bM u.rs)/\fO M M' [st],?_,?_⟩
 ·rw [aL]
  by_cases ca:wd2 = "again"
  ·have ea:e.wd = "again":=by
    by_cases ce:e.wd = "ever"
    ·have:=(ev1 ce).2
     rw [ca] at this
     cases hb:enB (cI e.rs)<;>rw [hb] at this<;>exact absurd this (by decide)
    ·rw [<- (ne1 ce).2];exact ca
   obtain ⟨rfl,_⟩:=ne1 (by rw [ea];decide)
   refine ifT (decide_eq_true ca) ⟨by decide,fun p hp=>?_⟩
   have s1:=bC.new hp [D.int (e.n:Int),.int 1]
   refine ⟨_,e.rs,rfl,.inr ⟨_,rfl,s1 _ _ hla⟩,DpS.up dp,oH (by unfold Bd;omega),?_⟩
   have ec:clE e.wd e.n e.rs = .ag (if 90 < e.n * dnS e.rs then 1 else e.n) e.rs:=by unfold clE;rw [if_pos ea]
   have em:(90:Int) < (e.n:Int) * (dnS e.rs:Int) ↔ 90 < e.n * dnS e.rs:=by
    have:((e.n * dnS e.rs:Nat):Int) = (e.n:Int) * (dnS e.rs:Int):=Int.natCast_mul _ _
    omega
   by_cases c:90 < e.n * dnS e.rs
   ·rw [if_pos (decide_eq_true (em.mpr c))]
    refine ⟨_,_,aK,rfl,_,s1 _ _ hla,by decide,_,_,_,_,rfl,?_,s1 _ _ hst1,s1 _ _ hu1,k1.sub s1⟩
    rw [ec,if_pos c,ca];rfl
   ·rw [if_neg (by rw [decide_eq_false fun z=>c (em.mp z)];decide)]
    refine ⟨_,_,aK,rfl,_,s1 _ _ hla,by decide,_,_,_,_,rfl,?_,s1 _ _ hst1,s1 _ _ hu1,k1.sub s1⟩
    rw [ec,if_neg c,ca];rfl
  ·refine ifF (decide_eq_false ca) ⟨_,_,_,_,rfl,?_,hst1,hu1,k1⟩
   by_cases ce:e.wd = "ever"
   ·obtain ⟨rfl,rfl⟩:=ev1 ce
    have ec:clE e.wd e.n e.rs = if enB (cI e.rs) then .ev (cI e.rs) else .kp (cI e.rs):=by
     unfold clE
     rw [if_neg (show ¬ e.wd = "again" by rw [ce];decide),if_pos ce]
    rw [ec]
    cases hb:enB (cI e.rs)<;>rfl
   ·obtain ⟨rfl,rfl⟩:=ne1 ce
    have ek:e.wd = "keep":=by
     rcases hw with z | z | z
     ·exact absurd z ca
     ·exact z
     ·exact absurd z ce
    unfold clE
    rw [if_neg ca,if_neg ce,ek];rfl
 ·rintro ρ' M2 ⟨o1,o2,o3,_,rfl,rfl,h1,h2,k2⟩
  decreasing_tactic
  have al:atI ((es ++ [u]).map enD) (-1) = some (enD u):=by rw [List.map_append];exact aE2
  refine ⟨_,_,h1,al,?_⟩
  rw [show enD u = .tup [.str u.wd,.int (u.n:Int),.ref u.a] from rfl]
  decreasing_tactic
  refine ⟨⟨_,h2⟩,_,_,rfl,h2,by rw [cV];omega,aT (q _ ?_ ?_ ?_)⟩
  ·rw [gJ n1];exact h1
  ·rw [lV];exact aK
  ·exact (k2.mono fun a m=>by rw [List.mem_singleton.mp m];exact List.mem_cons_self ..).put (List.mem_cons_of_mem _ (List.mem_singleton.mpr rfl))
noncomputable def Fc (m:Nat):Nat:=if m<=2 then m else if m = 3 then 12 else if m = 4 then 24 else 18 * m
theorem aGx {m n:Nat} (h:m<=n):Fc m<=Fc n:=by
 unfold Fc
 repeat' split
 all_goals omega
theorem aFt (m n:Nat):Fc m + Fc n<=Fc (m + n):=by
 unfold Fc
 repeat' split
 all_goals omega
theorem aIE (m:Nat):Fc m + 2<=Fc (m + 2):=by
 unfold Fc
 repeat' split
 all_goals omega
theorem aHI {m:Nat}:Fc m<=18 * m:=by
 unfold Fc
 repeat' split
 all_goals omega
theorem aFS {m n d:Nat} (hd:d<=Fc m) (hn:n<=12) (h:n * d<=90):n * d<=Fc (m + 2):=by
 have h1:n * d<=12 * d:=Nat.mul_le_mul_right _ hn
 unfold Fc at *
 repeat' split
 all_goals (try omega)
 all_goals (repeat' split at hd)
 all_goals omega
mutual
noncomputable def alR (F:Pl->Prop):Rw->Prop
 | .pl p=>F p
 | .ag _ rs=>alS F rs
 | .kp rs=>alS F rs
 | .ev rs=>alS F rs
noncomputable def alS (F:Pl->Prop):List Rw->Prop
 | []=>True
 | r :: rs=>alR F r/\alS F rs
end
theorem nJ {F:Pl->Prop}:∀ {xs ys:List Rw},alS F (xs ++ ys) ↔ alS F xs/\alS F ys
 | [],ys=>by rw [List.nil_append,alS];simp
 | x :: xs,ys=>by rw [List.cons_append,alS,alS,nJ,and_assoc]
mutual
theorem aGs {F G:Pl->Prop} (k:∀ p,F p->G p):∀ r:Rw,alR F r->alR G r
 | .pl p,h=>by rw [alR] at *;exact k p h
 | .ag _ rs,h=>by rw [alR] at *;exact rY k rs h
 | .kp rs,h=>by rw [alR] at *;exact rY k rs h
 | .ev rs,h=>by rw [alR] at *;exact rY k rs h
theorem rY {F G:Pl->Prop} (k:∀ p,F p->G p):∀ rs:List Rw,alS F rs->alS G rs
 | [],_=>by rw [alS];trivial
 | r :: rs,h=>by rw [alS] at *;exact ⟨aGs k r h.1,rY k rs h.2⟩
end
mutual
noncomputable def hmR:Rw->Nat
 | .pl _=>1
 | .ag _ rs=>1 + hmS rs
 | .kp rs=>1 + hmS rs
 | .ev rs=>1 + hmS rs
noncomputable def hmS:List Rw->Nat
 | []=>0
 | r :: rs=>hmR r + hmS rs
end
theorem eS:∀ xs ys:List Rw,hmS (xs ++ ys) = hmS xs + hmS ys
 | [],ys=>by rw [List.nil_append,hmS,Nat.zero_add]
 | x :: xs,ys=>by rw [List.cons_append,hmS,hmS,eS xs ys,Nat.add_assoc]
mutual
noncomputable def ltR:Rw->Prop
 | .pl _=>True
 | .ag n rs=>n<=12/\ltS rs
 | .kp rs=>ltS rs
 | .ev rs=>ltS rs
noncomputable def ltS:List Rw->Prop
 | []=>True
 | r :: rs=>ltR r/\ltS rs
end
theorem mV:∀ {xs ys:List Rw},ltS (xs ++ ys) ↔ ltS xs/\ltS ys
 | [],ys=>by rw [List.nil_append,ltS];simp
 | x :: xs,ys=>by rw [List.cons_append,ltS,ltS,mV,and_assoc]
theorem tQ {n:Nat} {p:Pl}:ltS (List.replicate n (.pl p))/\hmS (List.replicate n (.pl p)) = n:=by
 induction n with
 | zero=>rw [List.replicate_zero,ltS,hmS];exact ⟨trivial,rfl⟩
 | succ n ih=>rw [List.replicate_succ,ltS,ltR,hmS,hmR,ih.2];exact ⟨⟨trivial,ih.1⟩,by omega⟩
mutual
theorem aI8 {N N':Nat} (l:N<=N'):∀ r:Rw,gwR N r->gwR N' r
 | .pl p,h=>by
  cases p with
  | grow a=>rw [gwR] at h ⊢;exact h
  | _ =>
      rw [gwR];· trivial
      all_goals (intro _ z;cases z)
 | .ag n rs,h=>by rw [gwR] at h ⊢;exact ⟨Nat.le_trans h.1 l,wU l rs h.2⟩
 | .kp rs,h=>by rw [gwR] at h ⊢;exact ⟨Nat.le_trans h.1 l,wU l rs h.2⟩
 | .ev rs,h=>by rw [gwR] at h ⊢;exact ⟨⟨h.1.1,Nat.le_trans h.1.2 l⟩,wU l rs h.2⟩
theorem wU {N N':Nat} (l:N<=N'):∀ rs:List Rw,gwS N rs->gwS N' rs
 | [],_=>by rw [gwS];trivial
 | r :: rs,h=>by rw [gwS] at h ⊢;exact ⟨aI8 l r h.1,wU l rs h.2⟩
end
structure yZ (F:Pl->Prop) (i m:Nat) (rs:List Rw):Prop where
 dp:∀ r ∈ rs,Dp (4 - i) r
 len:rs.length<=m
 dn:dnS rs<=Fc m
 gw:gwS 690 rs
 al:alS F rs
 lt:ltS rs/\hmS rs<=3 * m
theorem yZ.row {F:Pl->Prop} {i m:Nat} {rs:List Rw} (h:yZ F i m rs) {p:Pl} (hp:F p) (hg:gwR 690 (.pl p)):yZ F i (m + 1) (rs ++ [.pl p]):=by
 refine ⟨fun r hr=>?_,by rw [List.length_append];have:=h.len;show rs.length + 1<=m + 1;omega,?_,iK.mpr ⟨h.gw,by rw [gwS,gwS];exact ⟨hg,trivial⟩⟩,nJ.mpr ⟨h.al,by rw [alS,alS,alR];exact ⟨hp,trivial⟩⟩,mV.mpr ⟨h.lt.1,by rw [ltS,ltS,ltR];exact ⟨trivial,trivial⟩⟩,by rw [eS,hmS,hmS,hmR];have:=h.lt.2;omega⟩
 ·rcases List.mem_append.mp hr with z | z
  ·exact h.dp r z
  ·rw [List.mem_singleton.mp z];unfold Dp;trivial
 ·rw [eE,dnS,dnS,dnR]
  have:=h.dn
  have:=aFt m 1
  have:Fc 1 = 1:=rfl
  omega
theorem aFn {F:Pl->Prop} {n:Nat} {r:Rw} (h:alR F r):alS F (List.replicate n r):=by
 induction n with
 | zero=>rw [List.replicate_zero,alS];trivial
 | succ n ih=>rw [List.replicate_succ,alS];exact ⟨h,ih⟩
theorem aFi {n:Nat} {p:Pl}:dnS (List.replicate n (.pl p)) = n:=by
 induction n with
 | zero=>rw [List.replicate_zero,dnS]
 | succ n ih=>rw [List.replicate_succ,dnS,ih,dnR];omega
mutual
theorem aJV:∀ r:Rw,drR r = true->1<=dnR r
 | .pl p,_=>by rw [dnR];exact Nat.le_refl _
 | .ag n rs,h=>by
  rw [drR,Bool.and_eq_true] at h
  have:=yA rs h.2
  have n0:0 < n:=by have:=h.1;simp at this;omega
  rw [dnR];exact Nat.mul_pos this n0
 | .kp rs,h=>by rw [drR] at h;rw [dnR];exact yA rs h
 | .ev rs,h=>by rw [drR] at h;rw [dnR];exact yA rs h
theorem yA:∀ rs:List Rw,drS rs = true->1<=dnS rs
 | [],h=>by rw [drS] at h;cases h
 | r :: rs,h=>by
  rw [drS,Bool.or_eq_true] at h
  rw [dnS]
  rcases h with z | z
  ·have:=aJV r z;omega
  ·have:=yA rs z;omega
end
theorem aIV {rs:List Rw} (h:enB rs = true):drS rs = true:=by
 unfold enB at h
 rw [Bool.and_eq_true,Bool.and_eq_true] at h
 exact h.2.2
theorem aGT {F:Pl->Prop} {i m:Nat} {rs:List Rw} (h:yZ F i m rs) (fd:F .dot) (fg:F (.grow (1 / 12))):(∀ r ∈ cI rs,Dp (4 - i) r)/\(cI rs).length<=m + 2/\dnS (cI rs)<=Fc m + 2/\gwS 690 (cI rs)/\alS F (cI rs)/\ltS (cI rs)/\hmS (cI rs)<=3 * m + 2:=by
 have one:∀ b:Bool,(if b = true then 0 else 1)<=1:=fun b=>by cases b<;>decide
 have pl:∀ {d:Nat} {p:Pl},Dp d (.pl p):=fun {d p}=>by unfold Dp;trivial
 unfold cI dS
 have o1:=one (drS rs)
 generalize (if drS rs = true then 0 else 1) = k1 at o1 ⊢
 have o2:=one (enB (rs ++ List.replicate k1 (.pl .dot)))
 generalize (if enB (rs ++ List.replicate k1 (.pl .dot)) = true then 0 else 1) = k2 at o2 ⊢
 refine ⟨fun r hr=>?_,?_,?_,iK.mpr ⟨iK.mpr ⟨h.gw,aAz (by rw [gwR];trivial;intro _ z;cases z)⟩,aAz (by rw [gwR];exact ⟨1,12,by decide,by decide,by decide +kernel⟩)⟩,nJ.mpr ⟨nJ.mpr ⟨h.al,aFn (by rw [alR];exact fd)⟩,aFn (by rw [alR];exact fg)⟩,mV.mpr ⟨mV.mpr ⟨h.lt.1,tQ.1⟩,tQ.1⟩,by rw [eS,eS,tQ.2,tQ.2];have:=h.lt.2;omega⟩
 ·rcases List.mem_append.mp hr with z | z
  ·rcases List.mem_append.mp z with y | y
   ·exact h.dp r y
   ·rw [(List.mem_replicate.mp y).2];exact pl
  ·rw [(List.mem_replicate.mp z).2];exact pl
 ·rw [List.length_append,List.length_append,List.length_replicate,List.length_replicate]
  have:=h.len
  omega
 ·rw [eE,eE,aFi,aFi]
  have:=h.dn
  omega
theorem aL4 {F:Pl->Prop} {i m n:Nat} {rs:List Rw} {wd:Str} (h:yZ F (i + 1) m rs) (hi:i + 1<=4) (hm:m<=38) (hn:n<=12) (fd:F .dot) (fg:F (.grow (1 / 12))):Dp (4 - i) (clE wd n rs)/\dnR (clE wd n rs)<=Fc (m + 2)/\gwR 690 (clE wd n rs)/\alR F (clE wd n rs)/\ltR (clE wd n rs)/\hmR (clE wd n rs)<=3 * (m + 2):=by
 obtain ⟨e1,e2,e3,e4,e5,e6,e7⟩:=aGT h fd fg
 obtain ⟨t1,t2⟩:=h.lt
 have d4:4 - i = (4 - (i + 1)) + 1:=by omega
 have f2:=aIE m
 have fl:=aHI (m:=m)
 have hl:=h.len
 have hd:=h.dn
 have fm:=aGx (show m<=m + 2 by omega)
 unfold clE
 rw [d4]
 by_cases c1:wd = "again"
 ·rw [if_pos c1]
  refine ⟨⟨?_,by omega,h.dp⟩,?_,by rw [gwR];exact ⟨by omega,h.gw⟩,by rw [alR];exact h.al,by rw [ltR];exact ⟨by split<;>omega,t1⟩,by rw [hmR];omega⟩
  ·split<;>omega
  ·rw [dnR]
   by_cases c:90 < n * dnS rs
   ·rw [if_pos c];omega
   ·rw [if_neg c,Nat.mul_comm];exact aFS hd hn (by omega)
 ·rw [if_neg c1]
  by_cases c2:wd = "ever"
  ·rw [if_pos c2]
   cases hb:enB (cI rs) with
   | true=>exact ⟨⟨by omega,e1⟩,by show dnR (.ev _)<=_;rw [dnR];omega,by show gwR _ (.ev _);rw [gwR];exact ⟨⟨yA _ (aIV hb),by omega⟩,e4⟩,by show alR _ (.ev _);rw [alR];exact e5,by show ltR (.ev _);rw [ltR];exact e6,by show hmR (.ev _)<=_;rw [hmR];omega⟩
   | false=>exact ⟨⟨by omega,e1⟩,by show dnR (.kp _)<=_;rw [dnR];omega,by show gwR _ (.kp _);rw [gwR];exact ⟨by omega,e4⟩,by show alR _ (.kp _);rw [alR];exact e5,by show ltR (.kp _);rw [ltR];exact e6,by show hmR (.kp _)<=_;rw [hmR];omega⟩
  ·rw [if_neg c2]
   exact ⟨⟨by omega,h.dp⟩,by rw [dnR];omega,by rw [gwR];exact ⟨by omega,h.gw⟩,by rw [alR];exact h.al,by rw [ltR];exact t1,by rw [hmR];omega⟩
theorem yZ.blk {F:Pl->Prop} {i m k:Nat} {us:List Rw} {r:Rw} (h:yZ F i m us) (k0:0 < k) (b1:Dp (4 - i) r) (b2:dnR r<=Fc k) (b3:gwR 690 r) (b4:alR F r) (b5:ltR r) (b6:hmR r<=3 * k):yZ F i (m + k) (us ++ [r]):=by
 refine ⟨fun x hx=>?_,by rw [List.length_append];have:=h.len;show us.length + 1<=m + k;omega,?_,iK.mpr ⟨h.gw,by rw [gwS,gwS];exact ⟨b3,trivial⟩⟩,nJ.mpr ⟨h.al,by rw [alS,alS];exact ⟨b4,trivial⟩⟩,mV.mpr ⟨h.lt.1,by rw [ltS,ltS];exact ⟨b5,trivial⟩⟩,by rw [eS,hmS,hmS];have:=h.lt.2;omega⟩
 ·rcases List.mem_append.mp hx with z | z
  ·exact h.dp x z
  ·rw [List.mem_singleton.mp z];exact b1
 ·rw [eE,dnS,dnS]
  have:=h.dn
  have:=aFt m k
  omega
noncomputable abbrev Es:=List (En × Nat)
noncomputable def esD (es:Es):List D:=es.map fun x=>enD x.1
noncomputable def wd3 (w:Str):Prop:=w = "again" ∨ w = "keep" ∨ w = "ever"
structure SI (F:Pl->Prop) (B M:DM) (st:Addr) (es:Es) (c:Nat):Prop where
 sub:bC B M
 new:B st = none
 hst:M st = some (esD es)
 len:es.length<=5
 sum:(es.map (·.2)).sum + es.length<=c + 1
 ent:∀ (i:Nat) x,es[i]? = some x->(yZ F i x.2 x.1.rs/\M x.1.a = some (bM x.1.rs)/\B x.1.a = none)/\st ≠ x.1.a/\x.1.n<=12/\(0 < i->wd3 x.1.wd)
 nod:(es.map (·.1.a)).Nodup
theorem oC {B M M':DM} {as:List Addr} (s:bC B M) (k:fO M M' as) (n:∀ a ∈ as,B a = none):bC B M':=fun a x e=>k a (fun b hb z=>by rw [z,n b hb] at e;cases e) x (s _ _ e)
theorem sF {α:Type} {xs:List α} {y:α} {i:Nat} {x:α} (h:(xs ++ [y])[i]? = some x):xs[i]? = some x ∨ (i = xs.length/\x = y):=by
 rw [List.getElem?_append] at h
 split at h
 ·exact .inl h
 ·rename_i l
  have:i - xs.length = 0:=by
   cases hk:i - xs.length with
   | zero=>rfl
   | succ k=>rw [hk] at h;simp at h
  rw [this] at h
  simp at h
  exact .inr ⟨by omega,h.symm⟩
theorem SI.top {F:Pl->Prop} {B M M':DM} {st:Addr} {es:Es} {u:En} {m m' c c':Nat} {rs':List Rw} (h:SI F B M st (es ++ [(u,m)]) c) (hs:M' st = some (esD (es ++ [(u,m)]))) (hu:M' u.a = some (bM rs')) (k:fO M M' [st,u.a]) (ok:yZ F es.length m' rs') (hc:(es.map (·.2)).sum + m' + es.length<=c'):SI F B M' st (es ++ [({ u with rs:=rs' },m')]) c':=by
 have hend:(es ++ [(u,m)])[es.length]? = some (u,m):=by rw [List.getElem?_append_right (Nat.le_refl _)];simp
 have hu0:=h.ent _ _ hend
 refine ⟨oC h.sub k fun a ha=>?_,h.new,?_,?_,?_,fun i x hx=>?_,?_⟩
 ·rcases List.mem_cons.mp ha with rfl | z
  ·exact h.new
  ·rw [List.mem_singleton.mp z];exact hu0.1.2.2
 ·rw [hs];unfold esD;rw [List.map_append,List.map_append];rfl
 ·have:=h.len
  rw [List.length_append] at *;exact this
 ·rw [List.map_append,List.sum_append,List.length_append]
  simp
  omega
 ·rcases sF hx with z | ⟨rfl,rfl⟩
  ·have hi:=(List.getElem?_eq_some_iff.mp z).1
   have hx0:(es ++ [(u,m)])[i]? = some x:=by rw [List.getElem?_append_left hi];exact z
   obtain ⟨⟨a1,a2,a3⟩,a4,a5⟩:=h.ent i x hx0
   refine ⟨⟨a1,k _ (fun b hb y=>?_) _ a2,a3⟩,a4,a5⟩
   rcases List.mem_cons.mp hb with rfl | z2
   ·cases y;exact a4 rfl
   ·rw [List.mem_singleton.mp z2] at y
    have nd:=h.nod
    rw [List.map_append,List.nodup_append] at nd
    have:=nd.2.2 x.1.a (List.mem_map.mpr ⟨x,List.mem_of_getElem? z,rfl⟩) u.a (by simp)
    exact this (by injection y)
  ·exact ⟨⟨ok,hu,hu0.1.2.2⟩,hu0.2.1,hu0.2.2.1,hu0.2.2.2⟩
 ·have nd:=h.nod
  rw [List.map_append] at *;exact nd
theorem SI.push {F:Pl->Prop} {B M M':DM} {st a:Addr} {es:Es} {wd:Str} {n c c':Nat} (h:SI F B M st es c) (hl:es.length < 5) (ha:M a = none) (hs:M' st = some (esD (es ++ [(⟨wd,n,a,[]⟩,0)]))) (hu:M' a = some []) (k:fO M M' [st,a]) (hw:wd3 wd) (hn:n<=12) (hc:c + 1<=c'):SI F B M' st (es ++ [(⟨wd,n,a,[]⟩,0)]) c':=by
 have fresh:∀ b:Addr,(∃ x,M b = some x)->b ≠ a:=fun b ⟨x,e⟩ z=>by rw [z,ha] at e;cases e
 have ba:B a = none:=by
  cases e:B a with
  | none=>rfl
  | some x=>rw [h.sub _ _ e] at ha;cases ha
 refine ⟨oC h.sub k fun b hb=>?_,h.new,hs,by rw [List.length_append];exact hl,?_,fun i x hx=>?_,?_⟩
 ·rcases List.mem_cons.mp hb with rfl | z
  ·exact h.new
  ·rw [List.mem_singleton.mp z];exact ba
 ·have:=h.sum
  rw [List.map_append,List.sum_append,List.length_append]
  simp
  omega
 ·rcases sF hx with z | ⟨rfl,rfl⟩
  ·obtain ⟨⟨a1,a2,a3⟩,a4,a5⟩:=h.ent i x z
   refine ⟨⟨a1,k _ (fun b hb y=>?_) _ a2,a3⟩,a4,a5⟩
   rcases List.mem_cons.mp hb with rfl | z2
   ·exact a4 (by injection y with y;exact y.symm)
   ·rw [List.mem_singleton.mp z2] at y
    exact fresh _ ⟨_,a2⟩ (by injection y)
  ·refine ⟨⟨⟨(fun r hr=>nomatch hr),Nat.le_refl _,(by show dnS []<=_;rw [dnS];exact Nat.zero_le _),(by show gwS _ [];rw [gwS];trivial),(by show alS _ [];rw [alS];trivial),(by show ltS [];rw [ltS];trivial),(by show hmS []<=_;rw [hmS];exact Nat.zero_le _)⟩,hu,ba⟩,fresh _ ⟨_,h.hst⟩,hn,fun _=>hw⟩
 ·rw [List.map_append,List.nodup_append]
  refine ⟨h.nod,by simp,fun b hb d hd=>?_⟩
  rw [List.mem_singleton.mp hd]
  obtain ⟨x,hx,rfl⟩:=List.mem_map.mp hb
  obtain ⟨i,hi⟩:=List.mem_iff_getElem?.mp hx
  exact fresh _ ⟨_,(h.ent i x hi).1.2.1⟩
theorem SI.close {F:Pl->Prop} {B M M':DM} {st:Addr} {es:Es} {u e:En} {m m' c:Nat} (h:SI F B M st (es ++ [(u,m),(e,m')]) c) (hs:M' st = some (esD (es ++ [(u,m)]))) (hu:M' u.a = some (bM (u.rs ++ [clE e.wd e.n e.rs]))) (kp:fO M M' [st,u.a]) (fd:F .dot) (fg:F (.grow (1 / 12))) (hc:c<=39):SI F B M' st (es ++ [({ u with rs:=u.rs ++ [clE e.wd e.n e.rs] },m + (m' + 2))]) (c + 1):=by
 have spl:es ++ [(u,m),(e,m')] = (es ++ [(u,m)]) ++ [(e,m')]:=by simp
 rw [spl] at h
 have he:((es ++ [(u,m)]) ++ [(e,m')])[(es ++ [(u,m)]).length]? = some (e,m'):=by rw [List.getElem?_append_right (Nat.le_refl _)];simp
 have he0:=h.ent _ _ he
 have hun:((es ++ [(u,m)]) ++ [(e,m')])[es.length]? = some (u,m):=by
  rw [List.getElem?_append_left (by rw [List.length_append];show _ < _ + 1;omega),List.getElem?_append_right (Nat.le_refl _)];simp
 have hu0:=h.ent _ _ hun
 have sm:=h.sum
 have ln:=h.len
 rw [List.map_append,List.map_append,List.sum_append,List.sum_append,List.length_append,List.length_append] at sm
 simp at sm
 rw [List.length_append,List.length_append] at ln
 simp at ln
 have l1:(es ++ [(u,m)]).length = es.length + 1:=by rw [List.length_append];rfl
 rw [l1] at he0
 obtain ⟨b1,b2,b3,b4,b5,b6⟩:=aL4 (wd:=e.wd) (n:=e.n) he0.1.1 (by omega) (by show m'<=38;omega) he0.2.2.1 fd fg
 have ok:=hu0.1.1.blk (k:=m' + 2) (by omega) b1 b2 b3 b4 b5 b6
 refine ⟨oC h.sub kp fun a ha=>?_,h.new,?_,by rw [List.length_append];show es.length + 1<=5;omega,?_,fun i x hx=>?_,?_⟩
 ·rcases List.mem_cons.mp ha with rfl | z
  ·exact h.new
  ·rw [List.mem_singleton.mp z];exact hu0.1.2.2
 ·rw [hs];unfold esD;rw [List.map_append,List.map_append];rfl
 ·rw [List.map_append,List.sum_append,List.length_append]
  simp
  omega
 ·rcases sF hx with z | ⟨rfl,rfl⟩
  ·have hi:=(List.getElem?_eq_some_iff.mp z).1
   have hx0:((es ++ [(u,m)]) ++ [(e,m')])[i]? = some x:=by
    rw [List.getElem?_append_left (by rw [l1];omega),List.getElem?_append_left hi];exact z
   obtain ⟨⟨a1,a2,a3⟩,a4,a5⟩:=h.ent i x hx0
   refine ⟨⟨a1,kp _ (fun b hb y=>?_) _ a2,a3⟩,a4,a5⟩
   rcases List.mem_cons.mp hb with rfl | z2
   ·exact a4 (by injection y with y;exact y.symm)
   ·rw [List.mem_singleton.mp z2] at y
    have nd:=h.nod
    rw [List.map_append,List.nodup_append,List.map_append,List.nodup_append] at nd
    exact nd.1.2.2 x.1.a (List.mem_map.mpr ⟨x,List.mem_of_getElem? z,rfl⟩) u.a (by simp) (by injection y)
  ·exact ⟨⟨ok,hu,hu0.1.2.2⟩,hu0.2.1,hu0.2.2.1,hu0.2.2.2⟩
 ·have nd:=h.nod
  rw [List.map_append,List.nodup_append] at nd
  have:=nd.1
  rw [List.map_append] at *;exact this
noncomputable def aBU:D:=.tup [.int 0,.int 1]
noncomputable def eI:DSp:=fun ds M Q=>∃ x y t,ds = [PQ x y,.int t]/\Q (FR x y t 1 1) M
noncomputable abbrev qZ:Stmt:=top 33
theorem aBx:aR ["place","turns"] ["place","turns"] (aI qZ):=⟨rfl,rfl,rfl,by decide +kernel,rfl,by decide +kernel,by decide +kernel⟩
theorem aBg (hF:bV K mg "at_place" qZ ["place","turns"]) (kO:eY K mg "ONE" aCn):Has P w K mg base 101 "at_place" ["place","turns"] eI:=by
 refine Has.mkZ hF aBx (fun ds M Q ⟨a,b,c,z,_⟩=>by rw [z];rfl) fun f cdv A outer s H ds M Q E hr h=>?_
 obtain ⟨x,y,t,rfl,q⟩:=h
 refine ⟨_,(aE (aO (aN (aA (aB 0) (aA (aB 1) (aA aC (aA (bA kO) aD))))))),?_⟩
 decreasing_tactic
 exact ⟨by decide,M,.refl _,q⟩
noncomputable def fW (B:Nat) (ok:Pl->Prop):DSp:=fun ds M Q=>∃ p,ds = [plD p]/\ok p/\plB B p/\Q (.tup [lgO (aAy p),FmD (aFa p)]) M
theorem fJ {B:Nat} {ok:Pl->Prop} (ds:List D) (M:DM) (Q:DQ) (h:fW B ok ds M Q):ds.length = 1:=by obtain ⟨p,rfl,_⟩:=h;rfl
noncomputable def nC:DSp:=fun ds M Q=>∃ (x:Str) (a b:Rat),ds = [.tup [.str x,FQ a,FQ b]]/\Q (.tup [lgD (.st 0 0 a b),FmD ⟨a,b,0,1,1⟩]) M
noncomputable abbrev oE:Stmt:=top 35
theorem sH:aR ["row","place"] ["row"] (aI oE):=⟨rfl,rfl,rfl,by decide +kernel,rfl,by decide +kernel,by decide +kernel⟩
theorem zA (hF:bV K mg "side_deed" oE ["row"]) (bB:eY K mg "MIDDLE" sG) (bE:Has P w K mg base 101 "at_place" ["place","turns"] eI):Has P w K mg base 102 "side_deed" ["row"] nC:=by
 refine Has.mkZ hF sH (fun ds M Q ⟨a,b,c,z,_⟩=>by rw [z];rfl) fun f cdv A outer s H ds M Q E hr h=>?_
 obtain ⟨x,a,b,rfl,q⟩:=h
 refine ⟨_,(aF (aP (i:=1) sH.nd (aN (aA (aH (aB 0) aC) (aA (aH (aB 0) aC) aD))))
  (aE (aO (aN (aA (aN (aA aM (aA (bA bB) (aA (aB 1) aD)))) (aA (aG bE hr (by decide) (aA (aB 1) (aA aC aD))) aD)))))),?_⟩
 decreasing_tactic
 refine ⟨by decide,by decide,a,b,0,rfl,?_⟩
 decreasing_tactic
 exact ⟨by decide,M,.refl _,q⟩
noncomputable def xD:DSp:=fW 900 fun p=>∃ a,p = .go a
noncomputable abbrev tV:Stmt:=top 34
theorem aCt:aR ["row"] ["row"] (aI tV):=⟨rfl,rfl,rfl,by decide +kernel,rfl,by decide +kernel,by decide +kernel⟩
theorem aBl (hF:bV K mg "go_deed" tV ["row"]) (dJ:eY K mg "NOTHING" aBU) (hG:Has P w K mg base 102 "side_deed" ["row"] nC):Has P w K mg base 103 "go_deed" ["row"] xD:=by
 refine Has.mkZ hF aCt fJ fun f cdv A outer s H ds M Q E hr h=>?_
 obtain ⟨p,rfl,⟨a,rfl⟩,b,q⟩:=h
 refine ⟨_,(aE (aO (aG hG hr (by decide) (aA (aN (aA aM (aA (aH (aB 0) aC) (aA (bA dJ) aD)))) aD)))),?_⟩
 dsimp only [plD]
 decreasing_tactic
 refine ⟨by decide,"side",a,0,rfl,?_⟩
 exact ⟨M,.refl _,q⟩
noncomputable def tJ:DSp:=fW 900 fun p=>∃ a,p = .skip a
noncomputable abbrev pB:Stmt:=top 36
theorem aAV:aR ["row"] ["row"] (aI pB):=⟨rfl,rfl,rfl,by decide +kernel,rfl,by decide +kernel,by decide +kernel⟩
theorem zF (hF:bV K mg "skip_deed" pB ["row"]) (dJ:eY K mg "NOTHING" aBU) (bE:Has P w K mg base 101 "at_place" ["place","turns"] eI):Has P w K mg base 103 "skip_deed" ["row"] tJ:=by
 refine Has.mkZ hF aAV fJ fun f cdv A outer s H ds M Q E hr h=>?_
 obtain ⟨p,rfl,⟨a,rfl⟩,b,q⟩:=h
 refine ⟨_,(aE (aO (aN (aA eZ (aA (aG bE hr (by decide) (aA (aN (aA (aH (aB 0) aC) (aA (bA dJ) aD))) (aA aC aD))) aD))))),?_⟩
 dsimp only [plD]
 decreasing_tactic
 refine ⟨by decide,a,0,0,rfl,?_⟩
 decreasing_tactic
 exact ⟨by decide,M,.refl _,q⟩
noncomputable def vF:DSp:=fW 900 fun p=>p = .dot
noncomputable abbrev rJ:Stmt:=top 37
theorem aB6:aR ["row"] ["row"] (aI rJ):=⟨rfl,rfl,rfl,by decide +kernel,rfl,by decide +kernel,by decide +kernel⟩
theorem aAi (hF:bV K mg "dot_deed" rJ ["row"]) (bB:eY K mg "MIDDLE" sG) (aAn:Has P w K mg base 101 "first" [] aBI):Has P w K mg base 103 "dot_deed" ["row"] vF:=by
 refine Has.mkZ hF aB6 fJ fun f cdv A outer s H ds M Q E hr h=>?_
 obtain ⟨p,rfl,rfl,b,q⟩:=h
 refine ⟨_,(aE (aO (aN (aA (aN (aA aM (aA (bA bB) (aA (bA bB) aD)))) (aA (aCd aAn hr (by decide)) aD))))),?_⟩
 decreasing_tactic
 refine ⟨by decide,rfl,?_⟩
 decreasing_tactic
 exact ⟨by decide,M,.refl _,q⟩
noncomputable def sP:DSp:=fW 900 fun p=>p = .left
noncomputable abbrev oS:Stmt:=top 38
theorem aAF:aR ["row"] ["row"] (aI oS):=⟨rfl,rfl,rfl,by decide +kernel,rfl,by decide +kernel,by decide +kernel⟩
theorem zD (hF:bV K mg "left_deed" oS ["row"]) (bB:eY K mg "MIDDLE" sG) (bE:Has P w K mg base 101 "at_place" ["place","turns"] eI):Has P w K mg base 103 "left_deed" ["row"] sP:=by
 refine Has.mkZ hF aAF fJ fun f cdv A outer s H ds M Q E hr h=>?_
 obtain ⟨p,rfl,rfl,b,q⟩:=h
 refine ⟨_,(aE (aO (aN (aA eZ (aA (aG bE hr (by decide) (aA (bA bB) (aA aC aD))) aD))))),?_⟩
 decreasing_tactic
 refine ⟨0,0,1,rfl,?_⟩
 decreasing_tactic
 exact ⟨by decide,M,.refl _,q⟩
noncomputable def qL:DSp:=fW 900 fun p=>p = .rnd
noncomputable abbrev nH:Stmt:=top 39
theorem zH:aR ["row"] ["row"] (aI nH):=⟨rfl,rfl,rfl,by decide +kernel,rfl,by decide +kernel,by decide +kernel⟩
theorem wH (hF:bV K mg "round_deed" nH ["row"]) (bB:eY K mg "MIDDLE" sG) (bE:Has P w K mg base 101 "at_place" ["place","turns"] eI):Has P w K mg base 103 "round_deed" ["row"] qL:=by
 refine Has.mkZ hF zH fJ fun f cdv A outer s H ds M Q E hr h=>?_
 obtain ⟨p,rfl,rfl,b,q⟩:=h
 refine ⟨_,(aE (aO (aN (aA eZ (aA (aG bE hr (by decide) (aA (bA bB) (aA aC aD))) aD))))),?_⟩
 decreasing_tactic
 refine ⟨0,0,2,rfl,?_⟩
 decreasing_tactic
 exact ⟨by decide,M,.refl _,q⟩
noncomputable def qI:DSp:=fW 900 fun p=>p = .right
noncomputable abbrev nQ:Stmt:=top 40
theorem yO:aR ["row"] ["row"] (aI nQ):=⟨rfl,rfl,rfl,by decide +kernel,rfl,by decide +kernel,by decide +kernel⟩
theorem yB (hF:bV K mg "right_deed" nQ ["row"]) (bB:eY K mg "MIDDLE" sG) (bE:Has P w K mg base 101 "at_place" ["place","turns"] eI):Has P w K mg base 103 "right_deed" ["row"] qI:=by
 refine Has.mkZ hF yO fJ fun f cdv A outer s H ds M Q E hr h=>?_
 obtain ⟨p,rfl,rfl,b,q⟩:=h
 refine ⟨_,(aE (aO (aN (aA eZ (aA (aG bE hr (by decide) (aA (bA bB) (aA aC aD))) aD))))),?_⟩
 decreasing_tactic
 refine ⟨0,0,3,rfl,?_⟩
 decreasing_tactic
 exact ⟨by decide,M,.refl _,q⟩
noncomputable def pO:DSp:=fW 900 fun p=>p = .mirror
noncomputable abbrev lD:Stmt:=top 41
theorem xL:aR ["row"] ["row"] (aI lD):=⟨rfl,rfl,rfl,by decide +kernel,rfl,by decide +kernel,by decide +kernel⟩
theorem vP (hF:bV K mg "mirror_deed" lD ["row"]) (bB:eY K mg "MIDDLE" sG) (kO:eY K mg "ONE" aCn):Has P w K mg base 103 "mirror_deed" ["row"] pO:=by
 refine Has.mkZ hF xL fJ fun f cdv A outer s H ds M Q E hr h=>?_
 obtain ⟨p,rfl,rfl,b,q⟩:=h
 refine ⟨_,(aE (aO (aN (aA eZ (aA (aN (aA (bA bB) (aA aC (aA (cU aC) (aA (bA kO) aD))))) aD))))),?_⟩
 decreasing_tactic
 exact ⟨by decide,by decide,M,.refl _,q⟩
noncomputable def rZ:DSp:=fW 900 fun p=>∃ a,p = .grow a
noncomputable abbrev pM:Stmt:=top 42
theorem aBa:aR ["row"] ["row"] (aI pM):=⟨rfl,rfl,rfl,by decide +kernel,rfl,by decide +kernel,by decide +kernel⟩
theorem yY (hF:bV K mg "grow_deed" pM ["row"]) (bB:eY K mg "MIDDLE" sG):Has P w K mg base 103 "grow_deed" ["row"] rZ:=by
 refine Has.mkZ hF aBa fJ fun f cdv A outer s H ds M Q E hr h=>?_
 obtain ⟨p,rfl,⟨a,rfl⟩,b,q⟩:=h
 refine ⟨_,(aE (aO (aN (aA eZ (aA (aN (aA (bA bB) (aA aC (aA aC (aA (aH (aB 0) aC) aD))))) aD))))),?_⟩
 dsimp only [plD]
 decreasing_tactic
 exact ⟨by decide,by decide,M,.refl _,q⟩
theorem kT {a:Rat}:0 < a.num ↔ 0 < a:=by rw [Rat.lt_iff];simp
noncomputable def nR:DSp:=fW 900 fun p=>∃ a,p = .quarter a
noncomputable abbrev kH:Stmt:=top 43
theorem jM:aR ["row","a","place"] ["row"] (aI kH):=⟨rfl,rfl,rfl,by decide +kernel,rfl,by decide +kernel,by decide +kernel⟩
theorem uI (hF:bV K mg "quarter_deed" kH ["row"]) (bB:eY K mg "MIDDLE" sG) (dJ:eY K mg "NOTHING" aBU) (bE:Has P w K mg base 101 "at_place" ["place","turns"] eI):Has P w K mg base 103 "quarter_deed" ["row"] nR:=by
 refine Has.mkZ hF jM fJ fun f cdv A outer s H ds M Q E hr h=>?_
 obtain ⟨p,rfl,⟨a,rfl⟩,b,q⟩:=h
 refine ⟨_,(aF (aP (i:=1) jM.nd (aH (aB 0) aC))
  (aF (aV (aQ gE (aH (aB 1) aC) aC) (aE (aO (aN (aA (aN (aA aM (aA (aN (aA (bA dJ) (aA (aB 1) aD))) (aA (bA bB) (aA (aN (aA (aB 1) (aA (aB 1) aD))) (aA aC aD)))))) (aA (aG bE hr (by decide) (aA (aN (aA (aB 1) (aA (aB 1) aD))) (aA aC aD))) aD))))) aS)
  (aF (aP (i:=2) jM.nd (aN (aA (aN (aA (cU (aH (aB 1) aC)) (aA (aH (aB 1) aC) aD))) (aA (aB 1) aD))))
  (aE (aO (aN (aA (aN (aA aM (aA (aN (aA (bA dJ) (aA (aB 1) aD))) (aA (bA bB) (aA (aB 2) (aA (cU aC) aD)))))) (aA (aG bE hr (by decide) (aA (aB 2) (aA aC aD))) aD)))))))),?_⟩
 dsimp only [plD]
 decreasing_tactic
 dsimp only [aAy,aFa] at q
 by_cases c:0 < a
 ·rw [if_pos c,if_pos c] at q
  refine ifT (decide_eq_true (kT.mpr c)) ⟨by decide,by decide,by decide,by decide,a,a,1,rfl,?_⟩
  decreasing_tactic
  exact ⟨by decide,M,.refl _,q⟩
 ·rw [if_neg c,if_neg c] at q
  refine ifF (decide_eq_false fun z=>c (kT.mp z)) ⟨by decide,by decide,by decide,by decide,?_⟩
  rw [aGo]
  refine ⟨-a,a,3,rfl,?_⟩
  decreasing_tactic
  exact ⟨by decide,M,.refl _,q⟩
noncomputable def sE:DSp:=fW 900 fun p=>∃ a,p = .half a
noncomputable abbrev oK:Stmt:=top 44
theorem tE:aR ["row","place"] ["row"] (aI oK):=⟨rfl,rfl,rfl,by decide +kernel,rfl,by decide +kernel,by decide +kernel⟩
theorem yU (hF:bV K mg "half_deed" oK ["row"]) (bB:eY K mg "MIDDLE" sG) (dJ:eY K mg "NOTHING" aBU) (aCJ:Has P w K mg base 102 "plus" ["one","other"] aA4) (bE:Has P w K mg base 101 "at_place" ["place","turns"] eI):Has P w K mg base 103 "half_deed" ["row"] sE:=by
 refine Has.mkZ hF tE fJ fun f cdv A outer s H ds M Q E hr h=>?_
 obtain ⟨p,rfl,⟨a,rfl⟩,b,q⟩:=h
 refine ⟨_,(aF (aP (i:=1) tE.nd (aN (aA (bA dJ) (aA (aG aCJ hr (by decide) (aA (aH (aB 0) aC) (aA (aH (aB 0) aC) aD))) aD))))
  (aE (aO (aN (aA (aN (aA aM (aA (aN (aA (bA dJ) (aA (aH (aB 0) aC) aD))) (aA (bA bB) (aA (aB 1) (aA (mD (aQ gE (aH (aH (aB 0) aC) aC) aC) aC (cU aC)) aD)))))) (aA (aG bE hr (by decide) (aA (aB 1) (aA aC aD))) aD)))))),?_⟩
 dsimp only [plD]
 decreasing_tactic
 dsimp only [aAy,aFa] at q
 refine ⟨a,a,900,900,rfl,trivial,b.1,b.1,by decide,by decide,by decide,?_⟩
 decreasing_tactic
 by_cases c:0 < a
 ·rw [if_pos c] at q
  refine ifT (decide_eq_true (kT.mpr c)) ⟨by decide,0,a + a,2,rfl,?_⟩
  decreasing_tactic
  exact ⟨by decide,M,.refl _,q⟩
 ·rw [if_neg c] at q
  refine ifF (decide_eq_false fun z=>c (kT.mp z)) ⟨by decide,0,a + a,2,rfl,?_⟩
  decreasing_tactic
  exact ⟨by decide,M,.refl _,q⟩
noncomputable def vA:DSp:=fW 900 fun p=>∃ a b c d,p = .arc a b c d
noncomputable abbrev rT:Stmt:=top 45
theorem vD:aR ["row","place"] ["row"] (aI rT):=⟨rfl,rfl,rfl,by decide +kernel,rfl,by decide +kernel,by decide +kernel⟩
theorem aAN (hF:bV K mg "arc_deed" rT ["row"]) (bB:eY K mg "MIDDLE" sG) (bE:Has P w K mg base 101 "at_place" ["place","turns"] eI):Has P w K mg base 103 "arc_deed" ["row"] vA:=by
 refine Has.mkZ hF vD fJ fun f cdv A outer s H ds M Q E hr h=>?_
 obtain ⟨p,rfl,⟨a,b,c,d,rfl⟩,bb,q⟩:=h
 refine ⟨_,(aF (aP (i:=1) vD.nd (aN (aA (aH (aB 0) aC) (aA (aH (aB 0) aC) aD))))
  (aE (aO (aN (aA (aN (aA aM (aA (aN (aA (aH (aB 0) aC) (aA (aH (aB 0) aC) aD))) (aA (bA bB) (aA (aB 1) (aA aC aD)))))) (aA (aG bE hr (by decide) (aA (aB 1) (aA aC aD))) aD)))))),?_⟩
 dsimp only [plD]
 decreasing_tactic
 refine ⟨by decide,by decide,by decide,c,d,0,rfl,?_⟩
 decreasing_tactic
 exact ⟨by decide,M,.refl _,q⟩
noncomputable def aLe:List (Str × Str):=[("go","go_deed"),("skip","skip_deed"),("side","side_deed"),("dot","dot_deed"),("left","left_deed"),("right","right_deed"),("round","round_deed"),("mirror","mirror_deed"),("grow","grow_deed"),("quarter","quarter_deed"),("half","half_deed"),("arc","arc_deed")]
noncomputable def xS:DSp:=fW 900 fun _=>True
noncomputable abbrev uE:Stmt:=top 47
theorem wK:aR ["row","deed"] ["row"] (aI uE):=⟨rfl,rfl,rfl,by decide +kernel,rfl,by decide +kernel,by decide +kernel⟩
theorem aBX (hF:bV K mg "deed_of" uE ["row"]) (aAk:aHc w K mg "DEEDS" aLe) (uN:Has P w K mg base 103 "go_deed" ["row"] xD) (hG:Has P w K mg base 102 "side_deed" ["row"] nC) (oM:Has P w K mg base 103 "skip_deed" ["row"] tJ) (rS:Has P w K mg base 103 "dot_deed" ["row"] vF) (oP:Has P w K mg base 103 "left_deed" ["row"] sP) (nG:Has P w K mg base 103 "round_deed" ["row"] qL) (nB:Has P w K mg base 103 "right_deed" ["row"] qI) (lM:Has P w K mg base 103 "mirror_deed" ["row"] pO) (pP:Has P w K mg base 103 "grow_deed" ["row"] rZ) (kG:Has P w K mg base 103 "quarter_deed" ["row"] nR) (oJ:Has P w K mg base 103 "half_deed" ["row"] sE) (rO:Has P w K mg base 103 "arc_deed" ["row"] vA):Has P w K mg base 104 "deed_of" ["row"] xS:=by
 refine Has.mkZ hF wK fJ fun f cdv A outer s H ds M Q E hr h=>?_
 obtain ⟨p,rfl,_,b,q⟩:=h
 refine ⟨_,(aF (aP (i:=1) wK.nd (aHa aAk (aH (aB 0) aC)))
  (aE (aO (aD8 (j:=103) (aB 1) hr (by decide) (aA (aB 0) aD))))),?_⟩
 have q':=aT q
 cases p with
 | go a=>exact ⟨"go_deed",rfl,fun f hf=>⟨_,_,_,hf,uN,_,rfl,⟨a,rfl⟩,b,q'⟩⟩
 | side a c=>exact ⟨"side_deed",rfl,fun f hf=>⟨_,_,_,hf,hG.mono (by decide),_,a,c,rfl,q'⟩⟩
 | skip a=>exact ⟨"skip_deed",rfl,fun f hf=>⟨_,_,_,hf,oM,_,rfl,⟨a,rfl⟩,b,q'⟩⟩
 | dot=>exact ⟨"dot_deed",rfl,fun f hf=>⟨_,_,_,hf,rS,_,rfl,rfl,b,q'⟩⟩
 | left=>exact ⟨"left_deed",rfl,fun f hf=>⟨_,_,_,hf,oP,_,rfl,rfl,b,q'⟩⟩
 | right=>exact ⟨"right_deed",rfl,fun f hf=>⟨_,_,_,hf,nB,_,rfl,rfl,b,q'⟩⟩
 | rnd=>exact ⟨"round_deed",rfl,fun f hf=>⟨_,_,_,hf,nG,_,rfl,rfl,b,q'⟩⟩
 | mirror=>exact ⟨"mirror_deed",rfl,fun f hf=>⟨_,_,_,hf,lM,_,rfl,rfl,b,q'⟩⟩
 | grow a=>exact ⟨"grow_deed",rfl,fun f hf=>⟨_,_,_,hf,pP,_,rfl,⟨a,rfl⟩,b,q'⟩⟩
 | quarter a=>exact ⟨"quarter_deed",rfl,fun f hf=>⟨_,_,_,hf,kG,_,rfl,⟨a,rfl⟩,b,q'⟩⟩
 | half a=>exact ⟨"half_deed",rfl,fun f hf=>⟨_,_,_,hf,oJ,_,rfl,⟨a,rfl⟩,b,q'⟩⟩
 | arc a c d e=>exact ⟨"arc_deed",rfl,fun f hf=>⟨_,_,_,hf,rO,_,rfl,⟨a,c,d,e,rfl⟩,b,q'⟩⟩
noncomputable def iA:DSp:=fun ds M Q=>∃ r,ds = [rwD r]/\Q (inR r) M
noncomputable abbrev iY:Stmt:=top 48
theorem oU:aR ["row"] ["row"] (aI iY):=⟨rfl,rfl,rfl,by decide +kernel,rfl,by decide +kernel,by decide +kernel⟩
theorem vT (hF:bV K mg "rows_within" iY ["row"]):Has P w K mg base 101 "rows_within" ["row"] iA:=by
 refine Has.mkZ hF oU (fun ds M Q ⟨a,z,_⟩=>by rw [z];rfl) fun f cdv A outer s H ds M Q E hr h=>?_
 obtain ⟨r,rfl,q⟩:=h
 refine ⟨_,(aF (aV (aQ (bT hr) (aH (aB 0) aC) aM) (aE (aO (aH (aB 0) aC))) aS)
  (aE (aO (mD (fP (jP (aQ (bT hr) (aH (aB 0) aC) aM) (jB (aQ (bT hr) (aH (aB 0) aC) aM)))) (aH (aB 0) aC) eZ)))),?_⟩
 have q':=aT q
 cases r with
 | pl p =>
  cases p<;>(dsimp only [rwD,plD];decreasing_tactic;rw [aL];refine ifF (by decide) ?_;rw [aL];refine ifF (by decide) ?_;rw [aL];exact ifF (by decide) q')
 | ag n rs =>
  dsimp only [rwD]
  decreasing_tactic
  rw [aL]
  exact ifT (by decide) q'
 | kp rs =>
  dsimp only [rwD]
  decreasing_tactic
  rw [aL]
  refine ifF (by decide) ?_
  rw [aL]
  exact ifT (by decide) q'
 | ev rs =>
  dsimp only [rwD]
  decreasing_tactic
  rw [aL]
  refine ifF (by decide) ?_
  rw [aL]
  refine ifF (by decide) ?_
  rw [aL]
  exact ifT (by decide) q'
noncomputable def aA3 (d:Nat):DSp:=fun ds M Q=>∃ rs,ds = [.tup (bM rs)]/\DpS d rs/\Q (.int (dnS rs:Int)) M
noncomputable abbrev jL:Stmt:=top 50
theorem cZ:aR ["rows","many","row","within"] ["rows"] (aI jL):=⟨rfl,rfl,rfl,by decide +kernel,rfl,by decide +kernel,by decide +kernel⟩
theorem sZ (hF:bV K mg "how_many_done" jL ["rows"]) (bS:Has P w K mg base 101 "rows_within" ["row"] iA):Has P w K mg base 118 "how_many_done" ["rows"] (aA3 8):=by
 have all:∀ d,Has P w K mg base (110 + d) "how_many_done" ["rows"] (aA3 d):=fun d=>by
  induction d with
  | zero=>exact (Has.never hF cZ 109).imp fun ds M Q ⟨rs,_,z,_⟩=>z
  | succ d fH =>
   refine Has.mkZ (k:=110 + d) hF cZ (fun ds M Q ⟨a,z,_⟩=>by rw [z];rfl) fun f cdv A outer s H ds M Q E hr h=>?_
   obtain ⟨rs,rfl,dp,q⟩:=h
   refine ⟨_,(aF (aP (i:=1) cZ.nd aC)
  (aF (jF PassesOwn.never rfl (aB 0) (aZ (i:=2) cZ.nd) (aF (aP (i:=3) cZ.nd (aG bS hr (by omega) (aA (aB 2) aD)))
  (aE (aV (aQ aFT (aB 3) eZ) (aE (pI (i:=1) yD cZ.nd aC)) (aE (pI (i:=1) yD cZ.nd (aJ bD (aG fH hr (by omega) (aA (aB 3) aD)) (mD (aQ (bT hr) (aH (aB 2) aC) aM) (aH (aB 2) aC) aC))))))))
  (aE (aO (aB 1))))),?_⟩
   decreasing_tactic
   refine ⟨fun i ρ M'=>M' = M/\∃ o1 o2,ρ = [some (.tup (bM rs)),some (.int (dnS (rs.take i):Int)),o1,o2],⟨rfl,_,_,rfl⟩,fun i ρ M' _ _ a e=>(by cases e),?_,?_⟩
   ·rintro i d1 ρ M' hd ⟨rfl,o1,o2,rfl⟩
    obtain ⟨r,hr',rfl⟩:=iG hd
    have dr:=dp.2 r (List.mem_of_getElem? hr')
    decreasing_tactic
    refine ⟨r,rfl,?_⟩
    have fin:dnS (rs.take (i + 1)) = dnS (rs.take i) + dnR r:=by rw [fM hr',eE,dnS,dnS,Nat.add_zero]
    rw [fin]
    cases r with
    | pl p =>
     dsimp only [inR,dnR]
     decreasing_tactic
     exact ifT rfl ⟨rfl,_,_,rfl⟩
    | ag n ws =>
     obtain ⟨hn,dw⟩:=mJ dr
     dsimp only [inR,dnR,rwD]
     decreasing_tactic
     refine ifF rfl ⟨ws,rfl,dw,?_⟩
     decreasing_tactic
     rw [aL]
     refine ifT (by decide) ⟨qT (by unfold Bd;omega),?_⟩
     rw [Int.natCast_add,Int.natCast_mul]
     exact ⟨rfl,_,_,rfl⟩
    | kp ws =>
     have dw:=qH dr
     dsimp only [inR,dnR,rwD]
     decreasing_tactic
     refine ifF rfl ⟨ws,rfl,dw,?_⟩
     decreasing_tactic
     rw [aL]
     refine ifF (by decide) ⟨qT (by unfold Bd;decide),?_⟩
     rw [Int.natCast_add,Int.mul_one]
     exact ⟨rfl,_,_,rfl⟩
    | ev ws =>
     have dw:=mG dr
     dsimp only [inR,dnR,rwD]
     decreasing_tactic
     refine ifF rfl ⟨ws,rfl,dw,?_⟩
     decreasing_tactic
     rw [aL]
     refine ifF (by decide) ⟨qT (by unfold Bd;decide),?_⟩
     rw [Int.natCast_add,Int.mul_one]
     exact ⟨rfl,_,_,rfl⟩
   ·rintro ρ M' ⟨rfl,o1,o2,rfl⟩
    rw [cV,List.take_length]
    exact aT q
 exact all 8
theorem aAd {a b c d:Rat}:gA a b c d = 0 ↔ a = c/\b = d:=by
 unfold gA
 constructor
 ·intro h
  have s1:∀ x:Rat,0<=x * x:=fun x=>by
   rcases (show 0<=x ∨ 0<=-x by grind) with z | z
   ·exact Rat.mul_nonneg z z
   ·have:=Rat.mul_nonneg z z;grind
  have h1:=s1 (c - a)
  have h2:=s1 (d - b)
  have e1:(c - a) * (c - a) = 0:=by grind
  have e2:(d - b) * (d - b) = 0:=by grind
  rcases Rat.mul_eq_zero.mp e1 with z | z<;>rcases Rat.mul_eq_zero.mp e2 with y | y<;>constructor<;>grind
 ·rintro ⟨rfl,rfl⟩;grind
noncomputable def Dv (D:Nat) (x:Rat):Prop:=∃ z:Int,x * (D:Rat) = (z:Rat)
theorem Dv.add {D:Nat} {x y:Rat} (h:Dv D x) (h2:Dv D y):Dv D (x + y):=by
 obtain ⟨a,ha⟩:=h
 obtain ⟨b,hb⟩:=h2
 exact ⟨a + b,by rw [Rat.intCast_add,<- ha,<- hb];grind⟩
theorem Dv.up {D:Nat} {x:Rat} (h:Dv D x) (k:Nat):Dv (D * k) x:=by
 obtain ⟨a,ha⟩:=h
 refine ⟨a * (k:Int),?_⟩
 rw [Rat.intCast_mul,<- ha,Rat.natCast_mul,Rat.intCast_natCast];grind
theorem Dv.up' {D:Nat} {x:Rat} (h:Dv D x) (k:Nat):Dv (k * D) x:=by rw [Nat.mul_comm];exact h.up k
theorem Dv.zero {D:Nat}:Dv D 0:=⟨0,by grind⟩
theorem Dv.own (x:Rat):Dv x.den x:=⟨x.num,by
 have:=gD x
 rw [this];rfl⟩
noncomputable def Ab (B:Nat) (x:Rat):Prop:=-(B:Rat)<=x/\x<=(B:Rat)
theorem aJD (n:Nat):(0:Rat)<=(n:Rat):=by
 have:((0:Nat):Rat)<=(n:Rat):=by exact_mod_cast Nat.zero_le n
 exact this
theorem Ab.mono {B C:Nat} {x:Rat} (h:Ab B x) (l:B<=C):Ab C x:=by
 have:(B:Rat)<=(C:Rat):=by exact_mod_cast l
 exact ⟨by have:=h.1;grind,by have:=h.2;grind⟩
theorem Ab.add {B C:Nat} {x y:Rat} (h:Ab B x) (h2:Ab C y):Ab (B + C) (x + y):=by
 obtain ⟨a,b⟩:=h
 obtain ⟨c,d⟩:=h2
 constructor<;>rw [Rat.natCast_add]<;>grind
theorem Ab.mul {B C:Nat} {x y:Rat} (h:Ab B x) (h2:Ab C y):Ab (B * C) (x * y):=by
 obtain ⟨a,b⟩:=h
 obtain ⟨c,d⟩:=h2
 have p1:=Rat.mul_nonneg (show 0<=(B:Rat) - x by grind) (show 0<=(C:Rat) + y by grind)
 have p2:=Rat.mul_nonneg (show 0<=(B:Rat) + x by grind) (show 0<=(C:Rat) - y by grind)
 have p3:=Rat.mul_nonneg (show 0<=(B:Rat) - x by grind) (show 0<=(C:Rat) - y by grind)
 have p4:=Rat.mul_nonneg (show 0<=(B:Rat) + x by grind) (show 0<=(C:Rat) + y by grind)
 constructor<;>rw [Rat.natCast_mul]<;>grind
theorem Ab.zero {B:Nat}:Ab B 0:=⟨by have:=aJD B;grind,aJD B⟩
theorem vL {n:Nat} {x:Rat} (h:BQ n x):Ab (2 ^ n) x:=by
 have e:=gD x
 have d1:(1:Rat)<=((x.den:Int):Rat):=by
  have:((1:Int):Rat)<=((x.den:Int):Rat):=by exact_mod_cast (show (1:Int)<=(x.den:Int) by have:=x.den_pos;omega)
  exact this
 have hb:x.num.natAbs < 2 ^ n:=h.1
 have n1:((x.num:Int):Rat)<=((2 ^ n:Nat):Rat):=by
  have:x.num<=((2 ^ n:Nat):Int):=by omega
  have:((x.num:Int):Rat)<=(((2 ^ n:Nat):Int):Rat):=by exact_mod_cast this
  rw [Rat.intCast_natCast] at this;exact this
 have n2:-((2 ^ n:Nat):Rat)<=((x.num:Int):Rat):=by
  have:-((2 ^ n:Nat):Int)<=x.num:=by omega
  have:((-((2 ^ n:Nat):Int):Int):Rat)<=((x.num:Int):Rat):=by exact_mod_cast this
  rw [Rat.intCast_neg,Rat.intCast_natCast] at this;exact this
 have z:=aJD (2 ^ n)
 clear hb
 unfold Ab
 generalize ((2 ^ n:Nat):Rat) = P at *
 generalize ((x.den:Int):Rat) = d at *
 rw [e] at n1 n2
 constructor
 ·rcases (show 0<=x ∨ 0<=-x by grind) with c | c
  ·grind
  ·have:=Rat.mul_nonneg c (show 0<=d - 1 by grind)
   grind
 ·rcases (show 0<=x ∨ 0<=-x by grind) with c | c
  ·have:=Rat.mul_nonneg c (show 0<=d - 1 by grind)
   grind
  ·grind
structure Gf (A W k:Nat) (f:Fm):Prop where
 ok:f.Ok
 pos:0 < f.s
 ex:∃ N T:Nat,(0 < N/\N<=12 ^ k)/\(0 < T/\T<=12 ^ k)/\f.s * (N:Rat) = (T:Rat)/\Dv (N * A) f.px/\Dv (N * A) f.py
 ax:Ab (k * 12 ^ k * W) f.px
 ay:Ab (k * 12 ^ k * W) f.py
theorem Gf.one {A W:Nat}:Gf A W 0 .one:=⟨Fm.ok_one,by decide,⟨1,1,by decide,by decide,(by show (1:Rat) * ((1:Nat):Rat) = ((1:Nat):Rat);rw [Rat.one_mul]),Dv.zero,Dv.zero⟩,Ab.zero,Ab.zero⟩
noncomputable def plG (A W:Nat):Pl->Prop
 | .go a=>Dv A a/\Ab W a
 | .side a b=>(Dv A a/\Ab W a)/\Dv A b/\Ab W b
 | .skip a=>Dv A a/\Ab W a
 | .grow a=>∃ t b:Nat,(0 < t/\t<=12)/\(0 < b/\b<=12)/\a * (b:Rat) = (t:Rat)
 | .quarter a=>Dv A a/\Ab W a
 | .half a=>Dv A a/\Ab W a/\Ab W (a + a)
 | .arc a b c d=>((Dv A a/\Ab W a)/\Dv A b/\Ab W b)/\(Dv A c/\Ab W c)/\Dv A d/\Ab W d
 | _=>True
theorem plG.up {A W:Nat} {p:Pl} (m:Nat) (h:plG A W p):plG (A * m) W p:=by
 cases p with
 | go a=>exact ⟨h.1.up m,h.2⟩
 | side a b=>exact ⟨⟨h.1.1.up m,h.1.2⟩,h.2.1.up m,h.2.2⟩
 | skip a=>exact ⟨h.1.up m,h.2⟩
 | grow a=>exact h
 | quarter a=>exact ⟨h.1.up m,h.2⟩
 | half a=>exact ⟨h.1.up m,h.2⟩
 | arc a b c d=>exact ⟨⟨⟨h.1.1.1.up m,h.1.1.2⟩,h.1.2.1.up m,h.1.2.2⟩,⟨h.2.1.1.up m,h.2.1.2⟩,h.2.2.1.up m,h.2.2.2⟩
 | _=>trivial
structure aMG (A W K:Nat):Prop where
 a:0 < A
 w:0 < W
 b:((K + 1) * 12 ^ (K + 1) * W) * (12 ^ (K + 1) * A) < 2 ^ 4000
 s:12 ^ (K + 1) < 2 ^ 1100
section
variable {A W K k:Nat} {f:Fm}
end
noncomputable def rC:DSp:=fun ds M Q=>∃ c many,ds = [.int c,.int many]/\0<=many/\many<=100/\∀ (p:Addr) L,M p = none->kR many.toNat L->Q (.ref p) (bJ M p L)
theorem xU {n:Nat} {L:List D} (h:kR n L) {z:Int} (h0:0<=z) (h1:z < 1000000):kR (n + 1) (L ++ [.int z]):=by
 refine ⟨by rw [List.length_append,h.1];rfl,fun d hd=>?_⟩
 rcases List.mem_append.mp hd with e | e
 ·exact h.2 d e
 ·exact ⟨z,List.mem_singleton.mp e,h0,h1⟩
noncomputable abbrev tX:Stmt:=top 68
theorem gK:aR ["_law_cell","_law_many","_law_found","_law_number","_law_k"] ["_law_cell","_law_many"] (aI tX):=⟨rfl,rfl,rfl,by decide +kernel,rfl,by decide +kernel,by decide +kernel⟩
theorem aBs (hF:bV K mg "_law_row" tX ["_law_cell","_law_many"]) (lU:mg "abs" = none) (jZ:mg "range" = none):Has P w K mg base 101 "_law_row" ["_law_cell","_law_many"] rC:=by
 refine Has.mkZ hF gK (fun ds M Q ⟨a,b,e,_⟩=>by rw [e];rfl) fun f cdv A outer s H ds M Q E hr h=>?_
 obtain ⟨c,many,rfl,m0,m1,q⟩:=h
 refine ⟨_,(aF (aP (i:=2) gK.nd (bN aD))
  (aF (aP (i:=3) gK.nd (aB 0))
  (aF (aV (aQ wW (bW yG lU (aA (aB 0) aD)) (aJ tO aC aC)) (aE (aP (i:=3) gK.nd (aJ cF (aJ cW (aB 0) aC) aC))) aS)
  (aF (xC PassesOwn.never rfl jZ (aA (aB 1) aD) (aZ (i:=4) gK.nd) (aE (aV (aQ wW (bW yG lU (aA (aB 0) aD)) (aJ tO aC aC)) (aF (aP (i:=3) gK.nd (aJ cW (aJ bD (aB 3) aC) aC))
  (aE (fG (iT (aB 2) (aJ cW (aJ dI (aJ cW (aJ cF (aJ cF (aJ bD (aB 3) (aB 3)) (aJ bD aC (aB 3))) (aB 4)) aC) aC) (aJ tO aC aC)))))) (aF (fG (iT (aB 2) (aJ cW (aB 3) (aJ tO aC aC))))
  (aE (aP (i:=3) gK.nd (aJ dI (aB 3) (aJ tO aC aC))))))))
  (aE (aO (aB 2))))))),?_⟩
 decreasing_tactic
 refine ⟨by decide,fun p hp=>?_⟩
 have k6:(10:Int) ^ Int.toNat 6 = 1000000:=by decide
 have small:∀ z:Int,0<=z.fmod 1000000/\z.fmod 1000000 < 1000000:=fun z=>⟨Int.fmod_nonneg_of_pos _ (by decide),Int.fmod_lt_of_pos _ (by decide)⟩
 refine ⟨⟨by decide,by decide,by decide⟩,dif (fun c1=>?A) (fun c1=>?B)⟩
 case' A =>
  have c2:(if c < 0 then -c else c) < (10:Int) ^ Int.toNat 18->0<=c.fmod 2147483647 + 1/\c.fmod 2147483647 + 1 < 2147483649:=fun _=>by
   have:=Int.fmod_nonneg_of_pos c (show (0:Int) < 2147483647 by decide)
   have:=Int.fmod_lt_of_pos c (show (0:Int) < 2147483647 by decide)
   omega
  refine ⟨by decide,?_⟩
  generalize c.fmod 2147483647 + 1 = z0 at c2
 case' B =>
  have c2:(if c < 0 then -c else c) < (10:Int) ^ Int.toNat 18->0<=c/\c < 2147483649:=fun z=>absurd z c1
  obtain ⟨z0,hz0⟩:∃ z0,z0 = c:=⟨c,rfl⟩
  have c2:(if c < 0 then -c else c) < (10:Int) ^ Int.toNat 18->0<=z0/\z0 < 2147483649:=by rw [hz0];exact c2
  rw [show (some (D.int c) :: some (.int many) :: some (.ref p) :: some (.int c) :: [none]:cO) = [some (.int c),some (.int many),some (.ref p),some (.int z0),none] by rw [hz0]]
 all_goals
  refine ⟨⟨by omega,by omega⟩,fun i ρ M'=>∃ L,M' = bJ M p L/\kR i L/\∃ (z:Int) (o:Option D),((if c < 0 then -c else c) < (10:Int) ^ Int.toNat 18->0<=z/\z < 2147483649)/\ρ = [some (.int c),some (.int many),some (.ref p),some (.int z),o],⟨[],rfl,⟨rfl,fun d h=>nomatch h⟩,z0,none,c2,rfl⟩,?_,?_⟩
  ·rintro i ρ M' hi ⟨L,rfl,hL,z,o,hz,rfl⟩
   have hi2:i < 100:=by omega
   have lL:L.length < 1000:=by rw [hL.1];omega
   decreasing_tactic
   refine ⟨⟨by decide,by decide,by decide⟩,dif (fun d1=>?_) (fun d1=>?_)⟩
   ·obtain ⟨z1,z2⟩:=hz d1
    have hn0:=Int.fmod_nonneg_of_pos (z * 48271) (show (0:Int) < 2147483647 by decide)
    have hn1:=Int.fmod_lt_of_pos (z * 48271) (show (0:Int) < 2147483647 by decide)
    refine ⟨qT (by unfold Bd;decide),by decide,⟨_,aK⟩,?_⟩
    generalize (z * 48271).fmod 2147483647 = nn at hn0 hn1
    have bn:Bd 63 nn:=Bd.of (by omega) (by omega)
    refine ⟨oH bn,qT bn,by decide,⟨by decide,by decide +kernel⟩,⟨by decide,by decide,by decide⟩,by rw [k6];decide,_,_,rfl,aK,lL,_,by rw [zW],xU hL ?_ ?_,nn,_,fun _=>⟨by omega,by omega⟩,rfl⟩
    ·rw [k6];exact (small _).1
    ·rw [k6];exact (small _).2
   ·refine ⟨⟨_,aK⟩,⟨by decide,by decide,by decide⟩,by rw [k6];decide,_,_,rfl,aK,lL,⟨by decide,by decide,by decide⟩,⟨by rw [k6];decide,by rw [k6];decide +kernel⟩,_,by rw [zW],xU hL ?_ ?_,_,_,fun z=>absurd z d1,rfl⟩
    ·rw [k6];exact (small _).1
    ·rw [k6];exact (small _).2
  ·rintro ρ M' ⟨L,rfl,hL,z,o,hz,rfl⟩
   decreasing_tactic
   exact ⟨_,.refl _,q p L hp hL⟩
theorem rA {p r:Rat} {m n:Nat} {M:DM} {Q:DQ} (h1:BQ m p) (h2:BQ n r) (l:m + n<=8998) (q:Q (FQ (p * r)) M):iE [FQ p,FQ r] M Q:=⟨_,_,_,_,rfl,trivial,h1,h2,l,q⟩
theorem aCR {p r:Rat} {m n:Nat} {M:DM} {Q:DQ} (h1:BQ m p) (h2:BQ n r) (l:m + n<=8998) (q:Q (FQ (p + r)) M):pA [FQ p,FQ r] M Q:=⟨_,_,_,_,rfl,trivial,h1,h2,l,q⟩
noncomputable def Un (u:Rat):Prop:=u = 0 ∨ u = 1 ∨ u = -1
theorem aIT:(D.tup [.int (-1),.int 1]) = FQ (-1):=rfl
theorem aI4 {p q:Int} (h:p ≠ 0 ∨ q ≠ 0):0 < q * q + p * p:=by
 have n:∀ z:Int,0<=z * z:=fun z=>by
  rcases Int.le_total 0 z with c | c
  ·exact Int.mul_nonneg c c
  ·exact Int.mul_nonneg_of_nonpos_of_nonpos c c
 have k:∀ z:Int,z ≠ 0->z * z ≠ 0:=fun z hz=>Int.mul_ne_zero hz hz
 have h1:=n p
 have h2:=n q
 rcases h with h | h
 ·have:=k p h;omega
 ·have:=k q h;omega
theorem aKV {p q:Int} (h:0 < q * q + p * p) {uu vv:Rat} (hu:((q * q - p * p:Int):Rat) / ((q * q + p * p:Int):Rat) = uu) (hv:((2 * p * q:Int):Rat) / ((q * q + p * p:Int):Rat) = vv):uu * uu + vv * vv = 1:=by
 have n0:((q * q + p * p:Int):Rat) ≠ 0:=by
  have:=aBM h
  grind
 rw [<- hu,<- hv]
 rw [Rat.intCast_sub,Rat.intCast_add,Rat.intCast_mul,Rat.intCast_mul,Rat.intCast_mul,Rat.intCast_mul] at *
 rw [show (((2:Int)):Rat) = 2 from rfl]
 generalize (p:Rat) = a at *
 generalize (q:Rat) = b at *
 grind
theorem aI2 {x y uu vv:Rat} (c:uu * uu + vv * vv = 1) (nz:¬ (x = 0/\y = 0)):¬ (x = x + (uu * (x * -1) + vv * y)/\y = y + (vv * (x * -1) + uu * (y * -1)))/\gA x y 0 0 = gA x y (x + (uu * (x * -1) + vv * y)) (y + (vv * (x * -1) + uu * (y * -1))):=by
 have e:gA x y 0 0 = gA x y (x + (uu * (x * -1) + vv * y)) (y + (vv * (x * -1) + uu * (y * -1))):=by
  unfold gA
  have:(x + (uu * (x * -1) + vv * y) - x) * (x + (uu * (x * -1) + vv * y) - x) + (y + (vv * (x * -1) + uu * (y * -1)) - y) * (y + (vv * (x * -1) + uu * (y * -1)) - y) = (uu * uu + vv * vv) * (x * x + y * y):=by grind
  rw [this,c]
  grind
 refine ⟨fun z=>?_,e⟩
 rw [aAd.mpr z] at e
 exact nz (aAd.mp e)
theorem Wh.dv {D:Nat} {x:Rat} (h:Wh x):Dv D x:=by
 obtain ⟨z,rfl,_,_⟩:=h
 exact ⟨z * (D:Int),by rw [Rat.intCast_mul,Rat.intCast_natCast]⟩
theorem Wh.ab {x:Rat} (h:Wh x):Ab 20 x:=by
 obtain ⟨z,rfl,h1,h2⟩:=h
 have a:(((-20:Int)):Rat)<=(z:Rat):=by exact_mod_cast h1
 have b:(z:Rat)<=((20:Int):Rat):=by exact_mod_cast h2
 exact ⟨a,b⟩
theorem Wh.neg {x:Rat} (h:Wh x):Wh (x * -1):=by
 obtain ⟨z,rfl,h1,h2⟩:=h
 exact ⟨-z,by rw [Rat.intCast_neg];grind,by omega,by omega⟩
theorem Wh.mul {D:Nat} {x y:Rat} (h:Wh x) (d:Dv D y):Dv D (y * x):=by
 obtain ⟨z,rfl,h1,h2⟩:=h
 obtain ⟨a,ha⟩:=d
 exact ⟨a * z,by rw [Rat.intCast_mul,<- ha];grind⟩
theorem aEu {x y uu vv:Rat} {pp qq:Int} (wx:Wh x) (wy:Wh y) (pos:0 < qq * qq + pp * pp) (bd:Bd 9 (qq * qq + pp * pp)) (hu:((qq * qq - pp * pp:Int):Rat) / ((qq * qq + pp * pp:Int):Rat) = uu) (hv:((2 * pp * qq:Int):Rat) / ((qq * qq + pp * pp:Int):Rat) = vv) (bu:BQ 9 uu) (bv:BQ 10 vv):∃ A:Nat,0 < A/\A<=2 ^ 48/\plG A (2 ^ 25) (.arc x y (x + (uu * (x * -1) + vv * y)) (y + (vv * (x * -1) + uu * (y * -1)))):=by
 generalize qq * qq + pp * pp = c at *
 have c0:(c:Rat) ≠ 0:=by
  have:=aBM pos
  grind
 have ec:((c.toNat:Nat):Rat) = (c:Rat):=by
  rw [<- Rat.intCast_natCast,Int.toNat_of_nonneg (by omega)]
 have du:Dv c.toNat uu:=⟨_,by rw [ec,<- hu];exact Rat.div_mul_cancel c0⟩
 have dv:Dv c.toNat vv:=⟨_,by rw [ec,<- hv];exact Rat.div_mul_cancel c0⟩
 have au:=vL bu
 have av:=vL bv
 have hc:c.natAbs < 2 ^ 9:=bd
 have k {z:Rat} (h:Wh z):Dv c.toNat z/\Ab (2 ^ 25) z:=⟨h.dv,h.ab.mono (by decide)⟩
 exact ⟨c.toNat,by omega,by omega,⟨k wx,k wy⟩,⟨wx.dv.add ((wx.neg.mul du).add (wy.mul dv)),(wx.ab.add ((au.mul wx.neg.ab).add (av.mul wy.ab))).mono (by decide)⟩,wy.dv.add ((wx.neg.mul dv).add (wy.neg.mul du)),(wy.ab.add ((av.mul wx.neg.ab).add (au.mul wy.neg.ab))).mono (by decide)⟩
noncomputable def xB:DSp:=fun ds M Q=>∃ (a:Addr) (n:Nat) (L:List D),ds = [.ref a]/\M a = some L/\kR n L/\5<=n/\∀ x y u v,BQ 100 x->BQ 100 y->BQ 100 u->BQ 100 v->¬ (x = 0/\y = 0)->¬ (x = u/\y = v)->gA x y 0 0 = gA x y u v->(∃ A:Nat,0 < A/\A<=2 ^ 48/\plG A (2 ^ 25) (.arc x y u v))->Q (.tup [FQ x,FQ y,FQ u,FQ v]) M
noncomputable abbrev tY:Stmt:=top 73
theorem eQ:aR ["_law_row_here","_law_x","_law_y","_law_p","_law_q","_law_u","_law_v","_law_back","_law_right","_law_up"] ["_law_row_here"] (aI tY):=⟨rfl,rfl,rfl,by decide +kernel,rfl,by decide +kernel,by decide +kernel⟩
theorem aCa (hF:bV K mg "_law_bow" tY ["_law_row_here"]) (eW:Has P w K mg base 102 "_law_drawn" ["_law_one","_law_other"] nO) (bG:Has P w K mg base 101 "_law_ratio" ["_law_top","_law_bottom"] fC) (iR:Has P w K mg base 102 "_law_plus" ["_law_one","_law_other"] pA) (bZ:Has P w K mg base 102 "_law_times" ["_law_one","_law_other"] iE) (aEd:mg "min" = none):Has P w K mg base 103 "_law_bow" ["_law_row_here"] xB:=by
 refine Has.mkZ hF eQ (fun ds M Q ⟨a,n,L,e,_⟩=>by rw [e];rfl) fun f cdv A outer s H ds M Q E hr h=>?_
 obtain ⟨a,n,L,rfl,ha,hL,hn,q⟩:=h
 refine ⟨_,(aF (pX (i:=1) (j:=2) rfl eQ.nd (aA (aG eW hr (by decide) (aA (aH (aB 0) aC) (aA aC aD))) (aA (aG eW hr (by decide) (aA (aH (aB 0) aC) (aA aC aD))) aD)))
  (kK (aV (fP (eX (aQ (bT hr) (aH (aB 1) aC) aC) (eJ (aQ (bT hr) (aH (aB 2) aC) aC)))) (aE (aP (i:=2) eQ.nd (aN (aA aC (aA aC aD))))) aS)
  (aF (jT (aH (bN (aA (aN (aA aC (aA aC aD))) (aA (aN (aA aC (aA aC aD))) (aA (aN (aA (aJ lO (aJ cW (aH (aB 0) aC) aC) aC) (aA (aJ cF aC (aJ cW (aH (aB 0) aC) aC)) aD))) aD)))) (bW (aJh rfl) aEd (aA aC (aA (aJ cW (aH (aB 0) aC) aC) aD)))) (jR (n:=2) rfl (bX (aZ (i:=3) eQ.nd) (bX (aZ (i:=4) eQ.nd) hZ))))
  (aF (aP (i:=5) eQ.nd (aG bG hr (by decide) (aA (aJ lO (aJ bD (aB 4) (aB 4)) (aJ bD (aB 3) (aB 3))) (aA (aJ cF (aJ bD (aB 4) (aB 4)) (aJ bD (aB 3) (aB 3))) aD))))
  (aF (aP (i:=6) eQ.nd (aG bG hr (by decide) (aA (aJ bD (aJ bD aC (aB 3)) (aB 4)) (aA (aJ cF (aJ bD (aB 4) (aB 4)) (aJ bD (aB 3) (aB 3))) aD))))
  (aF (aP (i:=7) eQ.nd (aN (aA (cU aC) (aA aC aD))))
  (aF (aP (i:=8) eQ.nd (aG iR hr (by decide) (aA (aG bZ hr (by decide) (aA (aB 5) (aA (aG bZ hr (by decide) (aA (aB 1) (aA (aB 7) aD))) aD))) (aA (aG bZ hr (by decide) (aA (aB 6) (aA (aB 2) aD))) aD))))
  (aF (aP (i:=9) eQ.nd (aG iR hr (by decide) (aA (aG bZ hr (by decide) (aA (aB 6) (aA (aG bZ hr (by decide) (aA (aB 1) (aA (aB 7) aD))) aD))) (aA (aG bZ hr (by decide) (aA (aB 5) (aA (aG bZ hr (by decide) (aA (aB 2) (aA (aB 7) aD))) aD))) aD))))
  (aE (aO (aN (aA (aB 1) (aA (aB 2) (aA (aG iR hr (by decide) (aA (aB 1) (aA (aB 8) aD))) (aA (aG iR hr (by decide) (aA (aB 2) (aA (aB 9) aD))) aD))))))))))))))),?_⟩
 decreasing_tactic
 obtain ⟨z0,e0,_⟩:=hL.at (i:=0) (by omega)
 obtain ⟨z1,e1,_⟩:=hL.at (i:=1) (by omega)
 obtain ⟨z2,e2,_⟩:=hL.at (i:=2) (by omega)
 obtain ⟨z3,e3,_⟩:=hL.at (i:=3) (by omega)
 obtain ⟨z4,e4,_⟩:=hL.at (i:=4) (by omega)
 refine ⟨_,_,ha,e0,_,_,rfl,fun x hx wx=>?_⟩
 decreasing_tactic
 refine ⟨_,_,ha,e1,_,_,rfl,fun y hy wy=>?_⟩
 decreasing_tactic
 refine ⟨fun ρ' M'=>M = M'/\∃ y:Rat,ρ' = [some (.ref a),some (FQ x),some (FQ y),none,none,none,none,none,none,none]/\BQ 24 y/\¬ (x = 0/\y = 0)/\((1:Int).fmod 5 ≠ 4->(1:Int).fmod 3 ≠ 2->Wh y),?_,?_⟩
 ·rw [bI]
  refine dif (fun c1=>?_) (fun c1=>?_)
  ·rw [bI]
   refine dif (fun c2=>?_) (fun c2=>?_)
   ·exact ⟨by decide,rfl,2,rfl,⟨by unfold Bd;decide,by unfold Bd;decide⟩,(fun z=>absurd z.2 (by decide)),fun _ _=>⟨2,rfl,by decide,by decide⟩⟩
   ·exact ⟨rfl,y,rfl,hy,(fun z=>c2 (by rw [z.2];rfl)),wy⟩
  ·exact ifF rfl ⟨rfl,y,rfl,hy,(fun z=>c1 (by rw [z.1];rfl)),wy⟩
 ·clear hy wy y
  rintro _ _ ⟨rfl,y,rfl,hy,nz,wy⟩
  decreasing_tactic
  refine ⟨by decide,by decide,_,_,ha,e2,?_⟩
  decreasing_tactic
  refine ⟨by decide,_,_,ha,e3,?_⟩
  decreasing_tactic
  refine ⟨by decide,by decide,by decide,fun p hp=>?_⟩
  refine ⟨_,_,by rw [gJ (aBr ha hp)];exact ha,e4,?_⟩
  decreasing_tactic
  have a1:=Int.fmod_nonneg_of_pos z2 (show (0:Int) < 19 by decide)
  have a2:=Int.fmod_lt_of_pos z2 (show (0:Int) < 19 by decide)
  have a3:=Int.fmod_nonneg_of_pos z3 (show (0:Int) < 9 by decide)
  have a4:=Int.fmod_lt_of_pos z3 (show (0:Int) < 9 by decide)
  obtain ⟨pp,qq,ek,p0,p1,q0,q1,np⟩:∃ pp qq:Int,atI [D.tup [.int 1,.int 0],.tup [.int 0,.int 1],.tup [.int (z2.fmod 19 - 9),.int (1 + z3.fmod 9)]] (if z4.fmod 8 < 2 then z4.fmod 8 else 2) = some (.tup [.int pp,.int qq])/\-10<=pp/\pp<=10/\-10<=qq/\qq<=10/\(pp ≠ 0 ∨ qq ≠ 0):=by
   have b1:=Int.fmod_nonneg_of_pos z4 (show (0:Int) < 8 by decide)
   by_cases c:z4.fmod 8 < 2
   ·rw [if_pos c]
    have:z4.fmod 8 = 0 ∨ z4.fmod 8 = 1:=by omega
    rcases this with e | e<;>rw [e]
    ·exact ⟨1,0,rfl,by decide,by decide,by decide,by decide,.inl (by decide)⟩
    ·exact ⟨0,1,rfl,by decide,by decide,by decide,by decide,.inr (by decide)⟩
   ·rw [if_neg c]
    exact ⟨_,_,rfl,by omega,by omega,by omega,by omega,.inr (by omega)⟩
  have s1:=bC.new hp [D.tup [.int 1,.int 0],.tup [.int 0,.int 1],.tup [.int (z2.fmod 19 - 9),.int (1 + z3.fmod 9)]]
  have bp:Bd 4 pp:=Bd.of (by omega) (by omega)
  have bq:Bd 4 qq:=Bd.of (by omega) (by omega)
  refine ⟨by decide,_,_,aK,ek,?_⟩
  decreasing_tactic
  have pos:0 < qq * qq + pp * pp:=aI4 np
  have bu:BQ 9 (((qq * qq - pp * pp:Int):Rat) / ((qq * qq + pp * pp:Int):Rat)):=.make (by omega) (bq.mul bq |>.sub (bp.mul bp)) (bq.mul bq |>.add (bp.mul bp))
  have bv:BQ 10 (((2 * pp * qq:Int):Rat) / ((qq * qq + pp * pp:Int):Rat)):=.make (by omega) (((Bd.mul (m:=2) (x:=2) (by unfold Bd;decide) bp).mul bq)) ((bq.mul bq |>.add (bp.mul bp)).mono (by decide))
  have bd:Bd 9 (qq * qq + pp * pp):=bq.mul bq |>.add (bp.mul bp)
  generalize hu:((qq * qq - pp * pp:Int):Rat) / ((qq * qq + pp * pp:Int):Rat) = uu at bu
  generalize hv:((2 * pp * qq:Int):Rat) / ((qq * qq + pp * pp:Int):Rat) = vv at bv
  have m1:BQ 2 (-1):=⟨by unfold Bd;decide,by unfold Bd;decide⟩
  refine ⟨rfl,cT bq bq,cT bp bp,cT bq bq,cT bp bp,_,_,rfl,pos,bd.mono (by decide),oH (by unfold Bd;decide),cT ((Bd.mul (m:=2) (x:=2) (by unfold Bd;decide) bp)) bq,cT bq bq,cT bp bp,_,_,rfl,pos,bd.mono (by decide),?_⟩
  rw [hu,hv,aIT]
  have w3:=hx.mul m1
  have w4:=bu.mul w3
  have w5:=bv.mul hy
  have w8:=bv.mul w3
  have w9:=hy.mul m1
  have w10:=bu.mul w9
  have bk:=aI2 (x:=x) (y:=y) (aKV pos hu hv) nz
  exact ⟨by decide,rA hx m1 (by decide) (rA bu w3 (by decide) (rA bv hy (by decide) (aCR w4 w5 (by decide) (rA hx m1 (by decide) (rA bv w3 (by decide) (rA hy m1 (by decide) (rA bu w9 (by decide) (aCR w8 w10 (by decide) (aCR hx (w4.add w5) (by decide) (aCR hy (w8.add w10) (by decide) ⟨by decide,M,s1,q _ _ _ _ (hx.mono (by decide)) (hy.mono (by decide)) ((hx.add (w4.add w5)).mono (by decide)) ((hy.add (w8.add w10)).mono (by decide)) nz bk.1 bk.2 (aEu (wx (by decide) (by decide)) (wy (by decide) (by decide)) pos bd hu hv bu bv)⟩))))))))))⟩
theorem aHt {n:Nat} {L:List D} (h:kR n L) (lo hi:Nat) (l:lo<=hi) (r:hi<=n):kR (hi - lo) (Dd.cutD L (some (lo:Int)) (some (hi:Int))):=by
 unfold Dd.cutD
 rw [h.1,HT.sIx_nat,HT.sIx_nat,Nat.min_eq_left (by omega),Nat.min_eq_left (by omega)]
 exact ⟨by rw [List.length_take,List.length_drop,h.1];omega,fun d hd=>h.2 d (List.mem_of_mem_drop (List.mem_of_mem_take hd))⟩
theorem e13:FQ (1 / 3:Rat) = D.tup [.int 1,.int 3]:=by
 unfold FQ
 rw [show (1 / 3:Rat).num = 1 by decide +kernel,show (1 / 3:Rat).den = 3 by decide +kernel];rfl
theorem g1 {a:Rat} (h:BQ 24 a):∃ A:Nat,0 < A/\A<=2 ^ 48/\Dv A a/\Ab (2 ^ 25) a :=
 ⟨a.den,a.den_pos,Nat.le_trans (Nat.le_of_lt (show a.den < 2 ^ 24 from h.2)) (by decide),.own a,(vL h).mono (by decide)⟩
theorem gh {a:Rat} (h:BQ 24 a):∃ A:Nat,0 < A/\A<=2 ^ 48/\Dv A a/\Ab (2 ^ 25) a/\Ab (2 ^ 25) (a + a) :=
 ⟨a.den,a.den_pos,Nat.le_trans (Nat.le_of_lt (show a.den < 2 ^ 24 from h.2)) (by decide),.own a,(vL h).mono (by decide),((vL h).add (vL h)).mono (by decide)⟩
theorem g2 {a b:Rat} (h:BQ 24 a) (h2:BQ 24 b):∃ A:Nat,0 < A/\A<=2 ^ 48/\(Dv A a/\Ab (2 ^ 25) a)/\Dv A b/\Ab (2 ^ 25) b :=
 ⟨a.den * b.den,Nat.mul_pos a.den_pos b.den_pos,Nat.le_trans (Nat.mul_le_mul (Nat.le_of_lt (show a.den < 2 ^ 24 from h.2)) (Nat.le_of_lt (show b.den < 2 ^ 24 from h2.2))) (by decide),⟨(Dv.own a).up _,(vL h).mono (by decide)⟩,(Dv.own b).up' _,(vL h2).mono (by decide)⟩
theorem g3 {t b:Int} (t0:0 < t) (t1:t<=12) (b0:0 < b) (b1:b<=12):plG 1 (2 ^ 25) (.grow ((t:Rat) / (b:Rat))):=by
 have c0:(b:Rat) ≠ 0:=by
  have:=aBM b0
  grind
 refine ⟨t.toNat,b.toNat,by omega,by omega,?_⟩
 rw [<- Rat.intCast_natCast,<- Rat.intCast_natCast,Int.toNat_of_nonneg (by omega),Int.toNat_of_nonneg (by omega)]
 exact Rat.div_mul_cancel c0
theorem b13:BQ 24 (1 / 3):=⟨by unfold Bd;decide +kernel,by unfold Bd;decide +kernel⟩
noncomputable def mY:DSp:=fun ds M Q=>∃ (a:Addr) (n:Nat) (L:List D),ds = [.ref a]/\M a = some L/\kR n L/\8<=n/\∀ p,plB 100 p->(∃ A:Nat,0 < A/\A<=2 ^ 48/\plG A (2 ^ 25) p)->Q (plD p) M
noncomputable abbrev pU:Stmt:=top 74
theorem kA:aR ["_law_row_here","_law_words","_law_word","_law_one"] ["_law_row_here"] (aI pU):=⟨rfl,rfl,rfl,by decide +kernel,rfl,by decide +kernel,by decide +kernel⟩
theorem zB (hF:bV K mg "_law_plain" pU ["_law_row_here"]) (iO:mg "int" = none) (eW:Has P w K mg base 102 "_law_drawn" ["_law_one","_law_other"] nO) (bG:Has P w K mg base 101 "_law_ratio" ["_law_top","_law_bottom"] fC) (tZ:Has P w K mg base 103 "_law_bow" ["_law_row_here"] xB):Has P w K mg base 104 "_law_plain" ["_law_row_here"] mY:=by
 refine Has.mkZ hF kA (fun ds M Q ⟨_,_,_,z,_⟩=>by rw [z];rfl) fun f cdv A outer s H ds M Q E hr h=>?_
 obtain ⟨a,n,L,rfl,ha,hL,hn,q⟩:=h
 refine ⟨_,(aF (aP (i:=1) kA.nd (bN (aA aM (aA aM (aA aM (aA aM (aA aM (aA aM (aA aM (aA aM (aA aM (aA aM (aA aM (aA aM (aA aM aD)))))))))))))))
  (aF (aP (i:=2) kA.nd (aH (aJ cF (aB 1) (bN (aA aM (aA aM (aA aM aD))))) (aJ cW (aH (aB 0) aC) aC)))
  (aF (aP (i:=3) kA.nd (aG eW hr (by decide) (aA (aH (aB 0) aC) (aA (aH (aB 0) aC) aD))))
  (aF (aV (aQ sT (aB 2) (bN (aA aM (aA aM aD))) rfl) (aE (aO (aN (aA (aB 2) (aA (aB 3) aD))))) aS)
  (aF (aV (aQ (bT hr) (aB 2) aM) (aE (aO (aN (aA (aB 2) (aA (aB 3) (aA (aG eW hr (by decide) (aA (aH (aB 0) aC) (aA (aH (aB 0) aC) aD))) aD)))))) aS)
  (aF (aV (aQ (bT hr) (aB 2) aM) (aE (aO (aN (aA (aB 2) (aA (aG bG hr (by decide) (aA (aJ cF aC (aJ cW (aH (aB 0) aC) aC)) (aA (aJ cF aC (aJ cW (aH (aB 0) aC) aC)) aD))) aD))))) aS)
  (aF (aV (aQ sT (aB 2) (bN (aA aM (aA aM aD))) rfl) (aE (aO (aN (aA (aB 2) (aA (aH (bN (aA (aB 3) (aA (aN (aA aC (aA aC aD))) aD))) (eP uQ iO (aA (cB (bT hr) (aH (aB 3) aC) aC) aD))) aD))))) aS)
  (aF (aV (aQ (bT hr) (aB 2) aM) (aE (aO (aJ mO (aN (aA (aB 2) aD)) (aG tZ hr (by decide) (aA (qB (aB 0) (iH aC) (iH aC)) aD))))) aS)
  (aE (aO (aN (aA (aB 2) aD)))))))))))),?_⟩
 decreasing_tactic
 obtain ⟨z0,e0,_⟩:=hL.at (i:=0) (by omega)
 obtain ⟨z1,e1,_⟩:=hL.at (i:=1) (by omega)
 obtain ⟨z2,e2,_⟩:=hL.at (i:=2) (by omega)
 obtain ⟨z3,e3,_⟩:=hL.at (i:=3) (by omega)
 obtain ⟨z4,e4,_⟩:=hL.at (i:=4) (by omega)
 refine ⟨by decide,fun p0 hp0=>⟨by decide,fun p1 hp1=>?_⟩⟩
 obtain ⟨n10,hp1'⟩:=oG hp1
 refine ⟨_,_,by rw [gJ (Ne.symm n10)];exact aK,aK,by decide,fun p2 hp2=>?_⟩
 have s1:=((bC.new hp0 [D.str "go",.str "go",.str "side",.str "quarter",.str "half",.str "arc",.str "dot",.str "skip",.str "left",.str "right",.str "round",.str "mirror",.str "grow"]).trans (bC.new hp1 [D.str "side",.str "quarter",.str "arc"])).trans (bC.new hp2 [D.str "go",.str "go",.str "side",.str "quarter",.str "half",.str "arc",.str "dot",.str "skip",.str "left",.str "right",.str "round",.str "mirror",.str "grow",.str "side",.str "quarter",.str "arc"])
 decreasing_tactic
 refine ⟨L,_,s1 _ _ ha,e0,?_⟩
 decreasing_tactic
 obtain ⟨wd,ew,hw⟩:∃ wd:Str,atI [D.str "go",.str "go",.str "side",.str "quarter",.str "half",.str "arc",.str "dot",.str "skip",.str "left",.str "right",.str "round",.str "mirror",.str "grow",.str "side",.str "quarter",.str "arc"] (z0.fmod 16) = some (.str wd)/\(((wd = "go" ∨ wd = "skip") ∨ wd = "side" ∨ wd = "grow") ∨ ((wd = "quarter" ∨ wd = "half") ∨ wd = "arc") ∨ (wd = "dot" ∨ wd = "left") ∨ wd = "right" ∨ wd = "round" ∨ wd = "mirror"):=by
  have h1:=Int.fmod_nonneg_of_pos z0 (show (0:Int) < 16 by decide)
  have h2:=Int.fmod_lt_of_pos z0 (show (0:Int) < 16 by decide)
  have:((z0.fmod 16 = 0 ∨ z0.fmod 16 = 1 ∨ z0.fmod 16 = 2 ∨ z0.fmod 16 = 3) ∨ z0.fmod 16 = 4 ∨ z0.fmod 16 = 5 ∨ z0.fmod 16 = 6 ∨ z0.fmod 16 = 7) ∨ (z0.fmod 16 = 8 ∨ z0.fmod 16 = 9 ∨ z0.fmod 16 = 10 ∨ z0.fmod 16 = 11) ∨ z0.fmod 16 = 12 ∨ z0.fmod 16 = 13 ∨ z0.fmod 16 = 14 ∨ z0.fmod 16 = 15:=by omega
  rcases this with ((e | e | e | e) | e | e | e | e) | (e | e | e | e) | e | e | e | e<;>rw [e]<;>exact ⟨_,rfl,by decide⟩
 refine ⟨by decide,_,_,aK,ew,?_⟩
 generalize bJ (bJ (bJ M p0 _) p1 _) p2 _ = M2 at s1 ⊢
 refine ⟨L,_,s1 _ _ ha,e1,L,_,s1 _ _ ha,e2,z1,z2,rfl,fun one bone _=>?_⟩
 decreasing_tactic
 refine ⟨by decide,fun p3 hp3=>⟨["go","skip"],aK,?_⟩⟩
 have s3:=s1.trans (bC.new hp3 [D.str "go",.str "skip"])
 have ha3:=s3 _ _ ha
 decreasing_tactic
 generalize bJ M2 p3 _ = M3 at s3 ha3 ⊢
 have m24 {x:Rat} (h:BQ 24 x):BQ 100 x:=h.mono (by decide)
 rcases hw with ((rfl | rfl) | rfl | rfl) | ((rfl | rfl) | rfl) | (rfl | rfl) | rfl | rfl | rfl
 ·exact ifT (by decide) ⟨by decide,M,s3,q (.go one) (m24 bone) (g1 bone)⟩
 ·exact ifT (by decide) ⟨by decide,M,s3,q (.skip one) (m24 bone) (g1 bone)⟩
 ·refine ifF (by decide) ?_
  rw [aL]
  refine ifT (by decide) ⟨L,_,ha3,e3,L,_,ha3,e4,z3,z4,rfl,fun two btwo _=>?_⟩
  decreasing_tactic
  exact ⟨by decide,M,s3,q (.side one two) ⟨m24 bone,m24 btwo⟩ (g2 bone btwo)⟩
 ·refine ifF (by decide) ?_
  rw [aL]
  refine ifF (by decide) ?_
  rw [aL]
  refine ifT (by decide) ⟨L,_,ha3,e1,?_⟩
  decreasing_tactic
  refine ⟨by decide,L,_,ha3,e2,?_⟩
  decreasing_tactic
  have h1:=Int.fmod_nonneg_of_pos z1 (show (0:Int) < 12 by decide)
  have h2:=Int.fmod_lt_of_pos z1 (show (0:Int) < 12 by decide)
  have h3:=Int.fmod_nonneg_of_pos z2 (show (0:Int) < 12 by decide)
  have h4:=Int.fmod_lt_of_pos z2 (show (0:Int) < 12 by decide)
  refine ⟨by decide,_,_,rfl,by omega,(vI (by omega) (by omega)).mono (by decide),?_⟩
  decreasing_tactic
  have sp:(0:Rat) < ((1 + z1.fmod 12:Int):Rat) / ((1 + z2.fmod 12:Int):Rat):=aEG (aBM (by omega)) (aBM (by omega))
  exact ⟨by decide,M,s3,q (.grow _) ⟨m24 (aFd (by omega) (by omega) (by omega) (by omega)),sp⟩ ⟨1,by decide,by decide,g3 (by omega) (by omega) (by omega) (by omega)⟩⟩
 all_goals
  refine ifF (by decide) ?_
  rw [aL]
  refine ifF (by decide) ?_
  rw [aL]
  refine ifF (by decide) ?_
  refine ⟨by decide,fun p4 hp4=>⟨["quarter","half"],aK,?_⟩⟩
  have s4:=s3.trans (bC.new hp4 [D.str "quarter",.str "half"])
  have ha4:=s4 _ _ ha
  decreasing_tactic
  generalize bJ M3 p4 _ = M4 at s4 ha4 ⊢
 case inr.inl.inl.inl =>
  refine ifT (by decide) ⟨by decide,by decide,fun p5 hp5=>?_⟩
  rw [bI]
  by_cases c:one.num = 0
  ·rw [decide_eq_true c]
   have fin:=q (.quarter (1 / 3)) ⟨⟨by unfold Bd;decide +kernel,by unfold Bd;decide +kernel⟩,by decide +kernel⟩ (g1 b13)
   dsimp only [plD] at fin
   rw [e13] at fin
   exact ⟨_,_,aK,rfl,by decide,M,s4.trans (bC.new hp5 _),fin⟩
  ·rw [decide_eq_false c]
   exact ⟨_,_,aK,rfl,by decide,M,s4.trans (bC.new hp5 _),q (.quarter one) ⟨m24 bone,fun z=>c (by rw [z];rfl)⟩ (g1 bone)⟩
 case inr.inl.inl.inr =>
  refine ifT (by decide) ⟨by decide,by decide,fun p5 hp5=>?_⟩
  rw [bI]
  by_cases c:one.num = 0
  ·rw [decide_eq_true c]
   have fin:=q (.half (1 / 3)) ⟨⟨by unfold Bd;decide +kernel,by unfold Bd;decide +kernel⟩,by decide +kernel⟩ (gh b13)
   dsimp only [plD] at fin
   rw [e13] at fin
   exact ⟨_,_,aK,rfl,by decide,M,s4.trans (bC.new hp5 _),fin⟩
  ·rw [decide_eq_false c]
   exact ⟨_,_,aK,rfl,by decide,M,s4.trans (bC.new hp5 _),q (.half one) ⟨m24 bone,fun z=>c (by rw [z];rfl)⟩ (gh bone)⟩
 case inr.inl.inr =>
  refine ifF (by decide) ?_
  rw [aL]
  refine ifT (by decide) ⟨by decide,L,ha4,fun p5 hp5=>?_⟩
  refine ⟨p5,5,_,rfl,aK,aHt hL 3 8 (by decide) (by omega),by decide,fun x y u v b1 b2 b3 b4 k1 k2 k3 kg=>?_⟩
  decreasing_tactic
  exact ⟨by decide,M,s4.trans (bC.new hp5 _),q (.arc x y u v) ⟨b1,b2,b3,b4,k1,k2,k3⟩ kg⟩
 all_goals
  refine ifF (by decide) ?_
  rw [aL]
  refine ifF (by decide) ⟨by decide,M,s4,?_⟩
 ·exact q .dot trivial ⟨1,by decide,by decide,trivial⟩
 ·exact q .left trivial ⟨1,by decide,by decide,trivial⟩
 ·exact q .right trivial ⟨1,by decide,by decide,trivial⟩
 ·exact q .rnd trivial ⟨1,by decide,by decide,trivial⟩
 ·exact q .mirror trivial ⟨1,by decide,by decide,trivial⟩
noncomputable def FA (A:Nat) (p:Pl):Prop:=plG A (2 ^ 25) p/\plB 100 p
theorem FA.up {A:Nat} {p:Pl} (h:FA A p) (m:Nat):FA (A * m) p:=⟨h.1.up m,h.2⟩
theorem aJn (A:Nat):FA A .dot:=⟨trivial,trivial⟩
theorem aHi (A:Nat):FA A (.grow (1 / 12)):=⟨⟨1,12,by decide,by decide,by decide +kernel⟩,⟨by unfold Bd;decide +kernel,by unfold Bd;decide +kernel⟩,by decide +kernel⟩
theorem aLt {A:Nat} {p:Pl} (h:FA A p):gwR 690 (.pl p):=by
 cases p with
 | grow a =>
  rw [gwR]
  obtain ⟨t,b,⟨t0,t1⟩,⟨b0,b1⟩,e⟩:=h.1
  exact ⟨t,b,⟨t0,by omega⟩,⟨b0,by omega⟩,e⟩
 | _ =>
     rw [gwR];· trivial
     all_goals (intro _ z;cases z)
theorem SI.up {A m:Nat} {B M:DM} {st:Addr} {es:Es} {c:Nat} (h:SI (FA A) B M st es c):SI (FA (A * m)) B M st es c :=
 ⟨h.sub,h.new,h.hst,h.len,h.sum,fun i x hx=>by
  obtain ⟨⟨a1,a2,a3⟩,a4⟩:=h.ent i x hx
  exact ⟨⟨⟨a1.dp,a1.len,a1.dn,a1.gw,rY (fun p hp=>hp.up m) _ a1.al,a1.lt⟩,a2,a3⟩,a4⟩,h.nod⟩
mutual
noncomputable def vER:Bool->Rw->Prop
 | _,.pl _=>True
 | b,.ag n rs=>(n<=1 ∨ n * dnS rs<=90)/\vES b rs
 | b,.kp rs=>vES b rs
 | b,.ev rs=>b = false/\enB rs = true/\vES true rs
noncomputable def vES:Bool->List Rw->Prop
 | _,[]=>True
 | b,r :: rs=>vER b r/\vES b rs
end
theorem mP {b:Bool}:∀ {xs ys:List Rw},vES b (xs ++ ys) ↔ vES b xs/\vES b ys
 | [],ys=>by rw [List.nil_append,vES,true_and]
 | x :: xs,ys=>by rw [List.cons_append,vES,vES,mP,and_assoc]
mutual
theorem aHg:∀ r:Rw,vER true r->vER false r
 | .pl _,_=>by rw [vER];trivial
 | .ag _ rs,h=>by rw [vER] at h ⊢;exact ⟨h.1,wA rs h.2⟩
 | .kp rs,h=>by rw [vER] at h ⊢;exact wA rs h
 | .ev rs,h=>by rw [vER] at h;cases h.1
theorem wA:∀ rs:List Rw,vES true rs->vES false rs
 | [],_=>by rw [vES];trivial
 | r :: rs,h=>by rw [vES] at h ⊢;exact ⟨aHg r h.1,wA rs h.2⟩
end
theorem aCZ {b:Bool} {n:Nat} {p:Pl}:vES b (List.replicate n (.pl p)):=by
 induction n with
 | zero=>rw [List.replicate_zero,vES];trivial
 | succ n ih=>rw [List.replicate_succ,vES,vER];exact ⟨trivial,ih⟩
theorem aKN {b:Bool} {rs:List Rw} (h:vES b rs):vES b (cI rs):=by
 unfold cI dS
 exact mP.mpr ⟨mP.mpr ⟨h,aCZ⟩,aCZ⟩
theorem aKH (rs:List Rw):hmS (cI rs)<=hmS rs + 2:=by
 unfold cI dS
 rw [eS,eS,tQ.2,tQ.2]
 have one:∀ b:Bool,(if b = true then 0 else 1)<=1:=fun b=>by cases b<;>decide
 have:=one (drS rs)
 have:=one (enB (rs ++ List.replicate (if drS rs = true then 0 else 1) (.pl .dot)))
 omega
noncomputable def fD (x:En × Nat):Bool:=x.1.wd == "ever"
noncomputable def jO:Bool->Es->Prop
 | _,[]=>True
 | b,x :: xs=>(b = true->fD x = false)/\vES (b || fD x) x.1.rs/\jO (b || fD x) xs
theorem lY:∀ {b:Bool} {xs ys:Es},jO b (xs ++ ys) ↔ jO b xs/\jO (b || xs.any fD) ys
 | b,[],ys=>by rw [List.nil_append,jO,List.any_nil,Bool.or_false,true_and]
 | b,x :: xs,ys=>by rw [List.cons_append,jO,jO,lY,List.any_cons,Bool.or_assoc,and_assoc,and_assoc]
noncomputable def mu:Es->Nat
 | []=>0
 | x :: xs=>2 * hmS x.1.rs + mu xs
theorem pG:∀ xs ys:Es,mu (xs ++ ys) = mu xs + mu ys
 | [],ys=>by rw [List.nil_append,mu,Nat.zero_add]
 | x :: xs,ys=>by rw [List.cons_append,mu,mu,pG xs ys,Nat.add_assoc]
noncomputable def hd0:Es->Bool
 | []=>false
 | x :: _=>fD x
structure SJ (es:Es) (c:Nat):Prop where
 hd:hd0 es = false
 al:jO false es
 mu:mu es + 3 * es.length<=3 * c + 3
structure SK (es:Es):Prop where
 hd:hd0 es = false
 al:jO false es
 mu:mu es + 3 * es.length + (if es.any fD then 3 else 0)<=114
theorem aCg {es:Es} {x y:En × Nat} (e:fD x = fD y) (h:hd0 (es ++ [x]) = false):hd0 (es ++ [y]) = false:=by
 cases es with
 | nil=>exact e.symm.trans h
 | cons z zs=>exact h
theorem aE7 {es:Es} {x y:En × Nat} (h:hd0 (es ++ [x,y]) = false):hd0 (es ++ [x]) = false:=by
 cases es with
 | nil=>exact h
 | cons z zs=>exact h
theorem SJ.start {x:En × Nat} (h:x.1.rs = []) (w:fD x = false):SJ [x] 0:=by
 refine ⟨w,?_,?_⟩
 ·rw [jO,jO,h,vES];exact ⟨(fun e=>by cases e),trivial,trivial⟩
 ·rw [Lw.mu,Lw.mu,h,hmS];exact Nat.le_refl _
theorem SJ.row {es:Es} {u:En} {m m' c:Nat} {p:Pl} (h:SJ (es ++ [(u,m)]) c):SJ (es ++ [({ u with rs:=u.rs ++ [.pl p] },m')]) (c + 1):=by
 obtain ⟨hd,a,b⟩:=h
 obtain ⟨a1,a2⟩:=lY.mp a
 rw [jO,jO] at a2
 rw [pG,Lw.mu,Lw.mu,List.length_append] at b
 refine ⟨aCg (by exact rfl) hd,lY.mpr ⟨a1,?_⟩,?_⟩
 ·rw [jO,jO]
  exact ⟨a2.1,mP.mpr ⟨a2.2.1,by rw [vES,vES,vER];exact ⟨trivial,trivial⟩⟩,trivial⟩
 ·rw [pG,Lw.mu,Lw.mu,List.length_append]
  dsimp only
  rw [eS,hmS,hmS,hmR]
  simp only [List.length_singleton] at b ⊢
  omega
theorem SJ.push {es:Es} {x:En × Nat} {c:Nat} (h:SJ es c) (hx:x.1.rs = []) (l0:0 < es.length) (hw:fD x = true->es.any fD = false):SJ (es ++ [x]) (c + 1):=by
 obtain ⟨hd,a,b⟩:=h
 refine ⟨?_,lY.mpr ⟨a,?_⟩,?_⟩
 ·cases es with
  | nil=>cases l0
  | cons z zs=>exact hd
 ·rw [jO,jO,hx,vES]
  refine ⟨fun e=>?_,trivial,trivial⟩
  cases hi:fD x with
  | false=>rfl
  | true=>rw [hw hi] at e;cases e
 ·rw [pG,Lw.mu,Lw.mu,hx,hmS,List.length_append]
  simp only [List.length_singleton]
  omega
theorem aEk {es:Es} {u e:En} {m m' k:Nat} (h:jO false (es ++ [(u,m),(e,m')])) (w:wd3 e.wd) :
  jO false (es ++ [({ u with rs:=u.rs ++ [clE e.wd e.n e.rs] },k)])/\hmR (clE e.wd e.n e.rs)<=hmS e.rs + 1 + (if fD (e,m') then 2 else 0)/\(fD (e,m') = true->(es.any fD || fD (u,m)) = false):=by
 obtain ⟨a1,a2⟩:=lY.mp h
 rw [jO,jO,jO,Bool.false_or] at a2
 obtain ⟨b1,b2,b3,b4,_⟩:=a2
 have un:fD (e,m') = true->(es.any fD || fD (u,m)) = false:=fun z=>by
  cases hb:(es.any fD || fD (u,m)) with
  | false=>rfl
  | true=>rw [b3 hb] at z;cases z
 have key:vER (es.any fD || fD (u,m)) (clE e.wd e.n e.rs)/\hmR (clE e.wd e.n e.rs)<=hmS e.rs + 1 + (if fD (e,m') then 2 else 0):=by
  rcases w with z | z | z
  ·have f:fD (e,m') = false:=by unfold fD;rw [z];decide
   rw [f,Bool.or_false] at b4
   unfold clE
   rw [if_pos z,vER,hmR,f]
   exact ⟨⟨by split<;>omega,b4⟩,by simp only [Bool.false_eq_true,if_false];omega⟩
  ·have f:fD (e,m') = false:=by unfold fD;rw [z];decide
   rw [f,Bool.or_false] at b4
   unfold clE
   rw [if_neg (by rw [z];decide),if_neg (by rw [z];decide),vER,hmR,f]
   exact ⟨b4,by simp only [Bool.false_eq_true,if_false];omega⟩
  ·have f:fD (e,m') = true:=by unfold fD;rw [z];decide
   rw [f,Bool.or_true] at b4
   have o:=un f
   have hh:=aKH e.rs
   have vv:=aKN b4
   unfold clE
   rw [if_neg (by rw [z];decide),if_pos z,o,f]
   cases he:enB (cI e.rs) with
   | true=>rw [if_pos rfl,vER,hmR];exact ⟨⟨rfl,he,vv⟩,by simp only [if_true];omega⟩
   | false=>rw [if_neg (by decide),vER,hmR];exact ⟨wA _ vv,by simp only [if_true];omega⟩
 refine ⟨lY.mpr ⟨a1,?_⟩,key.2,un⟩
 rw [jO,jO,Bool.false_or]
 exact ⟨b1,mP.mpr ⟨b2,by rw [vES,vES];exact ⟨key.1,trivial⟩⟩,trivial⟩
theorem SJ.close {es:Es} {u e:En} {m m' k c:Nat} (h:SJ (es ++ [(u,m),(e,m')]) c) (w:wd3 e.wd):SJ (es ++ [({ u with rs:=u.rs ++ [clE e.wd e.n e.rs] },k)]) (c + 1):=by
 obtain ⟨hd,a,b⟩:=h
 obtain ⟨c1,c2,_⟩:=aEk (k:=k) a w
 refine ⟨aCg (by exact rfl) (aE7 hd),c1,?_⟩
 rw [pG,Lw.mu,Lw.mu,Lw.mu,List.length_append] at b
 rw [pG,Lw.mu,Lw.mu,List.length_append]
 dsimp only at b ⊢
 rw [eS,hmS,hmS]
 have:(if fD (e,m') = true then 2 else 0)<=2:=by split<;>decide
 simp only [List.length_singleton,List.length_cons,List.length_nil] at b ⊢
 omega
theorem SK.of {es:Es} {c:Nat} (h:SJ es c) (l:c<=36):SK es:=by
 refine ⟨h.hd,h.al,?_⟩
 have:=h.mu
 have:(if es.any fD = true then 3 else 0)<=3:=by split<;>decide
 omega
theorem SK.close {es:Es} {u e:En} {m m' k:Nat} (h:SK (es ++ [(u,m),(e,m')])) (w:wd3 e.wd):SK (es ++ [({ u with rs:=u.rs ++ [clE e.wd e.n e.rs] },k)]):=by
 obtain ⟨hd,a,b⟩:=h
 obtain ⟨c1,c2,c3⟩:=aEk (k:=k) a w
 refine ⟨aCg (by exact rfl) (aE7 hd),c1,?_⟩
 rw [pG,Lw.mu,Lw.mu,Lw.mu,List.length_append,List.any_append,List.any_cons,List.any_cons,List.any_nil,Bool.or_false] at b
 rw [pG,Lw.mu,Lw.mu,List.length_append,List.any_append,List.any_cons,List.any_nil,Bool.or_false]
 rw [show fD ({ u with rs:=u.rs ++ [clE e.wd e.n e.rs] },k) = fD (u,m) from rfl]
 dsimp only at b ⊢
 rw [eS,hmS,hmS]
 simp only [List.length_singleton,List.length_cons,List.length_nil] at b ⊢
 cases he:fD (e,m') with
 | true =>
  rw [c3 he]
  rw [he] at c2 b
  rw [Bool.or_true,Bool.or_true,if_pos rfl] at b
  simp only [if_true] at c2
  simp only [Bool.false_eq_true,if_false]
  omega
 | false =>
  rw [he] at c2 b
  rw [Bool.or_false] at b
  simp only [Bool.false_eq_true,if_false] at c2
  omega
theorem SK.end {x:En × Nat} (h:SK [x]):vES false x.1.rs/\hmS x.1.rs<=55:=by
 obtain ⟨w,a,b⟩:=h
 have w:fD x = false:=w
 rw [jO,w,Bool.false_or] at a
 rw [Lw.mu,Lw.mu,List.any_cons,w,List.any_nil] at b
 simp only [Bool.or_self,Bool.false_eq_true,if_false,List.length_singleton] at b
 exact ⟨a.2.1,by omega⟩
noncomputable def pR:DSp:=fun ds M Q=>∃ (p0:Addr) (cs:List Int),ds = [.ref p0]/\M p0 = some (cs.map D.int)/\cs.length<=36/\∀ (rs:List Rw) (A:Nat) (M':DM),0 < A->A<=2 ^ (48 * 36)->(∀ r ∈ rs,Dp 4 r)->rs.length<=40->dnS rs<=300->gwS 690 rs->alS (FA A) rs->ltS rs/\hmS rs<=55/\vES false rs->bC M M'->Q (.tup (bM rs)) M'
theorem SI.mono {F:Pl->Prop} {B M M':DM} {st:Addr} {es:Es} {c:Nat} (h:SI F B M st es c) (s:bC M M'):SI F B M' st es c :=
 ⟨h.sub.trans s,h.new,s _ _ h.hst,h.len,h.sum,fun i x hx=>by
  obtain ⟨⟨a1,a2,a3⟩,a4⟩:=h.ent i x hx
  exact ⟨⟨a1,s _ _ a2,a3⟩,a4⟩,h.nod⟩
theorem SI.start {F:Pl->Prop} {M:DM} {a0 st:Addr} (h0:M a0 = none) (hs:bJ M a0 [] st = none):SI F M (bJ (bJ M a0 []) st [D.tup [.str "",.int 0,.ref a0]]) st [(⟨"",0,a0,[]⟩,0)] 0:=by
 obtain ⟨n,hs'⟩:=oG hs
 refine ⟨(bC.new h0 _).trans (bC.new hs _),hs',aK,(by show 1<=5;omega),(by show 0 + 0 + (0 + 1)<=0 + 1;omega),fun i x hx=>?_,by simp⟩
 rcases sF (xs:=[]) hx with z | ⟨rfl,rfl⟩
 ·simp at z
 ·exact ⟨⟨⟨(fun r hr=>nomatch hr),Nat.le_refl _,(by show dnS []<=_;rw [dnS];exact Nat.zero_le _),(by show gwS _ [];rw [gwS];trivial),(by show alS _ [];rw [alS];trivial),(by show ltS [];rw [ltS];trivial),(by show hmS []<=_;rw [hmS];exact Nat.zero_le _)⟩,(by show bJ _ st _ a0 = _;rw [gJ (Ne.symm n)];exact aK),h0⟩,n,(by show 0<=12;omega),fun z=>absurd z (by show ¬ 0 < 0;omega)⟩
noncomputable def aLD (M:DM) (p0 st:Addr) (i:Nat) (ρ:cO) (M':DM):Prop:=∃ (A:Nat) (es:Es),(0 < A/\A<=2 ^ (48 * i))/\0 < es.length/\(SI (FA A) M M' st es i/\SJ es i)/\∃ o2 o3 o4 o5 o6,ρ = [some (.ref p0),some (.ref st),o2,o3,o4,o5,o6]
theorem vX {es:Es} (h:0 < es.length):∃ (es':Es) (u:En) (m:Nat),es = es' ++ [(u,m)]:=by
 have n:es ≠ []:=fun z=>by rw [z] at h;exact absurd h (by decide)
 exact ⟨es.dropLast,_,_,(List.dropLast_concat_getLast n).symm⟩
theorem aE4 {es:Es} {u:En} {m:Nat}:(es ++ [(u,m)])[es.length]? = some (u,m):=by rw [List.getElem?_append_right (Nat.le_refl _)];simp
theorem rE {A m i:Nat} {M M2:DM} {p0 st pr:Addr} {es:Es} {u:En} {L:List D} {o2 o3 o4 o5 o6:Option D} (ap:0 < A) (al:A<=2 ^ (48 * i)) (hi:i < 36) (si:SI (FA A) M M2 st (es ++ [(u,m)]) i) (sj:SJ (es ++ [(u,m)]) i) (hpr:M2 pr = some L) (hL:kR 12 L):∃ ds d,M2 st = some ds/\atI ds (-1) = some d/\mH d (.int 2) M2 fun x M1=>match x with
  | .ref p=>(∃ ds,M1 p = some ds)/\mY [.ref pr] M1 fun x M1=>∃ ds y,[x] = [y]/\M1 p = some ds/\ds.length < 1000/\aLD M p0 st (i + 1) [some (.ref p0),some (.ref st),o2,o3,o4,o5,o6] (bJ M1 p (ds ++ [y]))
  | _=>False:=by
 have hu:=si.ent _ _ aE4
 have sm:=si.sum
 rw [List.map_append,List.sum_append,List.length_append] at sm
 simp at sm
 refine ⟨_,enD u,si.hst,by unfold esD;rw [List.map_append];exact aE2,?_⟩
 show (∃ ds,M2 u.a = some ds)/\_
 refine ⟨⟨_,hu.1.2.1⟩,pr,12,L,rfl,hpr,hL,by decide,fun p pb ⟨B,b0,b1,pg⟩=>⟨_,_,rfl,hu.1.2.1,?_,?_⟩⟩
 ·have:=hu.1.1.len
  rw [cV];show u.rs.length < 1000
  have:(u,m).2 = m:=rfl
  simp only at *
  omega
 ·refine ⟨A * B,es ++ [({ u with rs:=u.rs ++ [.pl p] },m + 1)],⟨Nat.mul_pos ap b0,?_⟩,by rw [List.length_append];show 0 < _ + 1;omega,⟨?_,sj.row⟩,_,_,_,_,_,rfl⟩
  ·rw [Nat.mul_add,Nat.mul_one,Nat.pow_add];exact Nat.mul_le_mul al b1
  ·have hp:FA (A * B) p:=⟨by rw [Nat.mul_comm];exact pg.up A,pb⟩
   have s1:=si.up (m:=B)
   refine s1.top (by rw [gJ hu.2.1];exact si.hst) (by rw [lV];exact aK) (fO.refl.put (by simp)) ((s1.ent _ _ aE4).1.1.row hp (aLt hp)) (by omega)
theorem xO {A m m' i:Nat} {M M2:DM} {st:Addr} {es:Es} {u e:En} {Q:DQ} (hi:i<=39) (si:SI (FA A) M M2 st (es ++ [(u,m),(e,m')]) i) (q:∀ M' (es':Es),es'.length = es.length + 1->SI (FA A) M M' st es' (i + 1)->(∀ c,SJ (es ++ [(u,m),(e,m')]) c->SJ es' (c + 1))->(SK (es ++ [(u,m),(e,m')])->SK es')->Q .non M'):mR [.ref st] M2 Q:=by
 have spl:es ++ [(u,m),(e,m')] = (es ++ [(u,m)]) ++ [(e,m')]:=by simp
 have ue:=si.ent es.length (u,m) (by rw [List.getElem?_append_right (Nat.le_refl _)];simp)
 have ee:=si.ent (es.length + 1) (e,m') (by rw [List.getElem?_append_right (by omega)];simp)
 have nd:=si.nod
 have sm:=si.sum
 have ln:=si.len
 simp at nd sm ln
 have l1:=ue.1.1.len
 have l2:=ee.1.1.len
 have d2:=ee.1.1.dn
 have f2:=aHI (m:=m')
 simp only at l1 l2 d2
 refine ⟨st,es.map (·.1),u,e,rfl,?_,by rw [List.length_map];omega,⟨ue.2.1,ee.2.1,?_⟩,ue.1.2.1,ee.1.2.1,ee.2.2.2 (by omega),ee.2.2.1,⟨by show e.rs.length<=1000;omega,fun r hr=>kU (d':=6) (ee.1.1.dp r hr) (Nat.le_trans (Nat.sub_le _ _) (by decide))⟩,wU (by decide) _ ee.1.1.gw,by omega,by omega,by omega,fun M' h1 h2 k=>?_⟩
 ·rw [si.hst];unfold esD;simp
 ·intro z
  rw [List.nodup_append] at nd
  have:=nd.2.1
  rw [z] at this
  simp at this
 ·refine q M' _ ?_ (si.close ?_ h2 k (aJn A) (aHi A) hi) (fun c h=>h.close (ee.2.2.2 (by omega))) (fun h=>h.close (ee.2.2.2 (by omega)))
  ·rw [List.length_append];rfl
  ·rw [h1];unfold esD;simp
noncomputable abbrev jD:Stmt:=top 80
theorem dH:aR ["_law_cells","_law_stack","_law_cell","_law_row_here","_law_way","_law_word","_law_rows"] ["_law_cells"] (aI jD):=⟨rfl,rfl,rfl,by decide +kernel,rfl,by decide +kernel,by decide +kernel⟩
theorem vQ (hF:bV K mg "_law_program" jD ["_law_cells"]) (dZ:mg "len" = none) (cY:mg "tuple" = none) (kC:Has P w K mg base 101 "_law_row" ["_law_cell","_law_many"] rC) (oQ:Has P w K mg base 104 "_law_plain" ["_law_row_here"] mY) (lA:Has P w K mg base 120 "_law_close" ["_law_stack"] mR) (cQ:Has P w K mg base 118 "_law_done" ["_law_rows"] (gX 8)):Has P w K mg base 121 "_law_program" ["_law_cells"] pR:=by
 refine Has.mkZ hF dH (fun ds M Q ⟨_,_,z,_⟩=>by rw [z];rfl) fun f cdv A outer s H ds M Q E hr h=>?_
 obtain ⟨p0,cs,rfl,hp0,hl,q⟩:=h
 refine ⟨_,(aF (aP (i:=1) dH.nd (bN (aA (aN (aA aM (aA aC (aA (bN aD) aD)))) aD)))
  (aF (aBz PassesOwn.never rfl (aB 0) (aZ (i:=2) dH.nd) (aF (aP (i:=3) dH.nd (aG kC hr (by decide) (aA (aB 2) (aA aC aD))))
  (aF (aP (i:=4) dH.nd (aJ cW (aH (aB 3) aC) aC))
  (aE (aV (fP (eX (aQ wW (aB 4) aC) (eJ (aQ wW (bW iU dZ (aA (aB 1) aD)) aC)))) (aF (aP (i:=5) dH.nd (aH (bN (aA aM (aA aM (aA aM aD)))) (aB 4)))
  (kK (aV (fP (eX (aQ (bT hr) (aB 5) aM) (eJ (aQ sT aM (aHj (⟨rfl,by decide +kernel,by decide +kernel,by decide +kernel,rfl,by decide +kernel⟩:aB8 ["_law_cells","_law_stack","_law_cell","_law_row_here","_law_way","_law_word","_law_rows"] (aI jD) ["_law_block"] [none] _) rfl (aB 1) (fun _ _ _ _ _=>(aZ (i:=0) (show List.Nodup (["_law_block"]:List Str) by decide +kernel))) (fun _ _ _ _ _=>(aH (aB 0) aC))) rfl)))) (aE (aP (i:=5) dH.nd aM)) aS)
  (aE (fG (iT (aB 1) (aN (aA (aB 5) (aA (aJ cW (aH (aB 3) aC) (aH (bN (aA aC (aA aC (aA aC aD)))) (aJ cW (aH (aB 3) aC) aC))) (aA (bN aD) aD))))))))) (aE (aV (fP (eX (aQ (bT hr) (aB 4) aC) (eJ (aQ gE (bW iU dZ (aA (aB 1) aD)) aC)))) (aE (fG (aG lA hr (by decide) (aA (aB 1) aD)))) (aE (fG (iT (aH (aH (aB 1) (cU aC)) aC) (aG oQ hr (by decide) (aA (aB 3) aD))))))))))))
  (aF (kD PassesOwn.never (aQ gE (bW iU dZ (aA (aB 1) aD)) aC) (aE (fG (aG lA hr (by decide) (aA (aB 1) aD)))))
  (aF (aP (i:=6) dH.nd (aH (aH (aB 1) aC) aC))
  (aF (kD PassesOwn.never (aQ gE (aG cQ hr (by decide) (aA (aB 6) aD)) aC) (aE (fG (aCW (aB 6)))))
  (aE (aO (eP tG cY (aA (aB 6) aD))))))))),?_⟩
 decreasing_tactic
 refine ⟨by decide,fun a0 h0=>⟨by decide,by decide,fun st hs=>?_⟩⟩
 have si0:=SI.start (F:=FA 1) h0 hs
 generalize bJ (bJ M a0 []) st _ = M0 at si0 ⊢
 refine ⟨_,si0.sub _ _ hp0,aLD M p0 st,⟨1,_,⟨by decide,by decide⟩,by show 0 < 1;omega,⟨si0,SJ.start rfl rfl⟩,_,_,_,_,_,rfl⟩,fun i ρ M' _ ⟨_,_,_,_,⟨si,_⟩,_⟩ a e=>by cases e;exact si.sub _ _ hp0,?_,?_⟩
 ·rintro i d ρ M1 hd ⟨A,es,⟨ap,al⟩,e0,⟨si,sj⟩,o2,o3,o4,o5,o6,rfl⟩
  obtain ⟨c,_,rfl⟩:=List.mem_map.mp (List.mem_of_getElem? hd)
  have hi:i < 36:=by
   have:=(List.getElem?_eq_some_iff.mp hd).1
   rw [List.length_map] at this;omega
  decreasing_tactic
  refine ⟨c,12,rfl,by decide,by decide,fun pr L hpr hL=>?_⟩
  have si2:=si.mono (bC.new hpr L)
  have hpr2:bJ M1 pr L pr = some L:=aK
  have hL:kR 12 L:=hL
  generalize bJ M1 pr L = M2 at si2 hpr2 ⊢
  clear si
  obtain ⟨z11,e11,_⟩:=hL.at (i:=11) (by omega)
  obtain ⟨z10,e10,_⟩:=hL.at (i:=10) (by omega)
  obtain ⟨z9,e9,_⟩:=hL.at (i:=9) (by omega)
  decreasing_tactic
  refine ⟨L,_,hpr2,e11,?_⟩
  decreasing_tactic
  refine ⟨by decide,?_⟩
  have hst:=si2.hst
  have sl:(esD es).length = es.length:=List.length_map _
  obtain ⟨es',u,m,rfl⟩:=vX e0
  by_cases c1:z11.fmod 9 < 3
  ·refine ifT (decide_eq_true c1) ⟨_,hst,?_⟩
   rw [sl]
   by_cases c2:(es' ++ [(u,m)]).length < 5
   ·refine ifT (decide_eq_true (by omega)) ⟨by decide,fun p hp=>?_⟩
    have s3:=bC.new hp [D.str "again",.str "keep",.str "ever"]
    obtain ⟨wd,ew,hw⟩:∃ wd:Str,atI [D.str "again",.str "keep",.str "ever"] (z11.fmod 9) = some (.str wd)/\wd3 wd:=by
     have h1:=Int.fmod_nonneg_of_pos z11 (show (0:Int) < 9 by decide)
     have:z11.fmod 9 = 0 ∨ z11.fmod 9 = 1 ∨ z11.fmod 9 = 2:=by omega
     rcases this with e | e | e<;>rw [e]
     ·exact ⟨_,rfl,.inl rfl⟩
     ·exact ⟨_,rfl,.inr (.inl rfl)⟩
     ·exact ⟨_,rfl,.inr (.inr rfl)⟩
    refine ⟨_,_,aK,ew,fun ρ' M'=>bC M2 M'/\∃ wd o6,(wd3 wd/\(wd = "ever"->(es' ++ [(u,m)]).any fD = false))/\ρ' = [some (.ref p0),some (.ref st),some (.int c),some (.ref pr),some (.int (z11.fmod 9)),some (.str wd),o6],?_,?_⟩
    ·generalize bJ M2 p _ = M3 at s3
     rw [aL]
     by_cases ce:wd = "ever"
     ·refine ifT (decide_eq_true ce) ⟨_,s3 _ _ hst,by rw [sl];omega,fun i ys M'=>M' = M3/\ys = ((es' ++ [(u,m)]).take i).map (fun x=>D.str x.1.wd),⟨rfl,rfl⟩,fun i ys M' _ h a e=>by cases e;rw [h.1];exact s3 _ _ hst,?_,?_⟩
      ·rintro i d ys M' hd ⟨rfl,rfl⟩
       unfold esD at hd
       rw [List.getElem?_map] at hd
       obtain ⟨x,hx,rfl⟩:=Option.map_eq_some_iff.mp hd
       rw [show enD x.1 = .tup [.str x.1.wd,.int (x.1.n:Int),.ref x.1.a] from rfl]
       decreasing_tactic
       exact ⟨rfl,by rw [fM hx,List.map_append];rfl⟩
      ·rintro ys M' ly ⟨rfl,rfl⟩ pt hpt
       have s4:=s3.trans (bC.new hpt ((((es' ++ [(u,m)]).take (esD (es' ++ [(u,m)])).length)).map (fun x=>D.str x.1.wd)))
       decreasing_tactic
       refine ⟨((es' ++ [(u,m)]).take (esD (es' ++ [(u,m)])).length).map (fun x=>x.1.wd),by rw [aK,List.map_map];rfl,?_⟩
       have tk:(es' ++ [(u,m)]).take (esD (es' ++ [(u,m)])).length = es' ++ [(u,m)]:=by rw [sl,List.take_length]
       rw [tk] at s4 ⊢
       split
       ·exact ⟨s4,_,_,⟨.inr (.inl rfl),fun z=>by cases z⟩,rfl⟩
       ·rename_i nn
        refine ⟨s4,_,_,⟨hw,fun _=>?_⟩,rfl⟩
        have nn:¬ ((es' ++ [(u,m)]).map (fun x=>x.1.wd)).any (fun x=>x == ("ever":Str)) = true:=nn
        rw [List.any_map] at nn
        cases hz:(es' ++ [(u,m)]).any fD with
        | false=>rfl
        | true=>exact absurd hz nn
     ·exact ifF (decide_eq_false ce) (ifF rfl ⟨s3,_,_,⟨hw,fun z=>absurd z ce⟩,rfl⟩)
    ·rintro ρ' M3 ⟨s3',wd,o6,⟨hw,hwe⟩,rfl⟩
     have si3:=si2.mono s3'
     have hpr3:=s3' _ _ hpr2
     clear s3 hp s3'
     decreasing_tactic
     refine ⟨⟨_,si3.hst⟩,L,_,hpr3,e10,by decide,fun p4 hp4=>?_⟩
     have s4:=bC.new hp4 [D.int 3,.int 3,.int 13]
     refine ⟨L,_,s4 _ _ hpr3,e9,?_⟩
     decreasing_tactic
     obtain ⟨k,ek,hk⟩:∃ k:Int,atI [D.int 3,.int 3,.int 13] (z9.fmod 3) = some (.int k)/\(k = 3 ∨ k = 13):=by
      have h1:=Int.fmod_nonneg_of_pos z9 (show (0:Int) < 3 by decide)
      have h2:=Int.fmod_lt_of_pos z9 (show (0:Int) < 3 by decide)
      have:z9.fmod 3 = 0 ∨ z9.fmod 3 = 1 ∨ z9.fmod 3 = 2:=by omega
      rcases this with e | e | e<;>rw [e]
      ·exact ⟨_,rfl,.inl rfl⟩
      ·exact ⟨_,rfl,.inl rfl⟩
      ·exact ⟨_,rfl,.inr rfl⟩
     refine ⟨by decide,_,_,aK,ek,?_⟩
     decreasing_tactic
     have si4:=si3.mono s4
     generalize bJ M3 p4 _ = M4 at s4 si4
     have h1:=Int.fmod_nonneg_of_pos z10 (show (0:Int) < k by omega)
     have h2:=Int.fmod_lt_of_pos z10 (show (0:Int) < k by omega)
     refine ⟨by omega,by decide,fun p5 hp5=>⟨by decide,_,_,rfl,(bC.new hp5 []) _ _ si4.hst,by rw [sl];omega,?_⟩⟩
     have n5:p5 ≠ st:=fun z=>by rw [z,si4.hst] at hp5;cases hp5
     refine ⟨A,(es' ++ [(u,m)]) ++ [(⟨wd,(z10.fmod k).toNat,p5,[]⟩,0)],⟨ap,Nat.le_trans al (Nat.pow_le_pow_right (by decide) (by omega))⟩,by rw [List.length_append];show 0 < _ + 1;omega,⟨?_,sj.push rfl e0 (fun z=>hwe (by unfold fD at z;exact eq_of_beq z))⟩,_,_,_,_,_,rfl⟩
     refine si4.push c2 hp5 ?_ ?_ ?_ hw (by omega) (Nat.le_refl _)
     ·rw [aK]
      have e:esD ((es' ++ [(u,m)]) ++ [(⟨wd,(z10.fmod k).toNat,p5,[]⟩,0)]) = esD (es' ++ [(u,m)]) ++ [D.tup [.str wd,.int ((z10.fmod k).toNat:Int),.ref p5]]:=by unfold esD;rw [List.map_append (l₁:=es' ++ [(u,m)])];rfl
      rw [e,Int.toNat_of_nonneg h1]
     ·rw [gJ n5];exact aK
     ·exact (fO.refl.put (by simp)).put (by simp)
   ·refine ifF (decide_eq_false (by omega)) ?_
    rw [bI]
    refine ifF (decide_eq_false (by omega)) (ifF rfl ?_)
    exact rE ap al hi si2 sj hpr2 hL
  ·refine ifF (decide_eq_false c1) (ifF rfl ?_)
   rw [bI]
   by_cases c3:z11.fmod 9 = 3
   ·refine ifT (decide_eq_true c3) ⟨_,hst,?_⟩
    rw [sl]
    by_cases c2:1 < (es' ++ [(u,m)]).length
    ·refine ifT (decide_eq_true (by omega)) ?_
     have l0:0 < es'.length:=by rw [List.length_append] at c2;simp at c2;omega
     obtain ⟨es2,u2,m2,rfl⟩:=vX l0
     rw [List.append_assoc] at si2 sj
     refine xO (by omega) si2 fun M' es3 l3 si3 j1 _=>?_
     exact ⟨A,es3,⟨ap,Nat.le_trans al (Nat.pow_le_pow_right (by decide) (by omega))⟩,by omega,⟨si3,j1 _ sj⟩,_,_,_,_,_,rfl⟩
    ·refine ifF (decide_eq_false (by omega)) ?_
     exact rE ap al hi si2 sj hpr2 hL
   ·refine ifF (decide_eq_false c3) (ifF rfl ?_)
    exact rE ap al hi si2 sj hpr2 hL
 ·rintro ρ M' ⟨A,es,⟨ap,al⟩,e0,⟨si,sj⟩,o2,o3,o4,o5,o6,rfl⟩
  rw [List.length_map] at al si sj
  have al:A<=2 ^ (48 * 36):=Nat.le_trans al (Nat.pow_le_pow_right (by decide) (by omega))
  refine kB (fun m ρ M'=>∃ (c:Nat) (es:Es),m = es.length/\0 < es.length/\c + es.length<=41/\(SI (FA A) M M' st es c/\SK es)/\∃ o2 o3 o4 o5 o6,ρ = [some (.ref p0),some (.ref st),o2,o3,o4,o5,o6]) es.length ⟨cs.length,es,rfl,e0,by have:=si.len;omega,⟨si,SK.of sj hl⟩,_,_,_,_,_,rfl⟩ ?_
  clear si sj e0 es
  rintro m ρ M1 ⟨c,es,rfl,e0,hc,⟨si,sk⟩,o2,o3,o4,o5,o6,rfl⟩
  have sl:(esD es).length = es.length:=List.length_map _
  decreasing_tactic
  refine ⟨_,si.hst,?_⟩
  rw [sl]
  obtain ⟨es',u,m,rfl⟩:=vX e0
  by_cases c2:1 < (es' ++ [(u,m)]).length
  ·refine ifT (decide_eq_true (by omega)) ?_
   have le:(es' ++ [(u,m)]).length = es'.length + 1:=by rw [List.length_append];rfl
   obtain ⟨es2,u2,m2,rfl⟩:=vX (show 0 < es'.length by omega)
   have le2:(es2 ++ [(u2,m2)]).length = es2.length + 1:=by rw [List.length_append];rfl
   rw [List.append_assoc] at si sk
   refine xO (by omega) si fun M' es3 l3 si3 _ k1=>?_
   exact ⟨es3.length,by omega,c + 1,es3,rfl,by omega,by omega,⟨si3,k1 sk⟩,_,_,_,_,_,rfl⟩
  ·refine ifF (decide_eq_false (by omega)) ?_
   have l0:es' = []:=by
    have le:(es' ++ [(u,m)]).length = es'.length + 1:=by rw [List.length_append];rfl
    exact List.eq_nil_of_length_eq_zero (by omega)
   subst l0
   have hu:=si.ent 0 (u,m) rfl
   have sm:=si.sum
   simp at sm
   refine ⟨_,_,si.hst,xQ,?_⟩
   show mH (.tup [.str u.wd,.int (u.n:Int),.ref u.a]) (.int 2) M1 _
   decreasing_tactic
   have ok:=hu.1.1
   refine kB (fun m ρ M'=>∃ rs:List Rw,m = rs.length/\rs.length<=40/\(∀ r ∈ rs,Dp 4 r)/\gwS 690 rs/\alS (FA A) rs/\(ltS rs/\hmS rs<=55/\vES false rs)/\M' u.a = some (bM rs)/\bC M M'/\∃ o1 o2 o3 o4 o5,ρ = [some (.ref p0),o1,o2,o3,o4,o5,some (.ref u.a)]) u.rs.length ⟨u.rs,rfl,by have:=ok.len;simp only at this;omega,ok.dp,ok.gw,ok.al,⟨ok.lt.1,sk.end.2,sk.end.1⟩,hu.1.2.1,si.sub,_,_,_,_,_,rfl⟩ ?_
   have ua:=hu.1.2.2
   clear si sk hu sm ok hc c2 e0 sl
   rintro m ρ M2 ⟨rs,rfl,lr,dp,gw,al2,⟨lt2,hm2,ve2⟩,hM,sub,o1,o2,o3,o4,o5,rfl⟩
   decreasing_tactic
   have d8:DpS 8 rs:=⟨by omega,fun r hr=>kU (d':=7) (dp r hr) (by decide)⟩
   refine ⟨_,rs,rfl,.inr ⟨_,rfl,hM⟩,d8,?_⟩
   decreasing_tactic
   by_cases c3:300 < dnS rs
   ·refine ifT (decide_eq_true (by omega)) ?_
    have rn:rs ≠ []:=fun z=>by rw [z,dnS] at c3;omega
    obtain ⟨rs',r,rfl⟩:∃ rs' r,rs = rs' ++ [r]:=⟨_,_,(List.dropLast_concat_getLast rn).symm⟩
    have el:bM (rs' ++ [r]) = bM rs' ++ [rwD r]:=by rw [lV,bM,bM]
    have ll:(rs' ++ [r]).length = rs'.length + 1:=by rw [List.length_append];rfl
    rw [el] at hM
    refine ⟨_,rwD r,hM,by simp,rs'.length,by omega,rs',rfl,by omega,fun x hx=>dp x (List.mem_append_left _ hx),(iK.mp gw).1,(nJ.mp al2).1,⟨(mV.mp lt2).1,by rw [eS] at hm2;omega,(mP.mp ve2).1⟩,by rw [aK,List.dropLast_concat],?_,_,_,_,_,_,rfl⟩
    exact oC sub (fO.refl.put (List.mem_singleton.mpr rfl)) fun a ha=>by rw [List.mem_singleton.mp ha];exact ua
   ·refine ifF (decide_eq_false (by omega)) ?_
    decreasing_tactic
    exact ⟨_,hM,aT (q rs A M2 ap al dp lr (by omega) gw al2 ⟨lt2,hm2,ve2⟩ sub)⟩
noncomputable def aC1 (d:Nat):DSp:=fun ds M Q=>∃ rs,ds = [.tup (bM rs)]/\DpS d rs/\Q (.int (hmS rs:Int)) M
noncomputable abbrev jJ:Stmt:=top 49
theorem dU:aR ["rows","many","row","within"] ["rows"] (aI jJ):=⟨rfl,rfl,rfl,by decide +kernel,rfl,by decide +kernel,by decide +kernel⟩
theorem tL (hF:bV K mg "how_many_rows" jJ ["rows"]) (dZ:mg "len" = none) (bS:Has P w K mg base 101 "rows_within" ["row"] iA):Has P w K mg base 118 "how_many_rows" ["rows"] (aC1 8):=by
 have all:∀ d,Has P w K mg base (110 + d) "how_many_rows" ["rows"] (aC1 d):=fun d=>by
  induction d with
  | zero=>exact (Has.never hF dU 109).imp fun ds M Q ⟨rs,_,z,_⟩=>z
  | succ d cX =>
   refine Has.mkZ (k:=110 + d) hF dU (fun ds M Q ⟨a,z,_⟩=>by rw [z];rfl) fun f cdv A outer s H ds M Q E hr h=>?_
   obtain ⟨rs,rfl,dp,q⟩:=h
   refine ⟨_,(aF (aP (i:=1) dU.nd (bW iU dZ (aA (aB 0) aD)))
  (aF (jF PassesOwn.never rfl (aB 0) (aZ (i:=2) dU.nd) (aF (aP (i:=3) dU.nd (aG bS hr (by omega) (aA (aB 2) aD)))
  (aE (aV (aQ wV (aB 3) eZ) (aE (pI (i:=1) yD dU.nd (aG cX hr (by omega) (aA (aB 3) aD)))) aS))))
  (aE (aO (aB 1))))),?_⟩
   decreasing_tactic
   refine ⟨fun i ρ M'=>M' = M/\∃ o1 o2,ρ = [some (.tup (bM rs)),some (.int ((rs.length:Int) + (hmS (rs.take i):Int) - (i:Int))),o1,o2],⟨rfl,none,none,?_⟩,fun i ρ M' _ _ a e=>(by cases e),?_,?_⟩
   ·rw [List.take_zero,hmS,cV,show (rs.length:Int) + ((0:Nat):Int) - ((0:Nat):Int) = (rs.length:Int) by omega]
   ·rintro i d1 ρ M' hd ⟨rfl,o1,o2,rfl⟩
    obtain ⟨r,hr',rfl⟩:=iG hd
    have dr:=dp.2 r (List.mem_of_getElem? hr')
    decreasing_tactic
    refine ⟨r,rfl,?_⟩
    have fin:hmS (rs.take (i + 1)) = hmS (rs.take i) + hmR r:=by rw [fM hr',eS,hmS,hmS,Nat.add_zero]
    rw [fin]
    have blk:∀ ws:List Rw,hmR r = 1 + hmS ws->(rs.length:Int) + (hmS (rs.take i):Int) - (i:Int) + (hmS ws:Int) = (rs.length:Int) + ((hmS (rs.take i) + hmR r:Nat):Int) - ((i + 1:Nat):Int):=fun ws e=>by omega
    cases r with
    | pl p =>
     dsimp only [inR]
     decreasing_tactic
     refine ifF rfl ?_
     rw [hmR,show (rs.length:Int) + ((hmS (rs.take i) + 1:Nat):Int) - ((i + 1:Nat):Int) = (rs.length:Int) + (hmS (rs.take i):Int) - (i:Int) by omega]
     exact ⟨rfl,_,_,rfl⟩
    | ag n ws =>
     obtain ⟨hn,dw⟩:=mJ dr
     dsimp only [inR]
     decreasing_tactic
     refine ifT rfl ⟨ws,rfl,dw,?_⟩
     decreasing_tactic
     rw [blk ws (by rw [hmR])]
     exact ⟨rfl,_,_,rfl⟩
    | kp ws =>
     have dw:=qH dr
     dsimp only [inR]
     decreasing_tactic
     refine ifT rfl ⟨ws,rfl,dw,?_⟩
     decreasing_tactic
     rw [blk ws (by rw [hmR])]
     exact ⟨rfl,_,_,rfl⟩
    | ev ws =>
     have dw:=mG dr
     dsimp only [inR]
     decreasing_tactic
     refine ifT rfl ⟨ws,rfl,dw,?_⟩
     decreasing_tactic
     rw [blk ws (by rw [hmR])]
     exact ⟨rfl,_,_,rfl⟩
   ·rintro ρ M' ⟨rfl,o1,o2,rfl⟩
    rw [cV,List.take_length,show (rs.length:Int) + (hmS rs:Int) - (rs.length:Int) = (hmS rs:Int) by omega]
    exact aT q
 exact all 8
noncomputable def jH:DSp:=fun ds M Q=>∃ rs,ds = [.tup (bM rs)]/\DpS 8 rs/\hmS rs<=60/\Q (.tup (bM rs)) M
noncomputable abbrev iI:Stmt:=top 61
theorem nW:aR ["program"] ["program"] (aI iI):=⟨rfl,rfl,rfl,by decide +kernel,rfl,by decide +kernel,by decide +kernel⟩
theorem tT (hF:bV K mg "not_too_long" iI ["program"]) (gY:eY K mg "MOST_ROWS" (.int 60)) (cX:Has P w K mg base 118 "how_many_rows" ["rows"] (aC1 8)):Has P w K mg base 119 "not_too_long" ["program"] jH:=by
 refine Has.mkZ hF nW (fun ds M Q ⟨_,z,_⟩=>by rw [z];rfl) fun f cdv A outer s H ds M Q E hr h=>?_
 obtain ⟨rs,rfl,dp,l,q⟩:=h
 refine ⟨_,(aF (aV (aQ gE (aG cX hr (by decide) (aA (aB 0) aD)) (bA gY)) (aE uC) aS)
  (aE (aO (aB 0)))),?_⟩
 decreasing_tactic
 refine ⟨rs,rfl,dp,?_⟩
 decreasing_tactic
 exact ifF (decide_eq_false (by omega)) (aT q)
noncomputable def aL2:List D->Prop:=fun ds=>∃ rs,ds = [.tup (bM rs)]/\DpS 8 rs/\60 < hmS rs
theorem uG {C_TooMuch:Addr} (hF:bV K mg "not_too_long" iI ["program"]) (uL:aGL K mg "TooMuch" C_TooMuch) (gY:eY K mg "MOST_ROWS" (.int 60)) (cX:Has P w K mg base 118 "how_many_rows" ["rows"] (aC1 8)):aMh P w K mg base 119 "not_too_long" ["program"] C_TooMuch aL2:=by
 refine wI.mkZ hF uL nW (fun ds M ⟨_,z,_⟩=>by rw [z];rfl) fun f cdv A outer s H ds M E hr h hRO=>?_
 obtain ⟨rs,rfl,dp,l⟩:=h
 refine ⟨_,(aF (aV (aQ gE (aG cX hr (by decide) (aA (aB 0) aD)) (bA gY)) (aE (aD4 hRO (aA aM aD))) aS)
  (aE (aO (aB 0)))),?_⟩
 decreasing_tactic
 refine ⟨rs,rfl,dp,?_⟩
 decreasing_tactic
 exact ifT (decide_eq_true (by omega)) ⟨by decide,.refl _⟩
noncomputable def gwB (s:Rat):Bool:=decide (1<=s.num/\s.num<=12) && decide ((s.den:Int)<=12)
noncomputable def uY:DSp:=fun ds M Q=>∃ s:Rat,ds = [FQ s]/\Q (.bl (gwB s)) M
noncomputable abbrev qQ:Stmt:=top 24
theorem aBj:aR ["number"] ["number"] (aI qQ):=⟨rfl,rfl,rfl,by decide +kernel,rfl,by decide +kernel,by decide +kernel⟩
theorem aA1 (hF:bV K mg "may_grow" qQ ["number"]) (iF:eY K mg "MOST_IN_GROW" (.int 12)):Has P w K mg base 101 "may_grow" ["number"] uY:=by
 refine Has.mkZ hF aBj (fun ds M Q ⟨_,z,_⟩=>by rw [z];rfl) fun f cdv A outer s H ds M Q E hr h=>?_
 obtain ⟨s,rfl,q⟩:=h
 refine ⟨_,(aE (aO (eD (uU sL sL aC (aH (aB 0) aC) (bA iF)) (dR (cB sL (aH (aB 0) aC) (bA iF)))))),?_⟩
 decreasing_tactic
 unfold gwB at q
 by_cases c1:1<=s.num
 ·refine ifT (decide_eq_true c1) ?_
  by_cases c2:s.num<=12
  ·rw [decide_eq_true ⟨c1,c2⟩,Bool.true_and] at q
   exact ifT (decide_eq_true c2) (aT q)
  ·rw [decide_eq_false (fun z=>c2 z.2),Bool.false_and] at q
   exact ifF (decide_eq_false c2) (aT q)
 ·rw [decide_eq_false (fun z=>c1 z.1),Bool.false_and] at q
  exact ifF (decide_eq_false c1) (ifF rfl (aT q))
noncomputable def aJL:D->Option Bool
 | .int _=>some true
 | .ref _=>none
 | _=>some false
noncomputable def oA:DSp:=fun ds M Q=>∃ d b,ds = [d]/\aJL d = some b/\Q (.bl b) M
noncomputable abbrev rV:Stmt:=top 20
theorem aBL:aR ["thing"] ["thing"] (aI rV):=⟨rfl,rfl,rfl,by decide +kernel,rfl,by decide +kernel,by decide +kernel⟩
theorem aAP (hF:bV K mg "is_whole" rV ["thing"]) (bH:mg "isinstance" = none) (iO:mg "int" = none) (uR:mg "bool" = none):Has P w K mg base 101 "is_whole" ["thing"] oA:=by
 refine Has.mkZ hF aBL (fun ds M Q ⟨_,_,z,_⟩=>by rw [z];rfl) fun f cdv A outer s H ds M Q E hr h=>?_
 obtain ⟨d,b,rfl,h,q⟩:=h
 refine ⟨_,(aE (aO (eD (iC (aB 0) bH iO) (dR (qD (iC (aB 0) bH uR)))))),?_⟩
 decreasing_tactic
 cases d with
 | int i=>cases h;exact .inl ⟨_,_,rfl,rfl,ifT rfl (.inl ⟨_,_,rfl,rfl,aT q⟩)⟩
 | bl b=>cases h;exact .inl ⟨_,_,rfl,rfl,ifT rfl (.inl ⟨_,_,rfl,rfl,aT q⟩)⟩
 | ref a=>cases h
 | _=>cases h;exact .inl ⟨_,_,rfl,rfl,ifF rfl (aT q)⟩
noncomputable def qP:DSp:=fun ds M Q=>∃ a b,ds = [.int a,.int b]/\Q (.bl (decide (1<=b) && decide (Int.gcd a b = 1))) M
noncomputable abbrev nA:Stmt:=top 21
theorem zL:aR ["top","bottom"] ["top","bottom"] (aI nA):=⟨rfl,rfl,rfl,by decide +kernel,rfl,by decide +kernel,by decide +kernel⟩
theorem wQ (hF:bV K mg "is_reduced" nA ["top","bottom"]) (aY:Has P w K mg base 101 "greatest_divisor" ["one","other"] dN):Has P w K mg base 102 "is_reduced" ["top","bottom"] qP:=by
 refine Has.mkZ hF zL (fun ds M Q ⟨_,_,z,_⟩=>by rw [z];rfl) fun f cdv A outer s H ds M Q E hr h=>?_
 obtain ⟨a,b,rfl,q⟩:=h
 refine ⟨_,(aE (aO (eD (cB aKM (aB 1) aC) (dR (cB (bT hr) (aG aY hr (by decide) (aA (aB 0) (aA (aB 1) aD))) aC))))),?_⟩
 decreasing_tactic
 by_cases c:1<=b
 ·rw [decide_eq_true c,Bool.true_and] at q
  refine ifT (decide_eq_true c) ⟨a,b,rfl,?_⟩
  decreasing_tactic
  rw [bI,show decide ((Int.gcd a b:Int) = 1) = decide (Int.gcd a b = 1) from decide_eq_decide.mpr ⟨fun z=>by omega,fun z=>by omega⟩]
  exact aT q
 ·rw [decide_eq_false c,Bool.false_and] at q
  exact ifF (decide_eq_false c) (aT q)
theorem aKs (x:Rat):(decide (1<=(x.den:Int)) && decide (Int.gcd x.num (x.den:Int) = 1)) = true:=by
 have h1:=x.den_pos
 have h2:Int.gcd x.num (x.den:Int) = 1:=x.reduced
 rw [decide_eq_true (by omega),decide_eq_true h2];rfl
noncomputable def nX:DSp:=fun ds M Q=>∃ x:Rat,ds = [FQ x]/\Q (.bl true) M
noncomputable abbrev lG:Stmt:=top 22
theorem xW:aR ["thing"] ["thing"] (aI lG):=⟨rfl,rfl,rfl,by decide +kernel,rfl,by decide +kernel,by decide +kernel⟩
theorem vV (hF:bV K mg "is_fraction" lG ["thing"]) (bH:mg "isinstance" = none) (cY:mg "tuple" = none) (dZ:mg "len" = none) (gM:Has P w K mg base 101 "is_whole" ["thing"] oA) (mS:Has P w K mg base 102 "is_reduced" ["top","bottom"] qP):Has P w K mg base 103 "is_fraction" ["thing"] nX:=by
 refine Has.mkZ hF xW (fun ds M Q ⟨_,z,_⟩=>by rw [z];rfl) fun f cdv A outer s H ds M Q E hr h=>?_
 obtain ⟨x,rfl,q⟩:=h
 refine ⟨_,(aF (aV (fP (jP (hW (dL (iC (aB 0) bH cY))) (jB (aQ (pT hr) (bW iU dZ (aA (aB 0) aD)) aC)))) (aE (aO fU)) aS)
  (aE (aO (eD (aG gM hr (by decide) (aA (aH (aB 0) aC) aD)) (eD (aG gM hr (by decide) (aA (aH (aB 0) aC) aD)) (dR (aG mS hr (by decide) (aA (aH (aB 0) aC) (aA (aH (aB 0) aC) aD))))))))),?_⟩
 rw [show FQ x = D.tup [.int x.num,.int (x.den:Int)] from rfl]
 decreasing_tactic
 refine .inl ⟨_,_,rfl,rfl,ifF rfl ?_⟩
 rw [bI]
 refine ifF rfl ⟨_,_,rfl,rfl,ifT rfl ⟨_,_,rfl,rfl,ifT rfl ⟨_,_,rfl,?_⟩⟩⟩
 rw [aKs]
 exact aT q
noncomputable def aES:List (Str × Int):=[("go",1),("skip",1),("side",2),("dot",0),("left",0),("right",0),("round",0),("mirror",0),("grow",1),("quarter",1),("half",1),("arc",4)]
noncomputable def aGS:List Str:=["again","keep","ever","none"]
noncomputable def lC:DSp:=fun ds M Q=>∃ k:Str,ds = [.str k]/\((∃ n,aES.lookup k = some n/\Q (.int n) M) ∨ (k ∈ aGS/\Q .non M))
noncomputable abbrev iS:Stmt:=top 23
theorem sC:aR ["word"] ["word"] (aI iS):=⟨rfl,rfl,rfl,by decide +kernel,rfl,by decide +kernel,by decide +kernel⟩
theorem rP (hF:bV K mg "numbers_behind" iS ["word"]) (uJ:aDo w K mg "NUMBERS" aES aGS):Has P w K mg base 101 "numbers_behind" ["word"] lC:=by
 refine Has.mkZ hF sC (fun ds M Q ⟨_,z,_⟩=>by rw [z];rfl) fun f cdv A outer s H ds M Q E hr h=>?_
 obtain ⟨k,rfl,h⟩:=h
 refine ⟨_,(aE (aO (aEC uJ (aB 0)))),?_⟩
 decreasing_tactic
 rcases h with ⟨n,hn,q⟩ | ⟨hn,q⟩
 ·exact .inl ⟨n,hn,aT q⟩
 ·exact .inr ⟨hn,aT q⟩
noncomputable def aKE:D->Option Bool
 | .tup (.str _ :: _)=>some true
 | .int _=>some false
 | _=>none
noncomputable def nI:DSp:=fun ds M Q=>∃ d b,ds = [d]/\aKE d = some b/\Q (.bl b) M
noncomputable abbrev pL:Stmt:=top 26
theorem aAE:aR ["thing"] ["thing"] (aI pL):=⟨rfl,rfl,rfl,by decide +kernel,rfl,by decide +kernel,by decide +kernel⟩
theorem zG (hF:bV K mg "is_worded" pL ["thing"]) (bH:mg "isinstance" = none) (cY:mg "tuple" = none) (aEX:mg "str" = none) (dZ:mg "len" = none):Has P w K mg base 101 "is_worded" ["thing"] nI:=by
 refine Has.mkZ hF aAE (fun ds M Q ⟨_,_,z,_⟩=>by rw [z];rfl) fun f cdv A outer s H ds M Q E hr h=>?_
 obtain ⟨d,b,rfl,hb,q⟩:=h
 refine ⟨_,(aE (aO (eD (iC (aB 0) bH cY) (eD (cB gE (bW iU dZ (aA (aB 0) aD)) aC) (dR (iC (aH (aB 0) aC) bH aEX)))))),?_⟩
 match d,hb with
 | .tup (.str k :: cR),hb =>
  cases hb
  decreasing_tactic
  refine .inl ⟨_,_,rfl,rfl,ifT rfl (ifT (decide_eq_true (by show (0:Int) < ((cR.length + 1:Nat):Int);omega)) ?_)⟩
  rw [xQ]
  decreasing_tactic
  exact .inl ⟨_,_,rfl,rfl,aT q⟩
 | .int i,hb =>
  cases hb
  decreasing_tactic
  exact .inl ⟨_,_,rfl,rfl,ifF rfl (aT q)⟩
noncomputable def wd:Pl->Str
 | .go _=>"go" | .side _ _=>"side" | .skip _=>"skip" | .dot=>"dot" | .left=>"left" | .right=>"right" | .rnd=>"round" | .mirror=>"mirror" | .grow _=>"grow" | .quarter _=>"quarter" | .half _=>"half" | .arc _ _ _ _=>"arc"
noncomputable def nu:Pl->List Rat
 | .go a=>[a] | .side a b=>[a,b] | .skip a=>[a] | .grow a=>[a] | .quarter a=>[a] | .half a=>[a] | .arc a b c d=>[a,b,c,d] | _=>[]
theorem aAv (p:Pl):plD p = .tup (.str (wd p) :: (nu p).map FQ):=by cases p<;>rfl
theorem aIq (p:Pl):aES.lookup (wd p) = some (((nu p).length:Nat):Int):=by cases p<;>rfl
theorem aK0 (p:Pl):(nu p).length<=4:=by cases p<;>exact Nat.le_of_ble_eq_true rfl
noncomputable def plV (p:Pl):Prop:=plB 100 p/\∀ a,p = .grow a->gwB a = true
noncomputable def yI:DSp:=fun ds M Q=>∃ a b c d:Rat,ds = [plD (.arc a b c d)]/\plB 100 (.arc a b c d)/\Q (.bl true) M
noncomputable abbrev uB:Stmt:=top 27
theorem xV:aR ["row","c"] ["row"] (aI uB):=⟨rfl,rfl,rfl,by decide +kernel,rfl,by decide +kernel,by decide +kernel⟩
theorem aB2 (hF:bV K mg "is_bend" uB ["row"]) (bB:eY K mg "MIDDLE" sG) (uX:Has P w K mg base 103 "farther" ["c","p","q"] wP):Has P w K mg base 104 "is_bend" ["row"] yI:=by
 refine Has.mkZ hF xV (fun ds M Q ⟨_,_,_,_,z,_⟩=>by rw [z];rfl) fun f cdv A outer s H ds M Q E hr h=>?_
 obtain ⟨a,b,c,d,rfl,⟨b1,b2,b3,b4,n0,n1,fe⟩,q⟩:=h
 refine ⟨_,(aF (aP (i:=1) xV.nd (aN (aA (aH (aB 0) aC) (aA (aH (aB 0) aC) aD))))
  (aE (aO (eD (cB (pT hr) (aB 1) (bA bB)) (dR (cB (bT hr) (aG uX hr (by decide) (aA (aB 1) (aA (bA bB) (aA (aN (aA (aH (aB 0) aC) (aA (aH (aB 0) aC) aD))) aD)))) aC)))))),?_⟩
 dsimp only [plD]
 decreasing_tactic
 refine ⟨by decide,?_⟩
 rw [show (D.tup [FQ a,FQ b]) = PQ a b from rfl,show sG = PQ 0 0 from rfl,aFz]
 refine ifT (by rw [decide_eq_false n0];rfl) ⟨by decide,a,b,0,0,c,d,100,rfl,b1,b2,bqz.mono (by decide),bqz.mono (by decide),b3,b4,by decide,?_⟩
 decreasing_tactic
 rw [bI,aDv.mpr fe]
 exact aT q
theorem aKU {x:Rat}:decide (x.num = 0) = decide (x = 0):=by
 by_cases c:x = 0
 ·rw [decide_eq_true c,c];rfl
 ·rw [decide_eq_false c]
  exact decide_eq_false fun z=>c (Rat.num_eq_zero.mp z)
theorem aFf {ds:List D} {M:DM} {Q:DQ}:tH [.tup ds] M Q = Q (.int (ds.length:Int)) M:=rfl
inductive Th where
 | pl (p:Pl)
 | ag (n:Nat) (ts:List Th)
 | kp (ts:List Th)
 | ev (ts:List Th)
 | bad (d:D)
mutual
noncomputable def thD:Th->D
 | .pl p=>plD p
 | .ag n ts=>.tup [.str "again",.int (n:Int),.tup (dB ts)]
 | .kp ts=>.tup [.str "keep",.tup (dB ts)]
 | .ev ts=>.tup [.str "ever",.tup (dB ts)]
 | .bad d=>d
noncomputable def dB:List Th->List D
 | []=>[]
 | t :: ts=>thD t :: dB ts
end
theorem gG:∀ ts:List Th,dB ts = ts.map thD
 | []=>by rw [dB];rfl
 | t :: ts=>by rw [dB,gG ts,List.map_cons]
mutual
noncomputable def gdR:Th->Rw
 | .pl p=>.pl p
 | .ag n ts=>.ag n (gdS ts)
 | .kp ts=>.kp (gdS ts)
 | .ev ts=>.ev (gdS ts)
 | .bad _=>.pl .dot
noncomputable def gdS:List Th->List Rw
 | []=>[]
 | t :: ts=>gdR t :: gdS ts
end
mutual
noncomputable def okT:Th->Prop
 | .pl _=>True
 | .ag _ ts=>okS ts
 | .kp ts=>okS ts
 | .ev ts=>okS ts
 | .bad _=>False
noncomputable def okS:List Th->Prop
 | []=>True
 | t :: ts=>okT t/\okS ts
end
mutual
theorem aKK:∀ t:Th,okT t->thD t = rwD (gdR t)
 | .pl p,_=>by rw [thD,gdR,rwD]
 | .ag n ts,h=>by rw [okT] at h;rw [thD,gdR,rwD,sJ ts h]
 | .kp ts,h=>by rw [okT] at h;rw [thD,gdR,rwD,sJ ts h]
 | .ev ts,h=>by rw [okT] at h;rw [thD,gdR,rwD,sJ ts h]
 | .bad _,h=>by rw [okT] at h;exact h.elim
theorem sJ:∀ ts:List Th,okS ts->dB ts = bM (gdS ts)
 | [],_=>by rw [dB,gdS,bM]
 | t :: ts,h=>by rw [okS] at h;rw [dB,gdS,bM,aKK t h.1,sJ ts h.2]
end
noncomputable def aJa (m:D):Prop:=(m = .int 13 ∨ m = .int (-1) ∨ m = .bl true) ∨ m = .str "2" ∨ m = .tup [.int 1,.int 1] ∨ m = .int (10 ^ 50)
noncomputable def aDW (d:D):Prop:=(d = .tup [.str "none"] ∨ d = .int 5) ∨ (∃ m x,d = .tup [.str "again",m,.tup [x]]/\aJa m) ∨ (∃ x,d = .tup [.str "again",.tup [x]]) ∨ d = .tup [.str "keep"] ∨ (∃ x,d = .tup [.str "keep",.tup [x],.int 1]) ∨ d = .tup [.str "keep",.str "rows"]
noncomputable def isP:Th->Bool
 | .pl _=>true
 | _=>false
noncomputable def isB:Th->Bool
 | .ag _ _=>true
 | .kp _=>true
 | .ev _=>true
 | _=>false
noncomputable def jN:DSp:=fun ds M Q=>∃ r:Th,ds = [thD r]/\(∀ p,r = .pl p->plV p)/\(∀ d,r = .bad d->aDW d)/\Q (.bl (isP r)) M
noncomputable abbrev iB:Stmt:=top 25
theorem vS:aR ["thing"] ["thing"] (aI iB):=⟨rfl,rfl,rfl,by decide +kernel,rfl,by decide +kernel,by decide +kernel⟩
theorem tN (hF:bV K mg "is_plain_row" iB ["thing"]) (dZ:mg "len" = none) (aEL:mg "all" = none) (gZ:Has P w K mg base 101 "is_worded" ["thing"] nI) (iV:Has P w K mg base 101 "numbers_behind" ["word"] lC) (lR:Has P w K mg base 103 "is_fraction" ["thing"] nX) (qU:Has P w K mg base 101 "may_grow" ["number"] uY) (uH:Has P w K mg base 104 "is_bend" ["row"] yI):Has P w K mg base 105 "is_plain_row" ["thing"] jN:=by
 refine Has.mkZ hF vS (fun ds M Q ⟨_,z,_⟩=>by rw [z];rfl) fun f cdv A outer s H ds M Q E hr h=>?_
 obtain ⟨r,rfl,pv,bv,q⟩:=h
 refine ⟨_,(kK (aV (fP (jP (hW (dL (aG gZ hr (by decide) (aA (aB 0) aD)))) (jB (aQ (pT hr) (aG iV hr (by decide) (aA (aH (aB 0) aC) aD)) (aJ lO (bW iU dZ (aA (aB 0) aD)) aC))))) (aE (aO fU)) aS)
  (kK (aV (hW (dL (bW (aJj rfl) aEL (aA (aF1 (⟨rfl,by decide +kernel,by decide +kernel,by decide +kernel,rfl,by decide +kernel⟩:aB8 ["thing"] (aI iB) ["number"] [none] _) rfl (aCr (aB 0) (iH aC) nZ) (fun _ _ _ _ _=>(aZ (i:=0) (show List.Nodup (["number"]:List Str) by decide +kernel))) (fun _ _ _ _ _=>(aG lR hr (by decide) (aA (aB 0) aD)))) aD)))) (aE (aO fU)) aS)
  (aF (aV (aQ (bT hr) (aH (aB 0) aC) aM) (aE (aO (aG qU hr (by decide) (aA (aH (aB 0) aC) aD)))) aS)
  (aF (aV (fP (jP (aQ (bT hr) (aH (aB 0) aC) aM) (jB (aQ (bT hr) (aH (aB 0) aC) aM)))) (aE (aO (cB (pT hr) (aH (aH (aB 0) aC) aC) aC))) aS)
  (aE (aO (uK (cB (pT hr) (aH (aB 0) aC) aM) (dR (aG uH hr (by decide) (aA (aB 0) aD)))))))))),?_⟩
 cases r with
 | pl p =>
  obtain ⟨pb,pg⟩:=pv p rfl
  rw [show thD (.pl p) = plD p by rw [thD],aAv]
  have nl:=aK0 p
  decreasing_tactic
  refine ⟨fun ρ M'=>M' = M/\ρ = [some (.tup (.str (wd p) :: (nu p).map FQ))],⟨_,_,rfl,rfl,ifF rfl ?_⟩,?_⟩
  ·rw [xQ]
   decreasing_tactic
   refine ⟨_,rfl,.inl ⟨_,aIq p,?_⟩⟩
   decreasing_tactic
   rw [aFf]
   decreasing_tactic
   rw [bI]
   refine ifF (by rw [decide_eq_true (by rw [List.length_map];omega)];rfl) ⟨rfl,rfl⟩
  rintro ρ M' ⟨rfl,rfl⟩
  decreasing_tactic
  refine ⟨fun ρ M2=>bC M' M2/\ρ = [some (.tup (.str (wd p) :: (nu p).map FQ))],?_,?_⟩
  ·rw [aEA]
   refine ⟨by rw [List.length_map];omega,fun i ys M2=>M2 = M'/\ys = (List.replicate i (D.bl true)),⟨rfl,rfl⟩,fun i ys M2 _ _ a e=>(by cases e),?_,?_⟩
   ·rintro i d ys M2 hd ⟨rfl,rfl⟩
    obtain ⟨x,_,rfl⟩:=List.mem_map.mp (List.mem_of_getElem? hd)
    decreasing_tactic
    exact ⟨x,rfl,rfl,by rw [List.replicate_succ']⟩
   rintro ys M2 _ ⟨rfl,rfl⟩ pl hpl
   decreasing_tactic
   refine ⟨List.replicate ((nu p).map FQ).length true,by rw [aK,List.map_replicate],?_⟩
   rw [show (List.replicate ((nu p).map FQ).length true).all id = true by simp]
   exact ifF rfl ⟨bC.new hpl _,rfl⟩
  rintro ρ M2 ⟨sb,rfl⟩
  rw [<- aAv]
  cases p with
  | grow a =>
   dsimp only [plD]
   decreasing_tactic
   rw [aL]
   refine ifT (by decide) ⟨a,rfl,?_⟩
   rw [pg a rfl]
   exact ⟨M',sb,q⟩
  | quarter a =>
   dsimp only [plD]
   decreasing_tactic
   rw [aL]
   refine ifF (by decide) ?_
   rw [aL]
   refine ifT (by decide) ?_
   rw [bI,aKU,decide_eq_false pb.2]
   exact ⟨M',sb,q⟩
  | half a =>
   dsimp only [plD]
   decreasing_tactic
   rw [aL]
   refine ifF (by decide) ?_
   rw [aL]
   refine ifF (by decide) ?_
   rw [aL]
   refine ifT (by decide) ?_
   rw [bI,aKU,decide_eq_false pb.2]
   exact ⟨M',sb,q⟩
  | arc a b c d =>
   dsimp only [plD]
   decreasing_tactic
   rw [aL]
   refine ifF (by decide) ?_
   rw [aL]
   refine ifF (by decide) ?_
   rw [aL]
   refine ifF (by decide) ?_
   rw [aL]
   exact ifF (by decide) ⟨a,b,c,d,rfl,pb,M',sb,q⟩
  | _ =>
   dsimp only [plD]
   decreasing_tactic
   rw [aL]
   refine ifF (by decide) ?_
   rw [aL]
   refine ifF (by decide) ?_
   rw [aL]
   refine ifF (by decide) ?_
   rw [aL]
   exact ifT (by decide) ⟨M',sb,q⟩
 | ag n ws =>
  dsimp only [thD]
  decreasing_tactic
  refine ⟨fun _ _=>False,⟨_,_,rfl,rfl,ifF rfl ⟨_,rfl,.inr ⟨by decide,?_⟩⟩⟩,fun _ _ z=>z.elim⟩
  decreasing_tactic
  exact ⟨rfl,rfl,ifT rfl (aT q)⟩
 | kp ws =>
  dsimp only [thD]
  decreasing_tactic
  refine ⟨fun _ _=>False,⟨_,_,rfl,rfl,ifF rfl ⟨_,rfl,.inr ⟨by decide,?_⟩⟩⟩,fun _ _ z=>z.elim⟩
  decreasing_tactic
  exact ⟨rfl,rfl,ifT rfl (aT q)⟩
 | ev ws =>
  dsimp only [thD]
  decreasing_tactic
  refine ⟨fun _ _=>False,⟨_,_,rfl,rfl,ifF rfl ⟨_,rfl,.inr ⟨by decide,?_⟩⟩⟩,fun _ _ z=>z.elim⟩
  decreasing_tactic
  exact ⟨rfl,rfl,ifT rfl (aT q)⟩
 | bad d =>
  rcases bv d rfl with (rfl | rfl) | ⟨m,x,rfl,_⟩ | ⟨x,rfl⟩ | rfl | ⟨x,rfl⟩ | rfl
  case inl.inr =>
   dsimp only [thD]
   decreasing_tactic
   exact ⟨fun _ _=>False,⟨_,_,rfl,rfl,ifT rfl (aT q)⟩,fun _ _ z=>z.elim⟩
  all_goals
   dsimp only [thD]
   decreasing_tactic
   refine ⟨fun _ _=>False,⟨_,_,rfl,rfl,ifF rfl ⟨_,rfl,.inr ⟨by decide,?_⟩⟩⟩,fun _ _ z=>z.elim⟩
   decreasing_tactic
   exact ⟨rfl,rfl,ifT rfl (aT q)⟩
noncomputable def pH:DSp:=fun ds M Q=>∃ r:Th,ds = [thD r]/\isP r = false/\(∀ n ts,r = .ag n ts->n<=12)/\(∀ d,r = .bad d->aDW d)/\Q (.bl (isB r)) M
noncomputable abbrev rN:Stmt:=top 28
theorem aBB:aR ["thing"] ["thing"] (aI rN):=⟨rfl,rfl,rfl,by decide +kernel,rfl,by decide +kernel,by decide +kernel⟩
theorem aA6 (hF:bV K mg "is_block" rN ["thing"]) (bH:mg "isinstance" = none) (cY:mg "tuple" = none) (dZ:mg "len" = none) (nF:eY K mg "MOST_AGAIN" (.int 12)) (gZ:Has P w K mg base 101 "is_worded" ["thing"] nI) (gM:Has P w K mg base 101 "is_whole" ["thing"] oA):Has P w K mg base 102 "is_block" ["thing"] pH:=by
 refine Has.mkZ hF aBB (fun ds M Q ⟨_,z,_⟩=>by rw [z];rfl) fun f cdv A outer s H ds M Q E hr h=>?_
 obtain ⟨r,rfl,hb,hn,bv,q⟩:=h
 refine ⟨_,(aF (aV (fP (jP (hW (dL (aG gZ hr (by decide) (aA (aB 0) aD)))) (jB (hW (dL (iC (aH (aB 0) (cU aC)) bH cY)))))) (aE (aO fU)) aS)
  (aF (aV (aQ (bT hr) (aH (aB 0) aC) aM) (aE (aO (eD (cB (bT hr) (bW iU dZ (aA (aB 0) aD)) aC) (eD (aG gM hr (by decide) (aA (aH (aB 0) aC) aD)) (dR (uU sL sL aC (aH (aB 0) aC) (bA nF))))))) aS)
  (aE (aO (eD (cB (bT hr) (bW iU dZ (aA (aB 0) aD)) aC) (dR (uK (cB (bT hr) (aH (aB 0) aC) aM) (dR (cB (bT hr) (aH (aB 0) aC) aM))))))))),?_⟩
 cases r with
 | pl p=>cases hb
 | ag n ws =>
  have:=hn n ws rfl
  dsimp only [thD]
  decreasing_tactic
  refine ⟨_,_,rfl,rfl,ifF rfl (.inl ⟨_,_,rfl,rfl,ifF rfl ?_⟩)⟩
  rw [aL]
  refine ifT (by decide) ?_
  rw [bI]
  refine ifT (by decide) ⟨_,_,rfl,rfl,ifT rfl (ifT (decide_eq_true (by omega)) ?_)⟩
  rw [decide_eq_true (by omega)]
  exact aT q
 | kp ws =>
  dsimp only [thD]
  decreasing_tactic
  refine ⟨_,_,rfl,rfl,ifF rfl (.inl ⟨_,_,rfl,rfl,ifF rfl ?_⟩)⟩
  rw [aL]
  refine ifF (by decide) ?_
  rw [bI]
  refine ifT (by decide) ?_
  rw [aL]
  exact ifT (by decide) (aT q)
 | ev ws =>
  dsimp only [thD]
  decreasing_tactic
  refine ⟨_,_,rfl,rfl,ifF rfl (.inl ⟨_,_,rfl,rfl,ifF rfl ?_⟩)⟩
  rw [aL]
  refine ifF (by decide) ?_
  rw [bI]
  refine ifT (by decide) ?_
  rw [aL]
  refine ifF (by decide) ?_
  rw [aL]
  exact aT q
 | bad d =>
  rcases bv d rfl with (rfl | rfl) | ⟨m,x,rfl,hm⟩ | ⟨x,rfl⟩ | rfl | ⟨x,rfl⟩ | rfl
  ·dsimp only [thD]
   decreasing_tactic
   exact ⟨_,_,rfl,rfl,ifF rfl (.inl ⟨_,_,rfl,rfl,ifT rfl (aT q)⟩)⟩
  ·dsimp only [thD]
   decreasing_tactic
   exact ⟨_,_,rfl,rfl,ifT rfl (aT q)⟩
  ·dsimp only [thD]
   decreasing_tactic
   refine ⟨_,_,rfl,rfl,ifF rfl (.inl ⟨_,_,rfl,rfl,ifF rfl ?_⟩)⟩
   rw [aL]
   refine ifT (by decide) ?_
   rw [bI]
   refine ifT (by decide) ?_
   rcases hm with (rfl | rfl | rfl) | rfl | rfl | rfl
   ·exact ⟨_,_,rfl,rfl,ifT rfl (ifT (by decide) (aT q))⟩
   ·exact ⟨_,_,rfl,rfl,ifT rfl (ifF (by decide) (aT q))⟩
   ·exact ⟨_,_,rfl,rfl,ifF rfl (aT q)⟩
   ·exact ⟨_,_,rfl,rfl,ifF rfl (aT q)⟩
   ·exact ⟨_,_,rfl,rfl,ifF rfl (aT q)⟩
   ·exact ⟨_,_,rfl,rfl,ifT rfl (ifT (by decide) (aT q))⟩
  ·dsimp only [thD]
   decreasing_tactic
   refine ⟨_,_,rfl,rfl,ifF rfl (.inl ⟨_,_,rfl,rfl,ifF rfl ?_⟩)⟩
   rw [aL]
   refine ifT (by decide) ?_
   rw [bI]
   exact ifF (by decide) (aT q)
  all_goals
   dsimp only [thD]
   decreasing_tactic
   exact ⟨_,_,rfl,rfl,ifF rfl (.inl ⟨_,_,rfl,rfl,ifT rfl (aT q)⟩)⟩
noncomputable def isE:Th->Bool
 | .ev _=>true
 | _=>false
noncomputable def iP (r:Th) (ar:List Str):Bool:=decide (ar.length < 4) && !(isE r && ar.any (· == "ever"))
noncomputable def pJ:DSp:=fun ds M Q=>∃ (r:Th) (ar:List Str),ds = [thD r,.tup (ar.map D.str)]/\isB r = true/\Q (.bl (iP r ar)) M
noncomputable abbrev rD:Stmt:=top 63
theorem aBG:aR ["block","around"] ["block","around"] (aI rD):=⟨rfl,rfl,rfl,by decide +kernel,rfl,by decide +kernel,by decide +kernel⟩
theorem aAQ (hF:bV K mg "has_room" rD ["block","around"]) (dZ:mg "len" = none) (lQ:eY K mg "MOST_BLOCKS" (.int 4)):Has P w K mg base 101 "has_room" ["block","around"] pJ:=by
 refine Has.mkZ hF aBG (fun ds M Q ⟨_,_,z,_⟩=>by rw [z];rfl) fun f cdv A outer s H ds M Q E hr h=>?_
 obtain ⟨r,ar,rfl,hb,q⟩:=h
 refine ⟨_,(aE (aO (eD (cB wW (bW iU dZ (aA (aB 1) aD)) (bA lQ)) (dR (qD (eD (cB (bT hr) (aH (aB 0) aC) aM) (dR (cB aJ8 aM (aB 1) rfl)))))))),?_⟩
 unfold iP at q
 decreasing_tactic
 rw [aFf]
 decreasing_tactic
 rw [List.length_map]
 by_cases c:ar.length < 4
 ·rw [decide_eq_true c,Bool.true_and] at q
  refine ifT (decide_eq_true (by omega)) ?_
  cases r with
  | pl p=>cases hb
  | ag n ws =>
   dsimp only [thD]
   decreasing_tactic
   rw [aL]
   exact ifF (by decide) (aT q)
  | kp ws =>
   dsimp only [thD]
   decreasing_tactic
   rw [aL]
   exact ifF (by decide) (aT q)
  | ev ws =>
   dsimp only [thD]
   decreasing_tactic
   rw [aL]
   exact ifT (by decide) ⟨ar,rfl,aT q⟩
  | bad d=>cases hb
 ·rw [decide_eq_false c,Bool.false_and] at q
  exact ifF (decide_eq_false (by omega)) (aT q)
noncomputable def inT:Th->Option (List Th)
 | .ag _ ts=>some ts
 | .kp ts=>some ts
 | .ev ts=>some ts
 | _=>none
noncomputable def rH:DSp:=fun ds M Q=>∃ (r:Th) (ts:List Th),ds = [thD r]/\inT r = some ts/\Q (.tup (dB ts)) M
theorem vM (hF:bV K mg "rows_within" iY ["row"]):Has P w K mg base 101 "rows_within" ["row"] rH:=by
 refine Has.mkZ hF oU (fun ds M Q ⟨_,a,z,_⟩=>by rw [z];rfl) fun f cdv A outer s H ds M Q E hr h=>?_
 obtain ⟨r,ts,rfl,hb,q⟩:=h
 have q':=aT q
 refine ⟨_,(aF (aV (aQ (bT hr) (aH (aB 0) aC) aM) (aE (aO (aH (aB 0) aC))) aS)
  (aE (aO (mD (fP (jP (aQ (bT hr) (aH (aB 0) aC) aM) (jB (aQ (bT hr) (aH (aB 0) aC) aM)))) (aH (aB 0) aC) eZ)))),?_⟩
 cases r with
 | pl p=>cases hb
 | bad d=>cases hb
 | ag n ts' =>
  cases hb
  dsimp only [thD]
  decreasing_tactic
  rw [aL]
  exact ifT (by decide) q'
 | kp ts' =>
  cases hb
  dsimp only [thD]
  decreasing_tactic
  rw [aL]
  refine ifF (by decide) ?_
  rw [aL]
  exact ifT (by decide) q'
 | ev ts' =>
  cases hb
  dsimp only [thD]
  decreasing_tactic
  rw [aL]
  refine ifF (by decide) ?_
  rw [aL]
  refine ifF (by decide) ?_
  rw [aL]
  exact ifT (by decide) q'
theorem aJO {p:Pl} (h:plB 100 p):plB 900 p:=by
 have m:∀ {x:Rat},BQ 100 x->BQ 900 x:=fun h=>h.mono (by decide)
 cases p with
 | go a=>exact m h
 | side a b=>exact ⟨m h.1,m h.2⟩
 | skip a=>exact m h
 | grow a=>exact ⟨m h.1,h.2⟩
 | quarter a=>exact ⟨m h.1,h.2⟩
 | half a=>exact ⟨m h.1,h.2⟩
 | arc a b c d=>exact ⟨m h.1,m h.2.1,m h.2.2.1,m h.2.2.2.1,h.2.2.2.2⟩
 | _=>trivial
mutual
noncomputable def vaR:Rw->Prop
 | .pl p=>plV p
 | .ag n rs=>n<=12/\vaS rs
 | .kp rs=>vaS rs
 | .ev rs=>vaS rs
noncomputable def vaS:List Rw->Prop
 | []=>True
 | r :: rs=>vaR r/\vaS rs
end
theorem aC2:∀ {rs:List Rw} {r:Rw},vaS rs->r ∈ rs->vaR r
 | x :: xs,r,h,m=>by
  rw [vaS] at h
  rcases List.mem_cons.mp m with rfl | z
  ·exact h.1
  ·exact aC2 h.2 z
theorem aCN:∀ {rs:List Rw} {r:Rw},r ∈ rs->drR r = true->drS rs = true
 | x :: xs,r,m,h=>by
  rw [drS]
  rcases List.mem_cons.mp m with rfl | z
  ·rw [h,Bool.true_or]
  ·rw [aCN z h,Bool.or_true]
theorem aBN:∀ {rs:List Rw},(∀ r ∈ rs,drR r = false)->drS rs = false
 | [],_=>by rw [drS]
 | x :: xs,h=>by rw [drS,h x (List.mem_cons_self ..),aBN fun r hr=>h r (List.mem_cons_of_mem _ hr)];rfl
noncomputable def xE (d:Nat):DSp:=fun ds M Q=>∃ rs,ds = [.tup (bM rs)]/\DpS d rs/\vaS rs/\Q (.bl (drS rs)) M
noncomputable abbrev aAu:Stmt:=top 51
theorem sB:aR ["rows","row","within"] ["rows"] (aI aAu):=⟨rfl,rfl,rfl,by decide +kernel,rfl,by decide +kernel,by decide +kernel⟩
theorem aD7 (hF:bV K mg "draws" aAu ["rows"]) (bS:Has P w K mg base 101 "rows_within" ["row"] iA) (tU:Has P w K mg base 104 "deed_of" ["row"] xS):Has P w K mg base 118 "draws" ["rows"] (xE 8):=by
 have all:∀ d,Has P w K mg base (110 + d) "draws" ["rows"] (xE d):=fun d=>by
  induction d with
  | zero=>exact (Has.never hF sB 109).imp fun ds M Q ⟨rs,_,z,_⟩=>z
  | succ d sM =>
   refine Has.mkZ (k:=110 + d) hF sB (fun ds M Q ⟨a,z,_⟩=>by rw [z];rfl) fun f cdv A outer s H ds M Q E hr h=>?_
   obtain ⟨rs,rfl,dp,va,q⟩:=h
   refine ⟨_,(aF (jF PassesOwn.never rfl (aB 0) (aZ (i:=1) sB.nd) (aF (aP (i:=2) sB.nd (aG bS hr (by omega) (aA (aB 1) aD)))
  (aE (aV (aQ aFT (aB 2) eZ) (aE (aV (aQ wV (aH (aG tU hr (by omega) (aA (aB 1) aD)) aC) eZ) (aE (aO fU)) aS)) (aE (aV (fP (eX (dL (aG sM hr (by omega) (aA (aB 2) aD))) (eJ (fP (jP (aQ (pT hr) (aH (aB 1) aC) aM) (jB (aQ gE (aH (aB 1) aC) aC))))))) (aE (aO fU)) aS))))))
  (aE (aO fU))),?_⟩
   decreasing_tactic
   refine ⟨fun i ρ M'=>M' = M/\(∀ r ∈ rs.take i,drR r = false)/\∃ o1 o2,ρ = [some (.tup (bM rs)),o1,o2],⟨rfl,(by rw [List.take_zero];intro r hr;cases hr),_,_,rfl⟩,fun i ρ M' _ _ a e=>(by cases e),?_,?_⟩
   ·rintro i d1 ρ M' hd ⟨rfl,no,o1,o2,rfl⟩
    obtain ⟨r,hr',rfl⟩:=iG hd
    have mr:=List.mem_of_getElem? hr'
    have dr:=dp.2 r mr
    have vr:=aC2 va mr
    decreasing_tactic
    refine ⟨r,rfl,?_⟩
    have next:drR r = false->∀ x ∈ rs.take (i + 1),drR x = false:=fun h x hx=>by
     rw [fM hr'] at hx
     rcases List.mem_append.mp hx with z | z
     ·exact no x z
     ·rw [List.mem_singleton.mp z];exact h
    have yes:drR r = true->Dn Q (.bl true) M':=fun h=>by rw [aCN mr h] at q;exact aT q
    cases r with
    | pl p =>
     rw [vaR] at vr
     rw [drR] at next yes
     dsimp only [inR]
     decreasing_tactic
     refine ifT rfl ⟨p,by rw [rwD],trivial,aJO vr.1,?_⟩
     cases hl:aAy p with
     | none =>
      rw [hl] at next
      dsimp only [lgO]
      decreasing_tactic
      exact ifF rfl ⟨rfl,next rfl,_,_,rfl⟩
     | some l =>
      rw [hl] at yes
      dsimp only [lgO]
      decreasing_tactic
      have z:∀ l,∃ ds,lgD l = .tup ds:=fun l=>by cases l<;>exact ⟨_,rfl⟩
      obtain ⟨ds,e⟩:=z l
      rw [e]
      decreasing_tactic
      exact ifT rfl (yes rfl)
    | ag n ws =>
     obtain ⟨hn,dw⟩:=mJ dr
     rw [vaR] at vr
     rw [drR] at next yes
     dsimp only [inR]
     decreasing_tactic
     refine ifF rfl ⟨ws,rfl,dw,vr.2,?_⟩
     dsimp only [rwD]
     decreasing_tactic
     cases hd:drS ws with
     | false =>
      rw [hd,Bool.and_false] at next
      exact ifF rfl ⟨rfl,next rfl,_,_,rfl⟩
     | true =>
      rw [hd,Bool.and_true] at next yes
      refine ifT rfl ?_
      rw [aL]
      refine ifF (by decide) ?_
      by_cases c:n = 0
      ·rw [c] at next
       exact ifF (decide_eq_false (by omega)) ⟨rfl,next rfl,_,_,rfl⟩
      ·exact ifT (decide_eq_true (by omega)) (yes (by simp [c]))
    | kp ws =>
     have dw:=qH dr
     rw [vaR] at vr
     rw [drR] at next yes
     dsimp only [inR]
     decreasing_tactic
     refine ifF rfl ⟨ws,rfl,dw,vr,?_⟩
     dsimp only [rwD]
     decreasing_tactic
     cases hd:drS ws with
     | false=>exact ifF rfl ⟨rfl,next hd,_,_,rfl⟩
     | true =>
      refine ifT rfl ?_
      rw [aL]
      exact ifT (by decide) (yes hd)
    | ev ws =>
     have dw:=mG dr
     rw [vaR] at vr
     rw [drR] at next yes
     dsimp only [inR]
     decreasing_tactic
     refine ifF rfl ⟨ws,rfl,dw,vr,?_⟩
     dsimp only [rwD]
     decreasing_tactic
     cases hd:drS ws with
     | false=>exact ifF rfl ⟨rfl,next hd,_,_,rfl⟩
     | true =>
      refine ifT rfl ?_
      rw [aL]
      exact ifT (by decide) (yes hd)
   ·rintro ρ M' ⟨rfl,no,o1,o2,rfl⟩
    rw [cV,List.take_length] at no
    rw [aBN no] at q
    exact aT q
 exact all 8
theorem aL0 {p s k A:Nat} (p1:1<=p) (s1:1<=s) (k0:0 < k) (e:p * s ^ k = A):p<=A/\s<=A:=by
 have h1:1<=s ^ k:=Nat.pow_pos s1
 have h2:s<=s ^ k:=by
  cases k with
  | zero=>omega
  | succ k =>
   have:1<=s ^ k:=Nat.pow_pos s1
   rw [Nat.pow_succ]
   exact Nat.le_mul_of_pos_left _ this
 rw [<- e]
 exact ⟨Nat.le_mul_of_pos_right _ h1,Nat.le_trans h2 (Nat.le_mul_of_pos_left _ p1)⟩
noncomputable def nU:DSp:=fun ds M Q=>∃ a n:Nat,ds = [.int (a:Int),.int (n:Int)]/\1<=a/\Bd 100000 ((a ^ n:Nat):Int)/\Q (.int ((a ^ n:Nat):Int)) M
noncomputable abbrev kQ:Stmt:=top 53
theorem dM:aR ["number","n","product","square","left"] ["number","n"] (aI kQ):=⟨rfl,rfl,rfl,by decide +kernel,rfl,by decide +kernel,by decide +kernel⟩
theorem uS (hF:bV K mg "raised_whole" kQ ["number","n"]):Has P w K mg base 101 "raised_whole" ["number","n"] nU:=by
 refine Has.mkZ hF dM (fun ds M Q ⟨_,_,z,_⟩=>by rw [z];rfl) fun f cdv A outer s H ds M Q E hr h=>?_
 obtain ⟨a,n,rfl,a1,bd,q⟩:=h
 refine ⟨_,(aF (aP (i:=2) dM.nd aC)
  (aF (aP (i:=3) dM.nd (aB 0))
  (aF (aP (i:=4) dM.nd (aB 1))
  (aF (kD PassesOwn.never (aQ gE (aB 4) aC) (aF (aV (aQ (bT hr) (aJ cW (aB 4) aC) aC) (aE (aP (i:=2) dM.nd (aJ bD (aB 2) (aB 3)))) aS)
  (aF (aP (i:=4) dM.nd (aJ dI (aB 4) aC))
  (aE (aV (aQ gE (aB 4) aC) (aE (aP (i:=3) dM.nd (aJ bD (aB 3) (aB 3)))) aS)))))
  (aE (aO (aB 2))))))),?_⟩
 decreasing_tactic
 generalize eA:a ^ n = A at bd q
 refine kB (fun m ρ M'=>M' = M/\∃ p s:Nat,(1<=p/\1<=s)/\p * s ^ m = A/\ρ = [some (.int (a:Int)),some (.int (n:Int)),some (.int (p:Int)),some (.int (s:Int)),some (.int (m:Int))]) n ⟨rfl,1,a,⟨by decide,a1⟩,by rw [Nat.one_mul];exact eA,rfl⟩ ?_
 rintro m ρ M' ⟨rfl,p,s,⟨p1,s1⟩,e,rfl⟩
 decreasing_tactic
 by_cases c:0 < m
 ·refine ifT (decide_eq_true (by omega)) ?_
  obtain ⟨lp,ls⟩:=aL0 p1 s1 c e
  have bp:Bd 100000 (p:Int):=Nat.lt_of_le_of_lt lp bd
  have bs:Bd 100000 (s:Int):=Nat.lt_of_le_of_lt ls bd
  have em:(m:Int).fmod 2 = ((m % 2:Nat):Int):=by rw [Int.fmod_eq_emod_of_nonneg _ (by decide)];rfl
  have ed:(m:Int).fdiv 2 = ((m / 2:Nat):Int):=by rw [Int.fdiv_eq_ediv_of_nonneg _ (by decide)];rfl
  have cfd:CFd (m:Int) 2:=⟨by decide,by decide⟩
  have ev:∀ p':Nat,p' * s ^ (2 * (m / 2)) = A->p' * (s * s) ^ (m / 2) = A:=fun p' h=>by
   rw [<- Nat.pow_two,<- Nat.pow_mul];exact h
  have ss:1<=s * s:=Nat.mul_pos s1 s1
  rw [em,ed,bI]
  by_cases od:m % 2 = 1
  ·have e1:p * s * s ^ (2 * (m / 2)) = A:=by
    rw [Nat.mul_assoc,<- Nat.pow_succ',show (2 * (m / 2)).succ = m by omega];exact e
   refine ⟨by decide,ifT (decide_eq_true (by omega)) ⟨cT bp bs,cfd,?_⟩⟩
   by_cases c2:0 < m / 2
   ·exact ifT (decide_eq_true (by omega)) ⟨cT bs bs,m / 2,by omega,rfl,p * s,s * s,⟨Nat.mul_pos p1 s1,ss⟩,ev _ e1,by rw [Int.natCast_mul,Int.natCast_mul]⟩
   ·have z:m / 2 = 0:=by omega
    rw [z] at e1
    exact ifF (decide_eq_false (by omega)) ⟨m / 2,by omega,rfl,p * s,s,⟨Nat.mul_pos p1 s1,s1⟩,by rw [z];exact e1,by rw [Int.natCast_mul]⟩
  ·have e1:p * s ^ (2 * (m / 2)) = A:=by rw [show 2 * (m / 2) = m by omega];exact e
   have c2:0 < m / 2:=by omega
   exact ⟨by decide,ifF (decide_eq_false (by omega)) ⟨cfd,ifT (decide_eq_true (by omega)) ⟨cT bs bs,m / 2,by omega,rfl,p,s * s,⟨p1,ss⟩,ev _ e1,by rw [Int.natCast_mul]⟩⟩⟩
 ·refine ifF (decide_eq_false (by omega)) ?_
  obtain rfl:m = 0:=by omega
  rw [Nat.pow_zero,Nat.mul_one] at e
  rw [e]
  exact aT q
theorem aG0 (x:Rat) (n:Nat):(x ^ n).num = x.num ^ n/\(x ^ n).den = x.den ^ n:=⟨Rat.num_pow x n,Rat.den_pow x n⟩
noncomputable def zR:DSp:=fun ds M Q=>∃ (x:Rat) (n:Nat),ds = [FQ x,.int (n:Int)]/\0 < x/\BQ 100000 (x ^ n)/\Q (FQ (x ^ n)) M
noncomputable abbrev xP:Stmt:=top 54
theorem aDK:aR ["number","n"] ["number","n"] (aI xP):=⟨rfl,rfl,rfl,by decide +kernel,rfl,by decide +kernel,by decide +kernel⟩
theorem aCu (hF:bV K mg "raised" xP ["number","n"]) (eT:Has P w K mg base 101 "raised_whole" ["number","n"] nU):Has P w K mg base 102 "raised" ["number","n"] zR:=by
 refine Has.mkZ hF aDK (fun ds M Q ⟨_,_,z,_⟩=>by rw [z];rfl) fun f cdv A outer s H ds M Q E hr h=>?_
 obtain ⟨x,n,rfl,x0,⟨b1,b2⟩,q⟩:=h
 refine ⟨_,(aF (aV (aQ wW (aB 1) aC) (aE (aO (aN (aA (aG eT hr (by decide) (aA (aH (aB 0) aC) (aA (cU (aB 1)) aD))) (aA (aG eT hr (by decide) (aA (aH (aB 0) aC) (aA (cU (aB 1)) aD))) aD))))) aS)
  (aE (aO (aN (aA (aG eT hr (by decide) (aA (aH (aB 0) aC) (aA (aB 1) aD))) (aA (aG eT hr (by decide) (aA (aH (aB 0) aC) (aA (aB 1) aD))) aD)))))),?_⟩
 obtain ⟨e1,e2⟩:=aG0 x n
 have xn:0 < x.num:=aC8.mpr x0
 have xd:=x.den_pos
 have k1:((x.num.toNat:Nat):Int) = x.num:=Int.toNat_of_nonneg (by omega)
 have k2:((x.num.toNat ^ n:Nat):Int) = (x ^ n).num:=by rw [e1,Int.natCast_pow,k1]
 have k3:((x.den ^ n:Nat):Int) = ((x ^ n).den:Int):=by rw [e2]
 rw [show FQ x = D.tup [.int ((x.num.toNat:Nat):Int),.int ((x.den:Nat):Int)] by rw [k1];rfl]
 decreasing_tactic
 refine ifF (decide_eq_false (by omega)) ⟨x.num.toNat,n,rfl,by omega,by rw [k2];exact b1,?_⟩
 decreasing_tactic
 refine ⟨x.den,n,rfl,by omega,by rw [k3];exact b2,?_⟩
 decreasing_tactic
 rw [k2,k3]
 exact ⟨by decide,aT q⟩
noncomputable def nL (d:Nat):DSp:=fun ds M Q=>∃ rs,ds = [.tup (bM rs)]/\DpS d rs/\loS rs/\Q (FQ (szS rs)) M
noncomputable abbrev oI:Stmt:=top 65
theorem gB:aR ["rows","size","row"] ["rows"] (aI oI):=⟨rfl,rfl,rfl,by decide +kernel,rfl,by decide +kernel,by decide +kernel⟩
theorem yV (hF:bV K mg "move_size" oI ["rows"]) (kO:eY K mg "ONE" aCn) (w_times:Has P w K mg base 102 "times" ["one","other"] lX) (wN:Has P w K mg base 102 "raised" ["number","n"] zR):Has P w K mg base 118 "move_size" ["rows"] (nL 8):=by
 have h_times:=w_times
 have all:∀ d,Has P w K mg base (110 + d) "move_size" ["rows"] (nL d):=fun d=>by
  induction d with
  | zero=>exact (Has.never hF gB 109).imp fun ds M Q ⟨rs,_,z,_⟩=>z
  | succ d jG =>
   refine Has.mkZ (k:=110 + d) hF gB (fun ds M Q ⟨a,z,_⟩=>by rw [z];rfl) fun f cdv A outer s H ds M Q E hr h=>?_
   obtain ⟨rs,rfl,dp,⟨gw,dn,one⟩,q⟩:=h
   refine ⟨_,(aF (aP (i:=1) gB.nd (bA kO))
  (aF (jF PassesOwn.never rfl (aB 0) (aZ (i:=2) gB.nd) (aE (aV (aQ (bT hr) (aH (aB 2) aC) aM) (aE (aP (i:=1) gB.nd (aG h_times hr (by omega) (aA (aB 1) (aA (aH (aB 2) aC) aD))))) (aE (aV (aQ (bT hr) (aH (aB 2) aC) aM) (aE (aP (i:=1) gB.nd (aG h_times hr (by omega) (aA (aB 1) (aA (aG wN hr (by omega) (aA (aG jG hr (by omega) (aA (aH (aB 2) aC) aD)) (aA (aH (aB 2) aC) aD))) aD))))) aS)))))
  (aE (aO (aB 1))))),?_⟩
   decreasing_tactic
   refine ⟨fun i ρ M'=>M' = M/\∃ o1,ρ = [some (.tup (bM rs)),some (FQ (szS (rs.take i))),o1],⟨rfl,_,rfl⟩,fun i ρ M' _ _ a e=>(by cases e),?_,?_⟩
   ·rintro i d1 ρ M1 hd ⟨rfl,o1,rfl⟩
    obtain ⟨r,hr',rfl⟩:=iG hd
    have dr:=dp.2 r (List.mem_of_getElem? hr')
    have gr:=aCI gw (List.mem_of_getElem? hr')
    have on:=one r (List.mem_of_getElem? hr')
    have gt:wS (rs.take i):=(aA7.mp (by rw [List.take_append_drop];exact gw)).1
    have zt:=xT _ gt
    have zr:=aFx r gr
    have fin:szS (rs.take (i + 1)) = szS (rs.take i) * szR r:=by rw [fM hr',wE,szS,szS,Rat.mul_one]
    have fdn:dnS (rs.take (i + 1)) = dnS (rs.take i) + dnR r:=by rw [fM hr',eE,dnS,dnS,Nat.add_zero]
    have ldn:dnS (rs.take (i + 1))<=dnS rs:=by
     have:=eE (rs.take (i + 1)) (rs.drop (i + 1))
     rw [List.take_append_drop] at this
     omega
    decreasing_tactic
    rw [fin]
    cases r with
    | pl p =>
     rcases aBc p with ⟨a,rfl⟩ | ⟨w0,cR,e,w1,w2,e1⟩
     ·dsimp only [rwD,plD]
      rw [dnR,szR] at zr
      rw [szR]
      rw [dnR] at fdn
      decreasing_tactic
      rw [aL]
      exact ifT (by decide) (aGR zt zr (.inr (by decide)) (by omega) ⟨rfl,_,rfl⟩)
     ·dsimp only [rwD]
      rw [e,e1,Rat.mul_one]
      decreasing_tactic
      rw [xQ]
      decreasing_tactic
      rw [aL]
      refine ifF (decide_eq_false w1) ?_
      rw [aL]
      exact ifF (decide_eq_false w2) ⟨rfl,_,rfl⟩
    | ag n ws =>
     obtain ⟨hn,dw⟩:=mJ dr
     have lo:=aFe gr
     rw [wR] at gr
     have zw:=xT _ gr.1
     rw [dnR] at fdn zr on
     rw [szR] at zr ⊢
     dsimp only [rwD]
     decreasing_tactic
     rw [aL]
     refine ifF (by decide) ?_
     rw [aL]
     refine ifT (by decide) ⟨ws,rfl,dw,lo,?_⟩
     decreasing_tactic
     refine ⟨_,n,rfl,zw.pos',zr.bq.mono (by omega),?_⟩
     decreasing_tactic
     exact aGR zt zr (by omega) (by omega) ⟨rfl,_,rfl⟩
    | kp ws =>
     rw [szR,Rat.mul_one]
     dsimp only [rwD]
     decreasing_tactic
     rw [aL]
     refine ifF (by decide) ?_
     rw [aL]
     exact ifF (by decide) ⟨rfl,_,rfl⟩
    | ev ws =>
     rw [szR,Rat.mul_one]
     dsimp only [rwD]
     decreasing_tactic
     rw [aL]
     refine ifF (by decide) ?_
     rw [aL]
     exact ifF (by decide) ⟨rfl,_,rfl⟩
   ·rintro ρ M' ⟨rfl,o1,rfl⟩
    rw [cV,List.take_length]
    exact aT q
 exact all 8
noncomputable def q34:D:=.tup [.int 3,.int 4]
theorem aJJ:q34 = FQ (3 / 4):=by
 unfold q34 FQ
 rw [show (3 / 4:Rat).num = 3 by decide +kernel,show (3 / 4:Rat).den = 4 by decide +kernel];rfl
theorem aMb (x:Rat):(!decide ((3 / 4:Rat) < x)) = decide (4 * x.num<=3 * (x.den:Int)):=by
 have h:=ltQ (3 / 4) x
 rw [show (3 / 4:Rat).num = 3 by decide +kernel,show (3 / 4:Rat).den = 4 by decide +kernel] at h
 by_cases c:(3 / 4:Rat) < x
 ·rw [decide_eq_true c]
  have:=h.mpr c
  exact (decide_eq_false (by omega)).symm
 ·rw [decide_eq_false c]
  have:¬ 3 * (x.den:Int) < x.num * ((4:Nat):Int):=fun z=>c (h.mp z)
  exact (decide_eq_true (by omega)).symm
noncomputable def nP:DSp:=fun ds M Q=>∃ rs,ds = [.tup (bM rs)]/\DpS 8 rs/\vaS rs/\(dnS rs<=300->loS rs)/\Q (.bl (enB rs)) M
noncomputable abbrev oW:Stmt:=top 64
theorem sY:aR ["rows","size"] ["rows"] (aI oW):=⟨rfl,rfl,rfl,by decide +kernel,rfl,by decide +kernel,by decide +kernel⟩
theorem yX (hF:bV K mg "can_go_on" oW ["rows"]) (iJ:eY K mg "MOST_IN_A_ROUND" (.int 300)) (kO:eY K mg "ONE" aCn) (kL:eY K mg "LEAST_CHANGE" (.tup [.int 3,.int 4])) (fH:Has P w K mg base 118 "how_many_done" ["rows"] (aA3 8)) (sM:Has P w K mg base 118 "draws" ["rows"] (xE 8)) (jG:Has P w K mg base 118 "move_size" ["rows"] (nL 8)) (aAO:Has P w K mg base 101 "below" ["one","other"] aBm):Has P w K mg base 119 "can_go_on" ["rows"] nP:=by
 refine Has.mkZ hF sY (fun ds M Q ⟨_,z,_⟩=>by rw [z];rfl) fun f cdv A outer s H ds M Q E hr h=>?_
 obtain ⟨rs,rfl,dp,va,lo,q⟩:=h
 refine ⟨_,(aF (aV (fP (jP (aQ gE (aG fH hr (by decide) (aA (aB 0) aD)) (bA iJ)) (jB (hW (dL (aG sM hr (by decide) (aA (aB 0) aD))))))) (aE (aO fU)) aS)
  (aF (aP (i:=1) sY.nd (aG jG hr (by decide) (aA (aB 0) aD)))
  (aE (aO (uK (cB (bT hr) (aB 1) (bA kO)) (dR (qD (aG aAO hr (by decide) (aA (bA kL) (aA (aB 1) aD)))))))))),?_⟩
 unfold enB at q
 decreasing_tactic
 refine ⟨rs,rfl,dp,?_⟩
 decreasing_tactic
 by_cases c:dnS rs<=300
 ·rw [decide_eq_true c,Bool.true_and] at q
  refine ifF (decide_eq_false (by omega)) ⟨rs,rfl,dp,va,?_⟩
  decreasing_tactic
  cases hd:drS rs with
  | false =>
   rw [hd,Bool.and_false] at q
   exact ifT rfl (aT q)
  | true =>
   rw [hd,Bool.and_true] at q
   have lo:=lo c
   refine ifF rfl ⟨rs,rfl,dp,lo,?_⟩
   decreasing_tactic
   rw [show aCn = FQ 1 from rfl,aAA]
   by_cases c1:szS rs = 1
   ·rw [decide_eq_true c1,Bool.true_or] at q
    exact ifT (decide_eq_true c1) (aT q)
   ·rw [decide_eq_false c1,Bool.false_or] at q
    rw [show (D.tup [.int 3,.int 4]) = FQ (3 / 4) from aJJ]
    refine ifF (decide_eq_false c1) ⟨_,_,4,_,rfl,trivial,⟨by unfold Bd;decide +kernel,by unfold Bd;decide +kernel⟩,(xT _ lo.1).bq,by omega,?_⟩
    decreasing_tactic
    rw [aMb]
    exact aT q
 ·rw [decide_eq_false c,Bool.false_and] at q
  exact ifT (decide_eq_true (by omega)) (aT q)
theorem sK (ts:List Th):(dB ts).length = ts.length:=by rw [gG,List.length_map]
theorem xN {ts:List Th} {i:Nat} {d:D} (h:(dB ts)[i]? = some d):∃ r,ts[i]? = some r/\d = thD r:=by
 rw [gG,List.getElem?_map] at h
 cases e:ts[i]? with
 | none=>rw [e] at h;cases h
 | some r=>rw [e] at h;cases h;exact ⟨r,rfl,rfl⟩
theorem fZ:∀ ts:List Th,gdS ts = ts.map gdR
 | []=>by rw [gdS];rfl
 | t :: ts=>by rw [gdS,fZ ts,List.map_cons]
theorem rL {ts:List Th} {r:Th} (h:r ∈ ts):gdR r ∈ gdS ts:=by rw [fZ];exact List.mem_map_of_mem h
noncomputable def lkB (r:Th) (ws:List Th) (a:Int) (ar:List Str) (z:Int ⊕ Int):Int ⊕ Int :=
 if iP r ar then match z with
  | .inl b=>if isE r && !enB (gdS ws) then .inr a else .inl (b + 1)
  | .inr c=>.inr c
 else .inr a
mutual
noncomputable def lkR:Th->Int->List Str->Int ⊕ Int
 | .pl _,a,_=>.inl (a + 1)
 | .ag n ws,a,ar=>lkB (.ag n ws) ws a ar (lkS ws (a + 1) (ar ++ [("again":Str)]))
 | .kp ws,a,ar=>lkB (.kp ws) ws a ar (lkS ws (a + 1) (ar ++ [("keep":Str)]))
 | .ev ws,a,ar=>lkB (.ev ws) ws a ar (lkS ws (a + 1) (ar ++ [("ever":Str)]))
 | .bad _,a,_=>.inr a
noncomputable def lkS:List Th->Int->List Str->Int ⊕ Int
 | [],a,_=>.inl a
 | r :: rs,a,ar=>match lkR r a ar with
  | .inl b=>lkS rs b ar
  | .inr c=>.inr c
end
theorem aAG:∀ (xs ys:List Th) (a:Int) (ar:List Str),lkS (xs ++ ys) a ar = match lkS xs a ar with | .inl b=>lkS ys b ar | .inr c=>.inr c
 | [],ys,a,ar=>by rw [List.nil_append,lkS]
 | x :: xs,ys,a,ar=>by
  rw [List.cons_append,lkS,lkS]
  cases lkR x a ar with
  | inl b=>exact aAG xs ys b ar
  | inr c=>rfl
theorem aDh {rs:List Th} {i:Nat} {r:Th} {a b:Int} {ar:List Str} (hr:rs[i]? = some r) (h:lkS (rs.take i) a ar = .inl b):lkS (rs.take (i + 1)) a ar = lkR r b ar:=by
 rw [fM hr,aAG,h]
 dsimp only
 rw [lkS]
 cases lkR r b ar with
 | inl c=>dsimp only;rw [lkS]
 | inr c=>rfl
theorem aET {rs:List Th} {i:Nat} {r:Th} {a b:Int} {ar:List Str} (hr:rs[i]? = some r) (h:lkS (rs.take i) a ar = .inl b) {c:Int} (hc:lkR r b ar = .inr c):lkS rs a ar = .inr c:=by
 rw [<- List.take_append_drop (i + 1) rs,aAG,aDh hr h,hc]
theorem aLl {rs:List Th} {i:Nat} {r:Th} {a b z:Int} {ar:List Str} (hr:rs[i]? = some r) (h:lkS (rs.take i) a ar = .inl b) (hz:lkS rs a ar = .inl z):∃ c,lkR r b ar = .inl c:=by
 cases hc:lkR r b ar with
 | inl c=>exact ⟨c,rfl⟩
 | inr c=>rw [aET hr h hc] at hz;cases hz
theorem DpS.up8 {d:Nat} {rs:List Rw} (h:DpS d rs) (l:d<=8):DpS 8 rs:=by
 cases d with
 | zero=>exact h.elim
 | succ d =>
  have l7:d<=7:=by omega
  exact ⟨h.1,fun r hr=>kU (d':=7) (h.2 r hr) l7⟩
theorem uO {r:Th} {ws:List Th} {a c:Int} {ar:List Str} {z:Int ⊕ Int} (h:lkB r ws a ar z = .inl c):iP r ar = true/\(isE r && !enB (gdS ws)) = false/\z = .inl (c - 1):=by
 unfold lkB at h
 cases hr:iP r ar with
 | false=>rw [hr] at h;cases h
 | true =>
  rw [hr,if_pos rfl] at h
  cases z with
  | inr c=>cases h
  | inl b =>
   dsimp only at h
   cases he:isE r && !enB (gdS ws) with
   | true=>rw [he] at h;cases h
   | false =>
    rw [he] at h
    refine ⟨rfl,rfl,?_⟩
    have:b + 1 = c:=Sum.inl.inj h
    rw [<- this];congr 1;omega
noncomputable def evI (ar:List Str):Bool:=ar.any (· == "ever")
theorem jS (ar:List Str) (x:Str):evI (ar ++ [x]) = (evI ar || (x == "ever")):=by
 unfold evI;rw [List.any_append,List.any_cons,List.any_nil,Bool.or_false]
mutual
noncomputable def vaT:Th->Prop
 | .pl p=>plV p
 | .ag n ts=>n<=12/\fF ts
 | .kp ts=>fF ts
 | .ev ts=>fF ts
 | .bad d=>aDW d/\aW 30 d = true
noncomputable def fF:List Th->Prop
 | []=>True
 | t :: ts=>vaT t/\fF ts
end
theorem jE:∀ {rs:List Th} {r:Th},fF rs->r ∈ rs->vaT r
 | x :: xs,r,h,m=>by
  rw [fF] at h
  rcases List.mem_cons.mp m with rfl | z
  ·exact h.1
  ·exact jE h.2 z
mutual
theorem aLz:∀ t:Th,vaT t->vaR (gdR t)
 | .pl p,h=>by rw [vaT] at h;rw [gdR,vaR];exact h
 | .ag n ts,h=>by rw [vaT] at h;rw [gdR,vaR];exact ⟨h.1,tS ts h.2⟩
 | .kp ts,h=>by rw [vaT] at h;rw [gdR,vaR];exact tS ts h
 | .ev ts,h=>by rw [vaT] at h;rw [gdR,vaR];exact tS ts h
 | .bad d,_=>by rw [gdR,vaR];exact ⟨trivial,fun _ e=>by cases e⟩
theorem tS:∀ ts:List Th,fF ts->vaS (gdS ts)
 | [],_=>by rw [gdS,vaS];trivial
 | t :: ts,h=>by rw [fF] at h;rw [gdS,vaS];exact ⟨aLz t h.1,tS ts h.2⟩
end
mutual
theorem aKr:∀ (t:Th) (a:Int) (ar:List Str) (b:Int),lkR t a ar = .inl b->okT t
 | .pl _,_,_,_,_=>by rw [okT];trivial
 | .ag n ts,a,ar,b,h=>by rw [lkR] at h;rw [okT];exact pF ts _ _ _ (uO h).2.2
 | .kp ts,a,ar,b,h=>by rw [lkR] at h;rw [okT];exact pF ts _ _ _ (uO h).2.2
 | .ev ts,a,ar,b,h=>by rw [lkR] at h;rw [okT];exact pF ts _ _ _ (uO h).2.2
 | .bad _,_,_,_,h=>by rw [lkR] at h;cases h
theorem pF:∀ (ts:List Th) (a:Int) (ar:List Str) (b:Int),lkS ts a ar = .inl b->okS ts
 | [],_,_,_,_=>by rw [okS];trivial
 | t :: ts,a,ar,b,h=>by
  rw [lkS] at h
  rw [okS]
  cases e:lkR t a ar with
  | inl c=>rw [e] at h;exact ⟨aKr t a ar c e,pF ts c ar b h⟩
  | inr c=>rw [e] at h;cases h
end
mutual
noncomputable def boR:Th->Prop
 | .pl _=>True
 | .ag _ ws=>boS ws
 | .kp ws=>boS ws
 | .ev ws=>boS ws/\∀ a ar b,evI ar = true->lkS ws a ar = .inl b->dnS (gdS ws)<=300->loS (gdS ws)
 | .bad _=>True
noncomputable def boS:List Th->Prop
 | []=>True
 | r :: rs=>boR r/\boS rs
end
theorem wC:∀ {rs:List Th} {r:Th},boS rs->r ∈ rs->boR r
 | x :: xs,r,h,m=>by
  rw [boS] at h
  rcases List.mem_cons.mp m with rfl | z
  ·exact h.1
  ·exact wC h.2 z
theorem jY {r:Th} {ar:List Str} (h:iP r ar = true):ar.length < 4:=by
 unfold iP at h
 exact of_decide_eq_true (Bool.and_eq_true_iff.mp h).1
noncomputable def aAH (d:Nat):DSp:=fun ds M Q=>∃ rs a ar,ds = [.tup (dB rs),.int a,.tup (ar.map D.str)]/\(DpS d (gdS rs)/\ar.length<=1000)/\(fF rs/\boS rs)/\∃ b,lkS rs a ar = .inl b/\Q (.int b) M
noncomputable abbrev hU:Stmt:=top 62
theorem bF:aR ["rows","number","around","at","row","behind"] ["rows","number","around"] (aI hU):=⟨rfl,rfl,rfl,by decide +kernel,rfl,by decide +kernel,by decide +kernel⟩
theorem lW (hF:bV K mg "look_at_rows" hU ["rows","number","around"]) (eB:Has P w K mg base 105 "is_plain_row" ["thing"] jN) (gO:Has P w K mg base 102 "is_block" ["thing"] pH) (gP:Has P w K mg base 101 "has_room" ["block","around"] pJ) (w_rows_within:Has P w K mg base 101 "rows_within" ["row"] rH) (fV:Has P w K mg base 119 "can_go_on" ["rows"] nP):∀ d,d<=8->Has P w K mg base (120 + d) "look_at_rows" ["rows","number","around"] (aAH d):=by
 intro d
 have bS:=w_rows_within
 induction d with
 | zero=>exact fun _=>(Has.never hF bF 119).imp fun ds M Q ⟨rs,a,ar,_,z,_⟩=>z.1
 | succ d ih =>
  intro l8
  have cL:=ih (by omega)
  refine Has.mkZ (k:=120 + d) hF bF (fun ds M Q ⟨a,b,c,z,_⟩=>by rw [z];rfl) fun f cdv A outer s H ds M Q E hr h=>?_
  obtain ⟨rs,a,ar,rfl,⟨dp,la⟩,⟨va,bo⟩,z,hz,q⟩:=h
  refine ⟨_,(aF (aP (i:=3) bF.nd (aB 1))
  (aF (jF PassesOwn.never rfl (aB 0) (aZ (i:=4) bF.nd) (aE (aV (dL (aG eB hr (by omega) (aA (aB 4) aD))) (aE (pI (i:=3) yD bF.nd aC)) (aE (aV (fP (eX (dL (aG gO hr (by omega) (aA (aB 4) aD))) (eJ (dL (aG gP hr (by omega) (aA (aB 4) (aA (aB 2) aD))))))) (aF (aP (i:=5) bF.nd (aG cL hr (by omega) (aA (aG bS hr (by omega) (aA (aB 4) aD)) (aA (aJ cF (aB 3) aC) (aA (aJ mO (aB 2) (aN (aA (aH (aB 4) aC) aD))) aD)))))
  (aF (aV (fP (eX (aQ (bT hr) (aH (aB 4) aC) aM) (eJ (hW (dL (aG fV hr (by omega) (aA (aH (aB 4) aC) aD))))))) (aE uC) aS)
  (aE (aP (i:=3) bF.nd (aJ cF (aB 5) aC))))) (aE uC))))))
  (aE (aO (aB 3))))),?_⟩
  decreasing_tactic
  refine ⟨fun i ρ M'=>M' = M/\∃ b o1 o2,lkS (rs.take i) a ar = .inl b/\ρ = [some (.tup (dB rs)),some (.int a),some (.tup (ar.map D.str)),some (.int b),o1,o2],⟨rfl,a,none,none,by rw [List.take_zero,lkS],rfl⟩,fun i ρ M' _ _ a e=>(by cases e),?_,?_⟩
  ·rintro i d1 ρ M' hd ⟨rfl,b,o1,o2,hb,rfl⟩
   obtain ⟨r,hr',rfl⟩:=xN hd
   have mr:=List.mem_of_getElem? hr'
   have dr:=dp.2 _ (rL mr)
   have vr:=jE va mr
   have br:=wC bo mr
   obtain ⟨c,hc⟩:=aLl hr' hb hz
   have nx:=(aDh hr' hb).trans hc
   have pv:∀ p,r = .pl p->plV p:=fun p e=>by rw [e,vaT] at vr;exact vr
   have bv:∀ d,r = .bad d->aDW d:=fun d e=>by rw [e,vaT] at vr;exact vr.1
   decreasing_tactic
   refine ⟨r,rfl,pv,bv,?_⟩
   cases r with
   | pl p =>
    rw [lkR] at hc
    decreasing_tactic
    exact ifT rfl ⟨rfl,_,_,_,nx.trans (congrArg Sum.inl (Sum.inl.inj hc).symm),rfl⟩
   | ag n ws =>
    rw [lkR] at hc
    rw [vaT] at vr
    rw [gdR] at dr
    rw [boR] at br
    obtain ⟨k1,k2,k3⟩:=uO hc
    have l4:=jY k1
    decreasing_tactic
    refine ifF rfl ⟨_,rfl,rfl,(fun _ _ e=>by cases e;exact vr.1),bv,?_⟩
    decreasing_tactic
    refine ifT rfl ⟨_,_,rfl,rfl,?_⟩
    rw [k1]
    refine ifT rfl ⟨_,ws,rfl,rfl,?_⟩
    dsimp only [thD]
    decreasing_tactic
    refine ⟨by decide,by rw [List.length_map];omega,ws,b + 1,ar ++ [("again":Str)],by rw [List.map_append];rfl,⟨(mJ dr).2,by rw [List.length_append];show ar.length + 1<=1000;omega⟩,⟨vr.2,br⟩,_,k3,?_⟩
    decreasing_tactic
    rw [aL]
    exact ifF (by decide) ⟨rfl,_,_,_,nx,by rw [show c - 1 + 1 = c by omega]⟩
   | kp ws =>
    rw [lkR] at hc
    rw [vaT] at vr
    rw [gdR] at dr
    rw [boR] at br
    obtain ⟨k1,k2,k3⟩:=uO hc
    have l4:=jY k1
    decreasing_tactic
    refine ifF rfl ⟨_,rfl,rfl,(fun _ _ e=>by cases e),bv,?_⟩
    decreasing_tactic
    refine ifT rfl ⟨_,_,rfl,rfl,?_⟩
    rw [k1]
    refine ifT rfl ⟨_,ws,rfl,rfl,?_⟩
    dsimp only [thD]
    decreasing_tactic
    refine ⟨by decide,by rw [List.length_map];omega,ws,b + 1,ar ++ [("keep":Str)],by rw [List.map_append];rfl,⟨qH dr,by rw [List.length_append];show ar.length + 1<=1000;omega⟩,⟨vr,br⟩,_,k3,?_⟩
    decreasing_tactic
    rw [aL]
    exact ifF (by decide) ⟨rfl,_,_,_,nx,by rw [show c - 1 + 1 = c by omega]⟩
   | ev ws =>
    rw [lkR] at hc
    rw [vaT] at vr
    rw [gdR] at dr
    rw [boR] at br
    obtain ⟨k1,k2,k3⟩:=uO hc
    have l4:=jY k1
    decreasing_tactic
    refine ifF rfl ⟨_,rfl,rfl,(fun _ _ e=>by cases e),bv,?_⟩
    decreasing_tactic
    refine ifT rfl ⟨_,_,rfl,rfl,?_⟩
    rw [k1]
    refine ifT rfl ⟨_,ws,rfl,rfl,?_⟩
    dsimp only [thD]
    decreasing_tactic
    refine ⟨by decide,by rw [List.length_map];omega,ws,b + 1,ar ++ [("ever":Str)],by rw [List.map_append];rfl,⟨mG dr,by rw [List.length_append];show ar.length + 1<=1000;omega⟩,⟨vr,br.1⟩,_,k3,?_⟩
    decreasing_tactic
    rw [aL]
    have gb:=br.2 _ _ _ (by rw [jS];exact Bool.or_true _) k3
    rw [sJ ws (pF _ _ _ _ k3)]
    refine ifT (by decide) ⟨gdS ws,rfl,(mG dr).up8 (by omega),tS ws vr,gb,?_⟩
    decreasing_tactic
    have en:enB (gdS ws) = true:=by
     cases he:enB (gdS ws) with
     | true=>rfl
     | false=>rw [he] at k2;cases k2
    rw [en]
    exact ifF rfl ⟨rfl,_,_,_,nx,by rw [show c - 1 + 1 = c by omega]⟩
   | bad d =>
    rw [lkR] at hc
    cases hc
  ·rintro ρ M' ⟨rfl,b,o1,o2,hb,rfl⟩
   rw [sK,List.take_length,hz] at hb
   cases hb
   exact aT q
noncomputable def aHN (d:Nat):List D->DM->Int->Prop:=fun ds M i=>∃ rs a ar,ds = [.tup (dB rs),.int a,.tup (ar.map D.str)]/\(DpS d (gdS rs)/\ar.length<=1000)/\(fF rs/\boS rs)/\lkS rs a ar = .inr i
theorem tR {C_NoRow:Addr} (hF:bV K mg "look_at_rows" hU ["rows","number","around"]) (iZ:qF P w K mg base "NoRow" C_NoRow "row") (eB:Has P w K mg base 105 "is_plain_row" ["thing"] jN) (gO:Has P w K mg base 102 "is_block" ["thing"] pH) (gP:Has P w K mg base 101 "has_room" ["block","around"] pJ) (w_rows_within:Has P w K mg base 101 "rows_within" ["row"] rH) (fV:Has P w K mg base 119 "can_go_on" ["rows"] nP):∀ d,d<=8->gW P w K mg base (120 + d) "look_at_rows" ["rows","number","around"] C_NoRow "row" (aHN d):=by
 intro d
 have bS:=w_rows_within
 induction d with
 | zero=>exact fun _=>(gW.never hF iZ bF 119).imp fun ds M i ⟨rs,a,ar,_,z,_⟩=>z.1
 | succ d ih =>
  intro l8
  have fR:=ih (by omega)
  have cL:=lW hF eB gO gP w_rows_within fV d (by omega)
  refine gW.mkZ (k:=120 + d) hF iZ bF (fun ds M i ⟨a,b,c,z,_⟩=>by rw [z];rfl) fun f cdv A outer s H ds M iw E hr h hRO hPO=>?_
  obtain ⟨rs,a,ar,rfl,⟨dp,la⟩,⟨va,bo⟩,hz⟩:=h
  refine ⟨_,(aF (aP (i:=3) bF.nd (aB 1))
  (aF (jF PassesOwn.leaving rfl (aB 0) (aZ (i:=4) bF.nd) (aE (aV (dL (aG eB hr (by omega) (aA (aB 4) aD))) (aE (pI (i:=3) yD bF.nd aC)) (aE (aV (fP (eX (dL (aG gO hr (by omega) (aA (aB 4) aD))) (eJ (dL (aG gP hr (by omega) (aA (aB 4) (aA (aB 2) aD))))))) (aF (aFk (aP (i:=5) bF.nd (zV fR hr (by omega) hPO (aA (aG bS hr (by omega) (aA (aB 4) aD)) (aA (aJ cF (aB 3) aC) (aA (aJ mO (aB 2) (aN (aA (aH (aB 4) aC) aD))) aD)))))
  (aP (i:=5) bF.nd (aG cL hr (by omega) (aA (aG bS hr (by omega) (aA (aB 4) aD)) (aA (aJ cF (aB 3) aC) (aA (aJ mO (aB 2) (aN (aA (aH (aB 4) aC) aD))) aD))))))
  (aF (aV (fP (eX (aQ (bT hr) (aH (aB 4) aC) aM) (eJ (hW (dL (aG fV hr (by omega) (aA (aH (aB 4) aC) aD))))))) (aE (xH hRO hr (by first | decide | omega) (aB 3))) aS)
  (aE (aP (i:=3) bF.nd (aJ cF (aB 5) aC))))) (aE (xH hRO hr (by first | decide | omega) (aB 3))))))))
  (aE (aO (aB 3))))),?_⟩
  decreasing_tactic
  refine ⟨fun i ρ M'=>M' = M/\∃ b o1 o2,lkS (rs.take i) a ar = .inl b/\ρ = [some (.tup (dB rs)),some (.int a),some (.tup (ar.map D.str)),some (.int b),o1,o2],⟨rfl,a,none,none,by rw [List.take_zero,lkS],rfl⟩,fun i ρ M' _ _ a e=>(by cases e),?_,?_⟩
  ·rintro i d1 ρ M' hd ⟨rfl,b,o1,o2,hb,rfl⟩
   obtain ⟨r,hr',rfl⟩:=xN hd
   have mr:=List.mem_of_getElem? hr'
   have dr:=dp.2 _ (rL mr)
   have vr:=jE va mr
   have br:=wC bo mr
   have nx:=aDh hr' hb
   have ex:∀ c,lkR r b ar = .inr c->c = iw:=fun c h=>by
    have:=aET hr' hb h
    rw [hz] at this
    exact (Sum.inr.inj this).symm
   have pv:∀ p,r = .pl p->plV p:=fun p e=>by rw [e,vaT] at vr;exact vr
   have bv:∀ d,r = .bad d->aDW d:=fun d e=>by rw [e,vaT] at vr;exact vr.1
   decreasing_tactic
   refine ⟨r,rfl,pv,bv,?_⟩
   cases r with
   | pl p =>
    rw [lkR] at nx
    decreasing_tactic
    exact ifT rfl ⟨rfl,_,_,_,nx,rfl⟩
   | ag n ws =>
    rw [lkR] at nx ex
    rw [vaT] at vr
    rw [gdR] at dr
    rw [boR] at br
    unfold lkB at nx ex
    decreasing_tactic
    refine ifF rfl ⟨_,rfl,rfl,(fun _ _ e=>by cases e;exact vr.1),bv,?_⟩
    decreasing_tactic
    refine ifT rfl ⟨_,_,rfl,rfl,?_⟩
    cases k1:iP (.ag n ws) ar with
    | false =>
     rw [k1] at ex
     exact ifF rfl ⟨ex b rfl,.refl _⟩
    | true =>
     have l4:=jY k1
     have len:(ar ++ [("again":Str)]).length<=1000:=by rw [List.length_append];show ar.length + 1<=1000;omega
     have lm:(ar.map D.str).length + 1<=1000:=by rw [List.length_map];omega
     have am:(ar ++ [("again":Str)]).map D.str = ar.map D.str ++ [D.str "again"]:=by rw [List.map_append];rfl
     rw [k1,if_pos rfl] at nx ex
     refine ifT rfl ?_
     cases k3:lkS ws (b + 1) (ar ++ [("again":Str)]) with
     | inr c =>
      rw [k3] at ex
      refine .inl ⟨_,ws,rfl,rfl,?_⟩
      dsimp only [thD]
      decreasing_tactic
      exact ⟨by decide,lm,c,⟨ws,b + 1,ar ++ [("again":Str)],by rw [am],⟨(mJ dr).2,len⟩,⟨vr.2,br⟩,k3⟩,fun M2 sb=>⟨ex c rfl,sb⟩⟩
     | inl c =>
      rw [k3] at nx ex
      dsimp only at nx ex
      refine .inr ⟨_,ws,rfl,rfl,?_⟩
      dsimp only [thD]
      decreasing_tactic
      refine ⟨by decide,lm,ws,b + 1,ar ++ [("again":Str)],by rw [am],⟨(mJ dr).2,len⟩,⟨vr.2,br⟩,c,k3,?_⟩
      decreasing_tactic
      rw [aL]
      exact ifF (by decide) ⟨rfl,_,_,_,nx,rfl⟩
   | kp ws =>
    rw [lkR] at nx ex
    rw [vaT] at vr
    rw [gdR] at dr
    rw [boR] at br
    unfold lkB at nx ex
    decreasing_tactic
    refine ifF rfl ⟨_,rfl,rfl,(fun _ _ e=>by cases e),bv,?_⟩
    decreasing_tactic
    refine ifT rfl ⟨_,_,rfl,rfl,?_⟩
    cases k1:iP (.kp ws) ar with
    | false =>
     rw [k1] at ex
     exact ifF rfl ⟨ex b rfl,.refl _⟩
    | true =>
     have l4:=jY k1
     have len:(ar ++ [("keep":Str)]).length<=1000:=by rw [List.length_append];show ar.length + 1<=1000;omega
     have lm:(ar.map D.str).length + 1<=1000:=by rw [List.length_map];omega
     have am:(ar ++ [("keep":Str)]).map D.str = ar.map D.str ++ [D.str "keep"]:=by rw [List.map_append];rfl
     rw [k1,if_pos rfl] at nx ex
     refine ifT rfl ?_
     cases k3:lkS ws (b + 1) (ar ++ [("keep":Str)]) with
     | inr c =>
      rw [k3] at ex
      refine .inl ⟨_,ws,rfl,rfl,?_⟩
      dsimp only [thD]
      decreasing_tactic
      exact ⟨by decide,lm,c,⟨ws,b + 1,ar ++ [("keep":Str)],by rw [am],⟨qH dr,len⟩,⟨vr,br⟩,k3⟩,fun M2 sb=>⟨ex c rfl,sb⟩⟩
     | inl c =>
      rw [k3] at nx ex
      dsimp only at nx ex
      refine .inr ⟨_,ws,rfl,rfl,?_⟩
      dsimp only [thD]
      decreasing_tactic
      refine ⟨by decide,lm,ws,b + 1,ar ++ [("keep":Str)],by rw [am],⟨qH dr,len⟩,⟨vr,br⟩,c,k3,?_⟩
      decreasing_tactic
      rw [aL]
      exact ifF (by decide) ⟨rfl,_,_,_,nx,rfl⟩
   | ev ws =>
    rw [lkR] at nx ex
    rw [vaT] at vr
    rw [gdR] at dr
    rw [boR] at br
    unfold lkB at nx ex
    decreasing_tactic
    refine ifF rfl ⟨_,rfl,rfl,(fun _ _ e=>by cases e),bv,?_⟩
    decreasing_tactic
    refine ifT rfl ⟨_,_,rfl,rfl,?_⟩
    cases k1:iP (.ev ws) ar with
    | false =>
     rw [k1] at ex
     exact ifF rfl ⟨ex b rfl,.refl _⟩
    | true =>
     have l4:=jY k1
     have len:(ar ++ [("ever":Str)]).length<=1000:=by rw [List.length_append];show ar.length + 1<=1000;omega
     have lm:(ar.map D.str).length + 1<=1000:=by rw [List.length_map];omega
     have am:(ar ++ [("ever":Str)]).map D.str = ar.map D.str ++ [D.str "ever"]:=by rw [List.map_append];rfl
     rw [k1,if_pos rfl] at nx ex
     refine ifT rfl ?_
     cases k3:lkS ws (b + 1) (ar ++ [("ever":Str)]) with
     | inr c =>
      rw [k3] at ex
      refine .inl ⟨_,ws,rfl,rfl,?_⟩
      dsimp only [thD]
      decreasing_tactic
      exact ⟨by decide,lm,c,⟨ws,b + 1,ar ++ [("ever":Str)],by rw [am],⟨mG dr,len⟩,⟨vr,br.1⟩,k3⟩,fun M2 sb=>⟨ex c rfl,sb⟩⟩
     | inl c =>
      rw [k3] at nx ex
      dsimp only at nx ex
      refine .inr ⟨_,ws,rfl,rfl,?_⟩
      dsimp only [thD]
      decreasing_tactic
      refine ⟨by decide,lm,ws,b + 1,ar ++ [("ever":Str)],by rw [am],⟨mG dr,len⟩,⟨vr,br.1⟩,c,k3,?_⟩
      decreasing_tactic
      rw [aL]
      have gb:=br.2 _ _ _ (by rw [jS];exact Bool.or_true _) k3
      rw [sJ ws (pF _ _ _ _ k3)]
      refine ifT (by decide) ⟨gdS ws,rfl,(mG dr).up8 (by omega),tS ws vr,gb,?_⟩
      decreasing_tactic
      cases he:enB (gdS ws) with
      | true =>
       rw [he] at nx
       exact ifF rfl ⟨rfl,_,_,_,nx,rfl⟩
      | false =>
       rw [he] at ex
       exact ifT rfl ⟨ex b rfl,.refl _⟩
   | bad d =>
    rw [lkR] at ex
    decreasing_tactic
    refine ifF rfl ⟨_,rfl,rfl,(fun _ _ e=>by cases e),bv,?_⟩
    decreasing_tactic
    exact ifF rfl ⟨ex b rfl,.refl _⟩
  ·rintro ρ M' ⟨rfl,b,o1,o2,hb,rfl⟩
   rw [sK,List.take_length,hz] at hb
   cases hb
noncomputable def qM:DSp:=fun ds M Q=>∃ rs,ds = [.tup (dB rs)]/\DpS 8 (gdS rs)/\(fF rs/\boS rs)/\hmS (gdS rs)<=60/\(∃ b,lkS rs 0 [] = .inl b)/\Q (.tup (dB rs)) M
noncomputable abbrev jW:Stmt:=top 60
theorem qG:aR ["rows"] ["rows"] (aI jW):=⟨rfl,rfl,rfl,by decide +kernel,rfl,by decide +kernel,by decide +kernel⟩
theorem yK (hF:bV K mg "program_of" jW ["rows"]) (cL:Has P w K mg base 128 "look_at_rows" ["rows","number","around"] (aAH 8)) (eV:Has P w K mg base 119 "not_too_long" ["program"] jH):Has P w K mg base 129 "program_of" ["rows"] qM:=by
 refine Has.mkZ hF qG (fun ds M Q ⟨_,z,_⟩=>by rw [z];rfl) fun f cdv A outer s H ds M Q E hr h=>?_
 obtain ⟨rs,rfl,dp,va,hm,⟨b,hb⟩,q⟩:=h
 refine ⟨_,(aF (fG (aG cL hr (by decide) (aA (aB 0) (aA aC (aA (aN aD) aD)))))
  (aE (aO (aG eV hr (by decide) (aA (aB 0) aD))))),?_⟩
 decreasing_tactic
 refine ⟨by decide,rs,0,[],rfl,⟨dp,by decide⟩,va,b,hb,?_⟩
 rw [sJ rs (pF _ _ _ _ hb)] at q ⊢
 exact ⟨gdS rs,rfl,dp,hm,aT q⟩
noncomputable def aHF:List D->DM->Int->Prop:=fun ds M i=>∃ rs,ds = [.tup (dB rs)]/\DpS 8 (gdS rs)/\(fF rs/\boS rs)/\lkS rs 0 [] = .inr i
theorem xI {C_NoRow:Addr} (hF:bV K mg "program_of" jW ["rows"]) (iZ:qF P w K mg base "NoRow" C_NoRow "row") (fR:gW P w K mg base 128 "look_at_rows" ["rows","number","around"] C_NoRow "row" (aHN 8)) (cL:Has P w K mg base 128 "look_at_rows" ["rows","number","around"] (aAH 8)) (eV:Has P w K mg base 119 "not_too_long" ["program"] jH):gW P w K mg base 129 "program_of" ["rows"] C_NoRow "row" aHF:=by
 refine gW.mkZ hF iZ qG (fun ds M i ⟨_,z,_⟩=>by rw [z];rfl) fun f cdv A outer s H ds M iw E hr h hRO hPO=>?_
 obtain ⟨rs,rfl,dp,va,hz⟩:=h
 refine ⟨_,(aF (aFk (fG (zV fR hr (by decide) hPO (aA (aB 0) (aA aC (aA (aN aD) aD)))))
  (fG (aG cL hr (by decide) (aA (aB 0) (aA aC (aA (aN aD) aD))))))
  (aE (aO (aG eV hr (by decide) (aA (aB 0) aD))))),?_⟩
 decreasing_tactic
 exact .inl ⟨by decide,iw,⟨rs,0,[],rfl,⟨dp,by decide⟩,va,hz⟩,fun M' sb=>⟨rfl,sb⟩⟩
noncomputable def aB1 (rs:List Th) (z:Int ⊕ Int) (M:DM) (Q:DQ):Prop:=match z with
 | .inr i=>Q (.int i) M
 | .inl _=>∀ p,M (.l p) = none->Q (.ref p) (bJ M p [.tup (dB rs)])
noncomputable def vJ:DSp:=fun ds M Q=>∃ rs,ds = [.tup (dB rs)]/\DpS 8 (gdS rs)/\(fF rs/\boS rs)/\hmS (gdS rs)<=60/\aB1 rs (lkS rs 0 []) M Q
noncomputable abbrev qY:Stmt:=top 85
theorem uZ:aR ["_law_rows","_law_found","e"] ["_law_rows"] (aI qY):=⟨rfl,rfl,rfl,by decide +kernel,rfl,by decide +kernel,by decide +kernel⟩
theorem aAC {C_NoRow:Addr} (hF:bV K mg "_law_told" qY ["_law_rows"]) (iZ:qF P w K mg base "NoRow" C_NoRow "row") (aAM:aCx K C_NoRow) (f_NoRow:yP K C_NoRow "row") (sO:PySem.W.exmOne K (.ref C_NoRow) (.ref C_NoRow) = some true) (mM:Has P w K mg base 129 "program_of" ["rows"] qM) (mT:gW P w K mg base 129 "program_of" ["rows"] C_NoRow "row" aHF):Has P w K mg base 130 "_law_told" ["_law_rows"] vJ:=by
 refine Has.mkZ hF uZ (fun ds M Q ⟨_,z,_⟩=>by rw [z];rfl) fun f cdv A outer s H ds M Q E hr h=>?_
 obtain ⟨rs,rfl,dp,va,hm,q⟩:=h
 refine ⟨_,(aF (aD6 (i:=1) (j:=2) mT mM hr (by decide) (by decide) uZ.nd iZ.nm sO (aA (aB 0) aD) (fun _ _ _ _ _ _ ho hl=>(aE (aO (aF7 (j:=2) ho hl aAM f_NoRow)))))
  (aE (aO (bN (aA (aB 1) aD))))),?_⟩
 unfold aB1 at q
 decreasing_tactic
 cases hz:lkS rs 0 [] with
 | inr i =>
  rw [hz] at q
  refine .inl ⟨i,⟨rs,rfl,dp,va,hz⟩,fun a=>?_⟩
  exact ⟨rfl,aT q⟩
 | inl b =>
  rw [hz] at q
  refine .inr ⟨rs,rfl,dp,va,hm,⟨b,hz⟩,?_⟩
  decreasing_tactic
  refine ⟨by decide,fun p hp=>aT (q p hp)⟩
noncomputable def aKF (d:D):Prop:=(∃ m x,d = .tup [.str "again",m,.tup [x]]/\aJa m) ∨ (∃ x,d = .tup [.str "again",.tup [x]]) ∨ d = .tup [.str "keep"] ∨ (∃ x,d = .tup [.str "keep",.tup [x],.int 1]) ∨ d = .tup [.str "keep",.str "rows"]
noncomputable def nS:DSp:=fun ds M Q=>∃ (r:Th) (ar:List Str),ds = [thD r,.int (ar.length:Int),.bl (evI ar)]/\isP r = false/\(∀ n ws,r = .ag n ws->n<=12)/\(∀ d,r = .bad d->aKF d)/\ar.length<=4/\Q (.bl (isB r && iP r ar)) M
noncomputable abbrev kP:Stmt:=top 81
theorem vO:aR ["_law_row_here","_law_deep","_law_within"] ["_law_row_here","_law_deep","_law_within"] (aI kP):=⟨rfl,rfl,rfl,by decide +kernel,rfl,by decide +kernel,by decide +kernel⟩
theorem uD (hF:bV K mg "_law_is_block" kP ["_law_row_here","_law_deep","_law_within"]) (bH:mg "isinstance" = none) (cY:mg "tuple" = none) (dZ:mg "len" = none) (iO:mg "int" = none) (uR:mg "bool" = none):Has P w K mg base 101 "_law_is_block" ["_law_row_here","_law_deep","_law_within"] nS:=by
 refine Has.mkZ hF vO (fun ds M Q ⟨_,_,z,_⟩=>by rw [z];rfl) fun f cdv A outer s H ds M Q E hr h=>?_
 obtain ⟨r,ar,rfl,hb,hn,bv,l4,q⟩:=h
 refine ⟨_,(aF (aV (fP (jP (aQ (bT hr) (aB 1) aC) (jP (fP (eX (dL (aB 2)) (eJ (aQ (bT hr) (aH (aB 0) aC) aM)))) (jB (hW (dL (iC (aH (aB 0) (cU aC)) bH cY))))))) (aE (aO fU)) aS)
  (aF (aV (aQ (pT hr) (aH (aB 0) aC) aM) (aE (aO (cB (bT hr) (bW iU dZ (aA (aB 0) aD)) aC))) aS)
  (aE (aO (eD (cB (bT hr) (bW iU dZ (aA (aB 0) aD)) aC) (eD (iC (aH (aB 0) aC) bH iO) (eD (qD (iC (aH (aB 0) aC) bH uR)) (dR (uU sL sL aC (aH (aB 0) aC) aC))))))))),?_⟩
 unfold iP at q
 rw [show ar.any (· == "ever") = evI ar from rfl] at q
 generalize evI ar = ei at q ⊢
 decreasing_tactic
 rw [bI]
 by_cases c:ar.length < 4
 ·rw [decide_eq_true c,Bool.true_and] at q
  refine ifF (decide_eq_false (by omega)) ?_
  cases r with
  | pl p=>cases hb
  | ag n ws =>
   have:=hn n ws rfl
   dsimp only [thD]
   decreasing_tactic
   cases ei with
   | false =>
    refine ifF rfl ?_
    refine .inl ⟨_,_,rfl,rfl,ifF rfl ?_⟩
    rw [aL]
    refine ifF (by decide) ?_
    rw [bI]
    refine ifT (by decide) (.inl ⟨_,_,rfl,rfl,ifT rfl (.inl ⟨_,_,rfl,rfl,ifT rfl (ifT (decide_eq_true (by omega)) ?_)⟩)⟩)
    rw [decide_eq_true (by omega)]
    exact aT q
   | true =>
    refine ifT rfl ?_
    rw [aL]
    refine ifF (by decide) ?_
    refine .inl ⟨_,_,rfl,rfl,ifF rfl ?_⟩
    rw [aL]
    refine ifF (by decide) ?_
    rw [bI]
    refine ifT (by decide) (.inl ⟨_,_,rfl,rfl,ifT rfl (.inl ⟨_,_,rfl,rfl,ifT rfl (ifT (decide_eq_true (by omega)) ?_)⟩)⟩)
    rw [decide_eq_true (by omega)]
    exact aT q
  | kp ws =>
   dsimp only [thD]
   decreasing_tactic
   cases ei with
   | false =>
    refine ifF rfl ?_
    refine .inl ⟨_,_,rfl,rfl,ifF rfl ?_⟩
    rw [aL]
    refine ifT (by decide) ?_
    rw [bI]
    exact aT q
   | true =>
    refine ifT rfl ?_
    rw [aL]
    refine ifF (by decide) ?_
    refine .inl ⟨_,_,rfl,rfl,ifF rfl ?_⟩
    rw [aL]
    refine ifT (by decide) ?_
    rw [bI]
    exact aT q
  | ev ws =>
   dsimp only [thD]
   decreasing_tactic
   cases ei with
   | false =>
    refine ifF rfl ?_
    refine .inl ⟨_,_,rfl,rfl,ifF rfl ?_⟩
    rw [aL]
    refine ifT (by decide) ?_
    rw [bI]
    exact aT q
   | true =>
    refine ifT rfl ?_
    rw [aL]
    exact ifT (by decide) (ifT rfl (aT q))
  | bad d =>
   rw [show isB (.bad d) = false from rfl,Bool.false_and] at q
   rcases bv d rfl with ⟨m,x,rfl,hm⟩ | ⟨x,rfl⟩ | rfl | ⟨x,rfl⟩ | rfl
   ·dsimp only [thD]
    decreasing_tactic
    cases ei with
    | false =>
     refine ifF rfl ?_
     refine .inl ⟨_,_,rfl,rfl,ifF rfl ?_⟩
     rw [aL]
     refine ifF (by decide) ?_
     rw [bI]
     refine ifT (by decide) ?_
     rcases hm with (rfl | rfl | rfl) | rfl | rfl | rfl
     ·exact .inl ⟨_,_,rfl,rfl,ifT rfl (.inl ⟨_,_,rfl,rfl,ifT rfl (ifT (by decide) (aT q))⟩)⟩
     ·exact .inl ⟨_,_,rfl,rfl,ifT rfl (.inl ⟨_,_,rfl,rfl,ifT rfl (ifF (by decide) (aT q))⟩)⟩
     ·exact .inl ⟨_,_,rfl,rfl,ifT rfl (.inl ⟨_,_,rfl,rfl,ifF rfl (aT q)⟩)⟩
     ·exact .inl ⟨_,_,rfl,rfl,ifF rfl (aT q)⟩
     ·exact .inl ⟨_,_,rfl,rfl,ifF rfl (aT q)⟩
     ·exact .inl ⟨_,_,rfl,rfl,ifT rfl (.inl ⟨_,_,rfl,rfl,ifT rfl (ifT (by decide) (aT q))⟩)⟩
    | true =>
     refine ifT rfl ?_
     rw [aL]
     refine ifF (by decide) ?_
     refine .inl ⟨_,_,rfl,rfl,ifF rfl ?_⟩
     rw [aL]
     refine ifF (by decide) ?_
     rw [bI]
     refine ifT (by decide) ?_
     rcases hm with (rfl | rfl | rfl) | rfl | rfl | rfl
     ·exact .inl ⟨_,_,rfl,rfl,ifT rfl (.inl ⟨_,_,rfl,rfl,ifT rfl (ifT (by decide) (aT q))⟩)⟩
     ·exact .inl ⟨_,_,rfl,rfl,ifT rfl (.inl ⟨_,_,rfl,rfl,ifT rfl (ifF (by decide) (aT q))⟩)⟩
     ·exact .inl ⟨_,_,rfl,rfl,ifT rfl (.inl ⟨_,_,rfl,rfl,ifF rfl (aT q)⟩)⟩
     ·exact .inl ⟨_,_,rfl,rfl,ifF rfl (aT q)⟩
     ·exact .inl ⟨_,_,rfl,rfl,ifF rfl (aT q)⟩
     ·exact .inl ⟨_,_,rfl,rfl,ifT rfl (.inl ⟨_,_,rfl,rfl,ifT rfl (ifT (by decide) (aT q))⟩)⟩
   ·dsimp only [thD]
    decreasing_tactic
    cases ei with
    | false =>
     refine ifF rfl ?_
     refine .inl ⟨_,_,rfl,rfl,ifF rfl ?_⟩
     rw [aL]
     refine ifF (by decide) ?_
     rw [bI]
     exact ifF (by decide) (aT q)
    | true =>
     refine ifT rfl ?_
     rw [aL]
     refine ifF (by decide) ?_
     refine .inl ⟨_,_,rfl,rfl,ifF rfl ?_⟩
     rw [aL]
     refine ifF (by decide) ?_
     rw [bI]
     exact ifF (by decide) (aT q)
   ·dsimp only [thD]
    decreasing_tactic
    cases ei with
    | false =>
     refine ifF rfl ?_
     exact .inl ⟨_,_,rfl,rfl,ifT rfl (aT q)⟩
    | true =>
     refine ifT rfl ?_
     rw [aL]
     refine ifF (by decide) ?_
     exact .inl ⟨_,_,rfl,rfl,ifT rfl (aT q)⟩
   ·dsimp only [thD]
    decreasing_tactic
    cases ei with
    | false =>
     refine ifF rfl ?_
     exact .inl ⟨_,_,rfl,rfl,ifT rfl (aT q)⟩
    | true =>
     refine ifT rfl ?_
     rw [aL]
     refine ifF (by decide) ?_
     exact .inl ⟨_,_,rfl,rfl,ifT rfl (aT q)⟩
   ·dsimp only [thD]
    decreasing_tactic
    cases ei with
    | false =>
     refine ifF rfl ?_
     exact .inl ⟨_,_,rfl,rfl,ifT rfl (aT q)⟩
    | true =>
     refine ifT rfl ?_
     rw [aL]
     refine ifF (by decide) ?_
     exact .inl ⟨_,_,rfl,rfl,ifT rfl (aT q)⟩
 ·rw [decide_eq_false c,Bool.false_and] at q
  rw [Bool.and_false] at q
  exact ifT (decide_eq_true (by omega)) (aT q)
noncomputable def lI (z:Int ⊕ Int):D:=match z with
 | .inl b=>.tup [.non,.int b]
 | .inr c=>.tup [.int c,.int (-1)]
theorem aGb (p:Pl):eqD (plD p) (.tup [.str "none"]) = false:=by
 rw [aAv]
 show (eqD (.str (wd p)) (.str "none") && mC _ _) = false
 rw [show eqD (.str (wd p)) (.str "none") = false by cases p<;>rfl];rfl
theorem xZ:∀ (n:Nat) (d:D) (m:Nat),n<=m->aW n d = true->aW m d = true
 | 0,.tup _,_,_,h=>by cases h
 | n + 1,.tup ds,m,l,h=>by
  obtain ⟨m',rfl⟩:∃ m',m = m' + 1:=⟨m - 1,by omega⟩
  have h:ds.all (aW n) = true:=h
  show ds.all (aW m') = true
  rw [List.all_eq_true] at h ⊢
  exact fun x hx=>xZ n x m' (by omega) (h x hx)
 | n,.ref _,_,_,h=>by cases n<;>cases h
 | n,.fz _,_,_,h=>by cases n<;>cases h
 | _,.int _,m,_,_=>by cases m<;>rfl
 | _,.bl _,m,_,_=>by cases m<;>rfl
 | _,.str _,m,_,_=>by cases m<;>rfl
 | _,.non,m,_,_=>by cases m<;>rfl
theorem sV:∀ (d:Nat) (r:Th) (k:Nat),Dp d (gdR r)->vaT r->aW (k + 2 * d + 30) (thD r) = true
 | d,.pl p,k,_,_=>by rw [thD];exact aDj p _
 | d,.bad b,k,_,v=>by rw [vaT] at v;rw [thD];exact xZ 30 b _ (by omega) v.2
 | 0,.ag n ws,k,h,_=>by rw [gdR] at h;exact h.elim
 | 0,.kp ws,k,h,_=>by rw [gdR] at h;exact h.elim
 | 0,.ev ws,k,h,_=>by rw [gdR] at h;exact h.elim
 | d + 1,.ag n ws,k,h,v=>by
  rw [vaT] at v
  rw [gdR] at h
  have hw:∀ x ∈ dB ws,aW (k + 2 * d + 30) x = true:=fun x hx=>by
   rw [gG] at hx
   obtain ⟨r,hr,rfl⟩:=List.mem_map.mp hx
   exact sV d r k (h.2.2 _ (rL hr)) (jE v.2 hr)
  rw [thD,show k + 2 * (d + 1) + 30 = (k + 2 * d + 30) + 1 + 1 by omega]
  show ([D.str "again",.int (n:Int),.tup (dB ws)].all (aW (k + 2 * d + 30 + 1))) = true
  rw [List.all_cons,List.all_cons,List.all_cons]
  show (true && (true && (((dB ws).all (aW (k + 2 * d + 30))) && true))) = true
  rw [List.all_eq_true.mpr hw];rfl
 | d + 1,.kp ws,k,h,v=>by
  rw [vaT] at v
  rw [gdR] at h
  have hw:∀ x ∈ dB ws,aW (k + 2 * d + 30) x = true:=fun x hx=>by
   rw [gG] at hx
   obtain ⟨r,hr,rfl⟩:=List.mem_map.mp hx
   exact sV d r k (h.2 _ (rL hr)) (jE v hr)
  rw [thD,show k + 2 * (d + 1) + 30 = (k + 2 * d + 30) + 1 + 1 by omega]
  show ([D.str "keep",.tup (dB ws)].all (aW (k + 2 * d + 30 + 1))) = true
  rw [List.all_cons,List.all_cons]
  show (true && (((dB ws).all (aW (k + 2 * d + 30))) && true)) = true
  rw [List.all_eq_true.mpr hw];rfl
 | d + 1,.ev ws,k,h,v=>by
  rw [vaT] at v
  rw [gdR] at h
  have hw:∀ x ∈ dB ws,aW (k + 2 * d + 30) x = true:=fun x hx=>by
   rw [gG] at hx
   obtain ⟨r,hr,rfl⟩:=List.mem_map.mp hx
   exact sV d r k (h.2 _ (rL hr)) (jE v hr)
  rw [thD,show k + 2 * (d + 1) + 30 = (k + 2 * d + 30) + 1 + 1 by omega]
  show ([D.str "ever",.tup (dB ws)].all (aW (k + 2 * d + 30 + 1))) = true
  rw [List.all_cons,List.all_cons]
  show (true && (((dB ws).all (aW (k + 2 * d + 30))) && true)) = true
  rw [List.all_eq_true.mpr hw];rfl
theorem aGK:∀ r:Th,isP r = true ∨ isB r = true->eqD (thD r) (.tup [.str "none"]) = false
 | .pl p,_=>by rw [thD];exact aGb p
 | .ag n ws,_=>by rw [thD];rfl
 | .kp ws,_=>by rw [thD];rfl
 | .ev ws,_=>by rw [thD];rfl
 | .bad d,h=>by rcases h with h | h<;>cases h
theorem aC4 (r:Th) (h:isP r = true ∨ isB r = true):∃ k ds,thD r = .tup (.str k :: ds):=by
 cases r with
 | pl p=>rw [thD,aAv];exact ⟨_,_,rfl⟩
 | bad d=>rcases h with h | h<;>cases h
 | _=>rw [thD];exact ⟨_,_,rfl⟩
theorem aFl {r:Th} {d:Nat} (h:Dp d (gdR r)) (v:vaT r) (l:d<=9):aW 60 (thD r) = true:=by
 have p:=sV d r (30 - 2 * d) h v
 rw [show 30 - 2 * d + 2 * d + 30 = 60 by omega] at p
 exact p
theorem wG {r:Th} {d:Nat} {M:DM} {Q:DQ} (o:isP r = true ∨ isB r = true) (h:Dp d (gdR r)) (v:vaT r) (l:d<=9) (q:Q (.bl false) M):dEq id (thD r) (.tup [.str "none"]) M Q:=by
 have p:=aFl h v l
 have e:=aGK r o
 obtain ⟨k,ds,z⟩:=aC4 r o
 rw [z] at p e ⊢
 exact ⟨p,rfl,by rw [e];exact q⟩
theorem aC3 {r:Th} {d:Nat} {M:DM} {Q:DQ} (o:isP r = true ∨ isB r = true) (h:Dp d (gdR r)) (v:vaT r) (l:d<=9) (q:Q (.bl false) M):dEq id (thD r) (.int 5) M Q:=by
 have p:=aFl h v l
 obtain ⟨k,ds,z⟩:=aC4 r o
 rw [z] at p ⊢
 exact ⟨p,rfl,q⟩
theorem aFv {c:Bool} {F:D->DM->Prop} {x y:Str} {M:DM} (h:F (.bl (c || (x == y))) M):if c = true then F (.bl true) M else dEq id (.str x) (.str y) M F:=by
 cases c with
 | true=>exact ifT rfl h
 | false =>
  refine ifF rfl ?_
  rw [aL]
  rw [Bool.false_or] at h
  rw [show id (decide (x = y)) = (x == y) by by_cases e:x = y<;>simp [e]]
  exact h
noncomputable def tF (d:Nat):DSp:=fun ds M Q=>∃ rs a ar,ds = [.tup (dB rs),.int a,.int (List.length ar:Int),.bl (evI ar)]/\(DpS d (gdS rs)/\ar.length<=4)/\(fF rs/\boS rs)/\Q (lI (lkS rs a ar)) M
noncomputable abbrev oV:Stmt:=top 82
theorem eK:aR ["_law_rows","_law_number","_law_deep","_law_within","_law_row_here","_law_own","_law_wrong"] ["_law_rows","_law_number","_law_deep","_law_within"] (aI oV):=⟨rfl,rfl,rfl,by decide +kernel,rfl,by decide +kernel,by decide +kernel⟩
theorem zE (hF:bV K mg "_law_first" oV ["_law_rows","_law_number","_law_deep","_law_within"]) (dZ:mg "len" = none) (kJ:Has P w K mg base 101 "_law_is_block" ["_law_row_here","_law_deep","_law_within"] nS) (w_law_is_endless:Has P w K mg base 119 "_law_is_endless" ["_law_rows"] kE):∀ d,d<=8->Has P w K mg base (120 + d) "_law_first" ["_law_rows","_law_number","_law_deep","_law_within"] (tF d):=by
 intro d
 have dW:=w_law_is_endless
 induction d with
 | zero=>exact fun _=>(Has.never hF eK 119).imp fun ds M Q ⟨rs,a,ar,_,z,_⟩=>z.1
 | succ d ih =>
  intro l8
  have gQ:=ih (by omega)
  refine Has.mkZ (k:=120 + d) hF eK (fun ds M Q ⟨a,b,c,z,_⟩=>by rw [z];rfl) fun f cdv A outer s H ds M Q E hr h=>?_
  obtain ⟨rs,a,ar,rfl,⟨dp,la⟩,⟨va,bo⟩,q⟩:=h
  refine ⟨_,(aF (jF PassesOwn.never rfl (aB 0) (aZ (i:=4) eK.nd) (aF (aP (i:=5) eK.nd (aB 1))
  (aF (aP (i:=1) eK.nd (aJ cF (aB 1) aC))
  (aF (aV (fP (jP (aQ (bT hr) (aB 4) (aN (aA aM aD))) (jP (aQ (bT hr) (aB 4) aC) (jB (aQ (bT hr) (bW iU dZ (aA (aB 4) aD)) aC))))) (aE (aO (aN (aA (aB 5) (aA (cU aC) aD))))) aS)
  (aE (aV (aQ sT (aH (aB 4) aC) (bN (aA aM (aA aM (aA aM aD)))) rfl) (aF (aV (hW (dL (aG kJ hr (by omega) (aA (aB 4) (aA (aB 2) (aA (aB 3) aD)))))) (aE (aO (aN (aA (aB 5) (aA (cU aC) aD))))) aS)
  (aF (jT (aG gQ hr (by omega) (aA (aH (aB 4) (cU aC)) (aA (aB 1) (aA (aJ cF (aB 2) aC) (aA (uK (aB 3) (dR (cB (bT hr) (aH (aB 4) aC) aM))) aD))))) (jR (n:=2) rfl (bX (aZ (i:=6) eK.nd) (bX (aZ (i:=1) eK.nd) hZ))))
  (aF (aV (aQ wV (aB 6) eZ) (aE (aO (aN (aA (aB 6) (aA (cU aC) aD))))) aS)
  (aF (aP (i:=1) eK.nd (aJ cF (aB 1) aC))
  (aE (aV (fP (eX (aQ (bT hr) (aH (aB 4) aC) aM) (eJ (hW (dL (aG dW hr (by omega) (aA (aH (aB 4) aC) aD))))))) (aE (aO (aN (aA (aB 5) (aA (cU aC) aD))))) aS)))))) aS))))))
  (aE (aO (aN (aA eZ (aA (aB 1) aD)))))),?_⟩
  decreasing_tactic
  refine ⟨fun i ρ M'=>bC M M'/\∃ b o1 o2 o3,lkS (rs.take i) a ar = .inl b/\ρ = [some (.tup (dB rs)),some (.int b),some (.int (List.length ar:Int)),some (.bl (evI ar)),o1,o2,o3],⟨.refl _,a,none,none,none,by rw [List.take_zero,lkS],rfl⟩,fun i ρ M' _ _ a e=>(by cases e),?_,?_⟩
  ·rintro i d1 ρ M' hd ⟨sub,b,o1,o2,o3,hb,rfl⟩
   obtain ⟨r,hr',rfl⟩:=xN hd
   have mr:=List.mem_of_getElem? hr'
   have dr:=dp.2 _ (rL mr)
   have vr:=jE va mr
   have br:=wC bo mr
   have nx:=aDh hr' hb
   have ex:∀ c,lkR r b ar = .inr c->∀ M2,bC M M2->Dn Q (.tup [.int c,.int (-1)]) M2:=fun c h M2 sb=>by
    rw [aET hr' hb h] at q
    exact ⟨M,sb,q⟩
   decreasing_tactic
   refine ⟨by decide,?_⟩
   cases r with
   | pl x =>
    refine wG (.inl rfl) dr vr (by omega) (ifF rfl (aC3 (.inl rfl) dr vr (by omega) (ifF rfl ?_)))
    rw [lkR] at nx
    obtain ⟨w0,cR,e,wb⟩:=wF x
    dsimp only [thD]
    rw [e]
    decreasing_tactic
    rw [xQ]
    decreasing_tactic
    rw [aFf]
    decreasing_tactic
    rw [bI]
    refine ifF (decide_eq_false (by show ¬ ((cR.length + 1:Nat):Int) = 0;omega)) ⟨by decide,fun p hp=>⟨["again","keep","ever"],aK,ifF (xK wb) ⟨sub.trans (bC.new hp _),_,_,_,_,nx,rfl⟩⟩⟩
   | ag n ws =>
    refine wG (.inr rfl) dr vr (by omega) (ifF rfl (aC3 (.inr rfl) dr vr (by omega) (ifF rfl ?_)))
    rw [lkR] at nx ex
    rw [vaT] at vr
    rw [gdR] at dr
    rw [boR] at br
    unfold lkB at nx ex
    dsimp only [thD]
    decreasing_tactic
    rw [bI]
    refine ifF (by decide) ⟨by decide,fun p hp=>⟨["again","keep","ever"],aK,ifT (by decide) ⟨.ag n ws,ar,by rw [thD],rfl,(fun _ _ e=>by cases e;exact vr.1),(fun _ e=>by cases e),la,?_⟩⟩⟩
    have s1:=sub.trans (bC.new hp [.str "again",.str "keep",.str "ever"])
    generalize bJ M' p _ = M1 at s1 ⊢
    decreasing_tactic
    cases k1:iP (.ag n ws) ar with
    | false =>
     rw [k1] at ex
     exact ifT rfl ⟨by decide,ex b rfl _ s1⟩
    | true =>
     have l4:=jY k1
     rw [k1,if_pos rfl] at nx ex
     refine ifF rfl (aFv ?_)
     rw [<- jS]
     refine ⟨ws,b + 1,ar ++ [("again":Str)],by rw [List.length_append];rfl,⟨(mJ dr).2,by rw [List.length_append];show ar.length + 1<=4;omega⟩,⟨vr.2,br⟩,?_⟩
     cases k3:lkS ws (b + 1) (ar ++ [("again":Str)]) with
     | inr c =>
      rw [k3] at ex
      dsimp only [lI]
      decreasing_tactic
      exact ⟨by decide,ifT rfl ⟨by decide,ex c rfl _ s1⟩⟩
     | inl c =>
      rw [k3] at nx ex
      dsimp only at nx ex
      dsimp only [lI]
      decreasing_tactic
      refine ⟨by decide,ifF rfl ?_⟩
      rw [aL]
      exact ifF (by decide) ⟨s1,_,_,_,_,nx,rfl⟩
   | kp ws =>
    refine wG (.inr rfl) dr vr (by omega) (ifF rfl (aC3 (.inr rfl) dr vr (by omega) (ifF rfl ?_)))
    rw [lkR] at nx ex
    rw [vaT] at vr
    rw [gdR] at dr
    rw [boR] at br
    unfold lkB at nx ex
    dsimp only [thD]
    decreasing_tactic
    rw [bI]
    refine ifF (by decide) ⟨by decide,fun p hp=>⟨["again","keep","ever"],aK,ifT (by decide) ⟨.kp ws,ar,by rw [thD],rfl,(fun _ _ e=>by cases e),(fun _ e=>by cases e),la,?_⟩⟩⟩
    have s1:=sub.trans (bC.new hp [.str "again",.str "keep",.str "ever"])
    generalize bJ M' p _ = M1 at s1 ⊢
    decreasing_tactic
    cases k1:iP (.kp ws) ar with
    | false =>
     rw [k1] at ex
     exact ifT rfl ⟨by decide,ex b rfl _ s1⟩
    | true =>
     have l4:=jY k1
     rw [k1,if_pos rfl] at nx ex
     refine ifF rfl (aFv ?_)
     rw [<- jS]
     refine ⟨ws,b + 1,ar ++ [("keep":Str)],by rw [List.length_append];rfl,⟨qH dr,by rw [List.length_append];show ar.length + 1<=4;omega⟩,⟨vr,br⟩,?_⟩
     cases k3:lkS ws (b + 1) (ar ++ [("keep":Str)]) with
     | inr c =>
      rw [k3] at ex
      dsimp only [lI]
      decreasing_tactic
      exact ⟨by decide,ifT rfl ⟨by decide,ex c rfl _ s1⟩⟩
     | inl c =>
      rw [k3] at nx ex
      dsimp only at nx ex
      dsimp only [lI]
      decreasing_tactic
      refine ⟨by decide,ifF rfl ?_⟩
      rw [aL]
      exact ifF (by decide) ⟨s1,_,_,_,_,nx,rfl⟩
   | ev ws =>
    refine wG (.inr rfl) dr vr (by omega) (ifF rfl (aC3 (.inr rfl) dr vr (by omega) (ifF rfl ?_)))
    rw [lkR] at nx ex
    rw [vaT] at vr
    rw [gdR] at dr
    rw [boR] at br
    unfold lkB at nx ex
    dsimp only [thD]
    decreasing_tactic
    rw [bI]
    refine ifF (by decide) ⟨by decide,fun p hp=>⟨["again","keep","ever"],aK,ifT (by decide) ⟨.ev ws,ar,by rw [thD],rfl,(fun _ _ e=>by cases e),(fun _ e=>by cases e),la,?_⟩⟩⟩
    have s1:=sub.trans (bC.new hp [.str "again",.str "keep",.str "ever"])
    generalize bJ M' p _ = M1 at s1 ⊢
    decreasing_tactic
    cases k1:iP (.ev ws) ar with
    | false =>
     rw [k1] at ex
     exact ifT rfl ⟨by decide,ex b rfl _ s1⟩
    | true =>
     have l4:=jY k1
     rw [k1,if_pos rfl] at nx ex
     refine ifF rfl (aFv ?_)
     rw [<- jS]
     refine ⟨ws,b + 1,ar ++ [("ever":Str)],by rw [List.length_append];rfl,⟨mG dr,by rw [List.length_append];show ar.length + 1<=4;omega⟩,⟨vr,br.1⟩,?_⟩
     cases k3:lkS ws (b + 1) (ar ++ [("ever":Str)]) with
     | inr c =>
      rw [k3] at ex
      dsimp only [lI]
      decreasing_tactic
      exact ⟨by decide,ifT rfl ⟨by decide,ex c rfl _ s1⟩⟩
     | inl c =>
      rw [k3] at nx ex
      dsimp only at nx ex
      dsimp only [lI]
      decreasing_tactic
      refine ⟨by decide,ifF rfl ?_⟩
      rw [aL]
      have gb:=br.2 _ _ _ (by rw [jS];exact Bool.or_true _) k3
      rw [sJ ws (pF _ _ _ _ k3)]
      refine ifT (by decide) ⟨_,gdS ws,rfl,.inl rfl,(mG dr).up8 (by omega),gb,?_⟩
      decreasing_tactic
      cases he:enB (gdS ws) with
      | true =>
       rw [he] at nx
       exact ifF rfl ⟨s1,_,_,_,_,nx,rfl⟩
      | false =>
       rw [he] at ex
       exact ifT rfl ⟨by decide,ex b rfl _ s1⟩
   | bad d =>
    have p60:=aFl dr vr (by omega)
    rw [lkR] at ex
    rw [vaT] at vr
    rw [thD] at p60
    have kinds:(d = .tup [.str "none"] ∨ d = .int 5) ∨ aKF d:=vr.1
    rcases kinds with (rfl | rfl) | bw
    ·rw [thD]
     exact aBp rfl (ifT rfl ⟨by decide,ex b rfl _ sub⟩)
    ·rw [thD]
     exact ⟨rfl,rfl,ifF rfl (aBp rfl (ifT rfl ⟨by decide,ex b rfl _ sub⟩))⟩
    have bw0:=bw
    rcases bw with ⟨m,x,rfl,hm⟩ | ⟨x,rfl⟩ | rfl | ⟨x,rfl⟩ | rfl
    all_goals
     rw [thD]
     refine ⟨p60,rfl,ifF rfl ⟨p60,rfl,ifF rfl ?_⟩⟩
     decreasing_tactic
     rw [bI]
     refine ifF (by decide) ⟨by decide,fun p hp=>⟨["again","keep","ever"],aK,ifT (by decide) ⟨.bad _,ar,by rw [thD],rfl,(fun _ _ e=>by cases e),(fun _ e=>by cases e;exact bw0),la,?_⟩⟩⟩
     decreasing_tactic
     exact ifT rfl ⟨by decide,ex b rfl _ (sub.trans (bC.new hp _))⟩
  ·rintro ρ M' ⟨sub,b,o1,o2,o3,hb,rfl⟩
   rw [sK,List.take_length] at hb
   rw [hb] at q
   exact ⟨Nat.le_of_ble_eq_true rfl,M,sub,q⟩
mutual
noncomputable def ofR:Rw->Th
 | .pl p=>.pl p
 | .ag n ws=>.ag n (ofS ws)
 | .kp ws=>.kp (ofS ws)
 | .ev ws=>.ev (ofS ws)
noncomputable def ofS:List Rw->List Th
 | []=>[]
 | r :: rs=>ofR r :: ofS rs
end
mutual
theorem zT:∀ r:Rw,gdR (ofR r) = r
 | .pl p=>by rw [ofR,gdR]
 | .ag n ws=>by rw [ofR,gdR,dA ws]
 | .kp ws=>by rw [ofR,gdR,dA ws]
 | .ev ws=>by rw [ofR,gdR,dA ws]
theorem dA:∀ rs:List Rw,gdS (ofS rs) = rs
 | []=>by rw [ofS,gdS]
 | r :: rs=>by rw [ofS,gdS,zT r,dA rs]
end
mutual
theorem aHR:∀ r:Rw,okT (ofR r)
 | .pl p=>by rw [ofR,okT];trivial
 | .ag n ws=>by rw [ofR,okT];exact yL ws
 | .kp ws=>by rw [ofR,okT];exact yL ws
 | .ev ws=>by rw [ofR,okT];exact yL ws
theorem yL:∀ rs:List Rw,okS (ofS rs)
 | []=>by rw [ofS,okS];trivial
 | r :: rs=>by rw [ofS,okS];exact ⟨aHR r,yL rs⟩
end
theorem aII (r:Rw):thD (ofR r) = rwD r:=by rw [aKK _ (aHR r),zT]
theorem wY (rs:List Rw):dB (ofS rs) = bM rs:=by rw [sJ _ (yL rs),dA]
theorem gH:∀ rs:List Rw,ofS rs = rs.map ofR
 | []=>by rw [ofS];rfl
 | r :: rs=>by rw [ofS,gH rs,List.map_cons]
theorem aMn:∀ t b:Fin 12,gwB (((t.val + 1:Int):Rat) / ((b.val + 1:Int):Rat)) = true:=by decide +kernel
theorem aCU {t b:Int} (t1:1<=t) (t2:t<=12) (b1:1<=b) (b2:b<=12):gwB ((t:Rat) / (b:Rat)) = true:=by
 have:=aMn ⟨(t - 1).toNat,by omega⟩ ⟨(b - 1).toNat,by omega⟩
 dsimp only at this
 rw [show (((t - 1).toNat:Nat):Int) + 1 = t by omega,show (((b - 1).toNat:Nat):Int) + 1 = b by omega] at this
 exact this
theorem aJI {A:Nat} {p:Pl} (h:FA A p):plV p:=by
 refine ⟨h.2,fun a e=>?_⟩
 subst e
 obtain ⟨t,b,⟨t0,t1⟩,⟨b0,b1⟩,e⟩:=h.1
 have:=aCU (t:=(t:Int)) (b:=(b:Int)) (by omega) (by omega) (by omega) (by omega)
 rw [Rat.intCast_natCast,Rat.intCast_natCast,<- e,Rat.mul_div_cancel (by
  intro z
  have:=Rat.intCast_eq_zero_iff.mp (show ((b:Int):Rat) = 0 by rw [Rat.intCast_natCast];exact z)
  omega)] at this
 exact this
mutual
theorem aHz {A:Nat}:∀ r:Rw,alR (FA A) r->ltR r->vaT (ofR r)
 | .pl p,h,_=>by rw [alR] at h;rw [ofR,vaT];exact aJI h
 | .ag n ws,h,l=>by rw [alR] at h;rw [ltR] at l;rw [ofR,vaT];exact ⟨l.1,lP ws h l.2⟩
 | .kp ws,h,l=>by rw [alR] at h;rw [ltR] at l;rw [ofR,vaT];exact lP ws h l
 | .ev ws,h,l=>by rw [alR] at h;rw [ltR] at l;rw [ofR,vaT];exact lP ws h l
theorem lP {A:Nat}:∀ rs:List Rw,alS (FA A) rs->ltS rs->fF (ofS rs)
 | [],_,_=>by rw [ofS,fF];trivial
 | r :: rs,h,l=>by rw [alS] at h;rw [ltS] at l;rw [ofS,fF];exact ⟨aHz r h.1 l.1,lP rs h.2 l.2⟩
end
theorem aAT {r:Th} {ar:List Str} {b:Bool} (l:ar.length < 4) (he:evI ar = b) (h:isE r = true->b = false):iP r ar = true:=by
 unfold iP
 rw [show ar.any (· == "ever") = evI ar from rfl,he,decide_eq_true l,Bool.true_and]
 cases hr:isE r with
 | false=>rfl
 | true=>rw [h hr];rfl
theorem aCA {r:Th} {ws:List Th} {a c:Int} {ar:List Str} (k:iP r ar = true) (h:(isE r && !enB (gdS ws)) = false):lkB r ws a ar (.inl c) = .inl (c + 1):=by
 unfold lkB
 rw [k,if_pos rfl]
 dsimp only
 rw [h];rfl
mutual
theorem aLZ:∀ (r:Rw) (d:Nat) (b:Bool) (a:Int) (ar:List Str),vER b r->Dp d r->evI ar = b->ar.length + d<=4->∃ c,lkR (ofR r) a ar = .inl c
 | .pl p,_,_,a,_,_,_,_,_=>⟨a + 1,by rw [ofR,lkR]⟩
 | .ag n ws,d,b,a,ar,v,dp,he,l=>by
  rw [vER] at v
  cases d with
  | zero=>exact dp.elim
  | succ d =>
   obtain ⟨c,hc⟩:=aBT ws d b (a + 1) (ar ++ [("again":Str)]) v.2 dp.2.2 (by rw [jS,he];cases b<;>rfl) (by rw [List.length_append];show ar.length + 1 + d<=4;omega)
   exact ⟨c + 1,by rw [ofR,lkR,hc];exact aCA (aAT (by omega) he fun z=>by cases z) rfl⟩
 | .kp ws,d,b,a,ar,v,dp,he,l=>by
  rw [vER] at v
  cases d with
  | zero=>exact dp.elim
  | succ d =>
   obtain ⟨c,hc⟩:=aBT ws d b (a + 1) (ar ++ [("keep":Str)]) v dp.2 (by rw [jS,he];cases b<;>rfl) (by rw [List.length_append];show ar.length + 1 + d<=4;omega)
   exact ⟨c + 1,by rw [ofR,lkR,hc];exact aCA (aAT (by omega) he fun z=>by cases z) rfl⟩
 | .ev ws,d,b,a,ar,v,dp,he,l=>by
  rw [vER] at v
  obtain ⟨rfl,en,v⟩:=v
  cases d with
  | zero=>exact dp.elim
  | succ d =>
   obtain ⟨c,hc⟩:=aBT ws d true (a + 1) (ar ++ [("ever":Str)]) v dp.2 (by rw [jS];exact Bool.or_true _) (by rw [List.length_append];show ar.length + 1 + d<=4;omega)
   exact ⟨c + 1,by rw [ofR,lkR,hc];exact aCA (aAT (by omega) he fun _=>rfl) (by rw [dA,en];rfl)⟩
theorem aBT:∀ (rs:List Rw) (d:Nat) (b:Bool) (a:Int) (ar:List Str),vES b rs->(∀ r ∈ rs,Dp d r)->evI ar = b->ar.length + d<=4->∃ c,lkS (ofS rs) a ar = .inl c
 | [],_,_,a,_,_,_,_,_=>⟨a,by rw [ofS,lkS]⟩
 | r :: rs,d,b,a,ar,v,dp,he,l=>by
  rw [vES] at v
  obtain ⟨c1,h1⟩:=aLZ r d b a ar v.1 (dp r (List.mem_cons_self ..)) he l
  obtain ⟨c2,h2⟩:=aBT rs d b c1 ar v.2 (fun x hx=>dp x (List.mem_cons_of_mem _ hx)) he l
  exact ⟨c2,by rw [ofS,lkS,h1];exact h2⟩
end
inductive Bt:Rw->Th->Prop
 | bad {r d} (h:aDW d) (p:aW 30 d = true):Bt r (.bad d)
 | ag {r n} (h:n = 12 ∨ n = 0):Bt r (.ag n [ofR r])
 | kp {r}:Bt r (.kp [ofR r])
 | ev {r}:Bt r (.ev [ofR r])
 | e0 {r}:Bt r (.ev [])
 | el {r}:Bt r (.ev [.pl .left])
 | a2 {r}:Bt r (.ag 2 [])
 | gag {n ws x} (h:gwB x = true):Bt (.ag n ws) (.ag n (ofS (ws ++ [.pl (.grow x)])))
 | gkp {ws x} (h:gwB x = true):Bt (.kp ws) (.kp (ofS (ws ++ [.pl (.grow x)])))
 | gev {ws x} (h:gwB x = true):Bt (.ev ws) (.ev (ofS (ws ++ [.pl (.grow x)])))
inductive lZ:List Rw->List Th->Prop
 | non {rs}:lZ rs (ofS rs)
 | here {xs r ys t} (h:Bt r t):lZ (xs ++ r :: ys) (ofS xs ++ t :: ofS ys)
 | dag {xs n ws ys ts} (h:lZ ws ts):lZ (xs ++ .ag n ws :: ys) (ofS xs ++ .ag n ts :: ofS ys)
 | dkp {xs ws ys ts} (h:lZ ws ts):lZ (xs ++ .kp ws :: ys) (ofS xs ++ .kp ts :: ofS ys)
 | dev {xs ws ys ts} (h:lZ ws ts):lZ (xs ++ .ev ws :: ys) (ofS xs ++ .ev ts :: ofS ys)
theorem tM:∀ {rs:List Rw} {r:Rw},r ∈ rs->dnR r<=dnS rs
 | x :: xs,r,m=>by
  rw [dnS]
  rcases List.mem_cons.mp m with rfl | z
  ·omega
  ·have:=tM z;omega
mutual
theorem aKP:∀ r:Rw,gwR 690 r->wR r
 | .pl p,h=>by
  cases p with
  | grow a=>rw [gwR] at h;rw [wR];exact h
  | _ =>
      rw [wR];· trivial
      all_goals (intro _ z;cases z)
 | .ag n ws,h=>by
  rw [gwR] at h
  rw [wR]
  exact ⟨wZ ws h.2,by omega,fun r hr=>.inl (by have:=tM hr;omega),.inr (by omega)⟩
 | .kp ws,h=>by rw [wR];trivial
 | .ev ws,h=>by rw [wR];trivial
theorem wZ:∀ rs:List Rw,gwS 690 rs->wS rs
 | [],_=>by rw [wS];trivial
 | r :: rs,h=>by rw [gwS] at h;rw [wS];exact ⟨aKP r h.1,wZ rs h.2⟩
end
theorem zY {rs:List Rw} (h:gwS 690 rs) (l:dnS rs<=704):loS rs:=⟨wZ rs h,by omega,fun r hr=>.inl (by have:=tM hr;omega)⟩
mutual
theorem aHG:∀ r:Rw,gwR 690 r->boR (ofR r)
 | .pl p,_=>by rw [ofR,boR];trivial
 | .ag n ws,h=>by rw [gwR] at h;rw [ofR,boR];exact lH ws h.2
 | .kp ws,h=>by rw [gwR] at h;rw [ofR,boR];exact lH ws h.2
 | .ev ws,h=>by rw [gwR] at h;rw [ofR,boR];exact ⟨lH ws h.2,fun _ _ _ _ _ _=>by rw [dA];exact zY h.2 (by omega)⟩
theorem lH:∀ rs:List Rw,gwS 690 rs->boS (ofS rs)
 | [],_=>by rw [ofS,boS];trivial
 | r :: rs,h=>by rw [gwS] at h;rw [ofS,boS];exact ⟨aHG r h.1,lH rs h.2⟩
end
theorem iL:∀ rs:List Rw,rs.length<=hmS rs
 | []=>Nat.zero_le _
 | r :: rs=>by
  rw [hmS,List.length_cons]
  have:=iL rs
  have:1<=hmR r:=by cases r<;>rw [hmR]<;>omega
  omega
structure In (d:Nat) (b:Bool) (rs:List Rw):Prop where
 gw:gwS 690 rs
 dn:dnS rs<=690
 dp:∀ r ∈ rs,Dp d r
 ve:vES b rs
 va:∃ A,alS (FA A) rs
 lt:ltS rs
 hm:hmS rs<=100
structure Out (d:Nat) (rs:List Rw) (ts:List Th):Prop where
 len:ts.length<=500
 dp:∀ t ∈ ts,Dp (d + 1) (gdR t)
 va:fF ts
 hm:hmS (gdS ts)<=hmS rs + 1
 dn:dnS (gdS ts)<=12 * dnS rs + 12 ^ d
 lo:d<=3->loS (gdS ts)
 bo:boS ts
structure aLB (d:Nat) (r:Rw) (t:Th):Prop where
 dp:Dp (d + 1) (gdR t)
 va:vaT t
 hm:hmR (gdR t)<=hmR r + 1
 dn:dnR (gdR t)<=12 * dnR r + 12 ^ d
 w:d<=3->wR (gdR t)
 bo:boR t
theorem wT:∀ {xs ys:List Th},fF (xs ++ ys) ↔ fF xs/\fF ys
 | [],ys=>by rw [List.nil_append,fF,true_and]
 | x :: xs,ys=>by rw [List.cons_append,fF,fF,wT,and_assoc]
theorem aC9:∀ {xs ys:List Th},boS (xs ++ ys) ↔ boS xs/\boS ys
 | [],ys=>by rw [List.nil_append,boS,true_and]
 | x :: xs,ys=>by rw [List.cons_append,boS,boS,aC9,and_assoc]
theorem aF9 (xs ys:List Th):gdS (xs ++ ys) = gdS xs ++ gdS ys:=by rw [fZ,fZ,fZ,List.map_append]
theorem oB {d:Nat} {b:Bool} {xs ys:List Rw} {r:Rw} (h:In d b (xs ++ r :: ys)):In d b xs/\In d b ys/\(gwR 690 r/\dnR r<=690/\Dp d r/\vER b r/\(∃ A,alR (FA A) r)/\ltR r/\hmR r<=100)/\dnS xs + dnR r + dnS ys<=690:=by
 obtain ⟨gw,dn,dp,ve,⟨A,va⟩,lt,hm⟩:=h
 have g:=iK.mp gw
 have v:=mP.mp ve
 have a:=nJ.mp va
 have l:=mV.mp lt
 rw [eE,dnS] at dn
 rw [eS,hmS] at hm
 rw [gwS] at g
 rw [vES] at v
 rw [alS] at a
 rw [ltS] at l
 exact ⟨⟨g.1,by omega,fun x hx=>dp x (List.mem_append_left _ hx),v.1,⟨A,a.1⟩,l.1,by omega⟩,⟨g.2.2,by omega,fun x hx=>dp x (List.mem_append_right _ (List.mem_cons_of_mem _ hx)),v.2.2,⟨A,a.2.2⟩,l.2.2,by omega⟩,⟨g.2.1,by omega,dp r (List.mem_append_right _ (List.mem_cons_self ..)),v.2.1,⟨A,a.2.1⟩,l.2.1,by omega⟩,by omega⟩
theorem aAX {d:Nat} {b:Bool} {xs ys:List Rw} {r:Rw} {t:Th} (h:In d b (xs ++ r :: ys)) (o:aLB d r t):Out d (xs ++ r :: ys) (ofS xs ++ t :: ofS ys):=by
 obtain ⟨ix,iy,⟨_,dr,_,_,_,_,_⟩,ds⟩:=oB h
 obtain ⟨A,ax⟩:=ix.va
 obtain ⟨B,ay⟩:=iy.va
 have e:gdS (ofS xs ++ t :: ofS ys) = xs ++ gdR t :: ys:=by rw [aF9,gdS,dA,dA]
 have lx:=iL xs
 have ly:=iL ys
 have hx:=ix.hm
 have hy:=iy.hm
 refine ⟨?_,fun x hx=>?_,wT.mpr ⟨lP xs ax ix.lt,by rw [fF];exact ⟨o.va,lP ys ay iy.lt⟩⟩,?_,?_,fun l3=>?_,aC9.mpr ⟨lH xs ix.gw,by rw [boS];exact ⟨o.bo,lH ys iy.gw⟩⟩⟩
 ·rw [List.length_append,List.length_cons,gH,gH,List.length_map,List.length_map];omega
 ·rcases List.mem_append.mp hx with z | z
  ·rw [gH] at z
   obtain ⟨y,hy,rfl⟩:=List.mem_map.mp z
   rw [zT];exact Dp.up (ix.dp y hy)
  ·rcases List.mem_cons.mp z with rfl | z
   ·exact o.dp
   ·rw [gH] at z
    obtain ⟨y,hy,rfl⟩:=List.mem_map.mp z
    rw [zT];exact Dp.up (iy.dp y hy)
 ·rw [e,eS,hmS,eS,hmS];have:=o.hm;omega
 ·rw [e,eE,dnS,eE,dnS];have:=o.dn;omega
 ·rw [e]
  have od:=o.dn
  have p3:12 ^ d<=12 ^ 3:=Nat.pow_le_pow_right (by decide) l3
  have p3:12 ^ d<=1728:=p3
  have tot:dnS (xs ++ gdR t :: ys) = dnS xs + dnR (gdR t) + dnS ys:=by rw [eE,dnS];omega
  refine ⟨aA7.mpr ⟨wZ xs ix.gw,by rw [wS];exact ⟨o.w l3,wZ ys iy.gw⟩⟩,by omega,fun x hx=>?_⟩
  rcases List.mem_append.mp hx with z | z
  ·exact .inl (by have:=tM z;omega)
  ·rcases List.mem_cons.mp z with rfl | z
   ·exact .inr (by omega)
   ·exact .inl (by have:=tM z;omega)
theorem aHq (x:Rat):x * (x.den:Rat) = (x.num:Rat):=by
 have h:=Rat.num_divInt_den x
 rw [Rat.divInt_eq_div] at h
 have d0:((x.den:Int):Rat) ≠ 0:=fun z=>by
  have:=Rat.intCast_eq_zero_iff.mp z
  have:=x.den_pos
  omega
 have:=Rat.div_mul_cancel (a:=(x.num:Rat)) d0
 rw [h] at this
 rw [<- Rat.intCast_natCast];exact this
theorem aEJ {x:Rat} (h:gwB x = true):plV (.grow x)/\Sz 1 x:=by
 have h':=h
 unfold gwB at h'
 rw [Bool.and_eq_true] at h'
 obtain ⟨h1,h2⟩:=h'
 have h1:=of_decide_eq_true h1
 have h2:=of_decide_eq_true h2
 have hd:=x.den_pos
 have x0:0 < x:=aC8.mp (by omega)
 refine ⟨⟨⟨⟨?_,?_⟩,x0⟩,fun a e=>by cases e;exact h⟩,x.num.toNat,x.den,⟨by omega,by omega⟩,⟨hd,by omega⟩,?_⟩
 ·exact Bd.mono (m:=4) (by show x.num.natAbs < 2 ^ 4;omega) (by decide)
 ·exact Bd.mono (m:=4) (by show (x.den:Int).natAbs < 2 ^ 4;omega) (by decide)
 ·rw [aHq,<- Rat.intCast_natCast,Int.toNat_of_nonneg (by omega)]
theorem aAw {ws:List Rw} {x:Rat} (h:gwS 690 ws) (g:gwB x = true):gwS 690 (ws ++ [.pl (.grow x)]):=iK.mpr ⟨h,by rw [gwS,gwS,gwR];exact ⟨(aEJ g).2,trivial⟩⟩
theorem aAU {ws:List Rw} {x:Rat} (h:fF (ofS ws)) (g:gwB x = true):fF (ofS (ws ++ [.pl (.grow x)])):=by
 rw [gH,List.map_append,<- gH]
 refine wT.mpr ⟨h,?_⟩
 show fF [ofR (.pl (.grow x))]
 rw [fF,fF,ofR,vaT]
 exact ⟨(aEJ g).1,trivial⟩
theorem pV {ws:List Rw} {x:Rat}:dnS (ws ++ [.pl (.grow x)]) = dnS ws + 1:=by rw [eE,dnS,dnS,dnR]
theorem aBd {ws:List Rw} {x:Rat}:hmS (ws ++ [.pl (.grow x)]) = hmS ws + 1:=by rw [eS,hmS,hmS,hmR]
theorem aAB {d:Nat} {ws:List Rw} {x:Rat} (h:∀ r ∈ ws,Dp d r):∀ r ∈ ws ++ [.pl (.grow x)],Dp (d + 1) r:=fun r hr=>by
 rcases List.mem_append.mp hr with z | z
 ·exact Dp.up (h r z)
 ·rw [List.mem_singleton.mp z];trivial
theorem aJx (d:Nat):1<=12 ^ d:=Nat.pow_pos (by decide)
theorem aJA {d:Nat} {b:Bool} {r:Rw} {t:Th} (h:Bt r t) (gw:gwR 690 r) (dn:dnR r<=690) (dp:Dp d r) (va:∃ A,alR (FA A) r) (lt:ltR r) (hm:hmR r<=100):aLB d r t:=by
 obtain ⟨A,va⟩:=va
 have p1:=aJx d
 have vt:=aHz r va lt
 have br:=aHG r gw
 have g1:gwS 690 [r]:=by rw [gwS,gwS];exact ⟨gw,trivial⟩
 have d1:dnS [r] = dnR r:=by rw [dnS,dnS,Nat.add_zero]
 have h1:hmS [r] = hmR r:=by rw [hmS,hmS,Nat.add_zero]
 have e1:gdS [ofR r] = [r]:=by rw [gdS,gdS,zT]
 have b1:boS [ofR r]:=by rw [boS,boS];exact ⟨br,trivial⟩
 have v1:fF [ofR r]:=by rw [fF,fF];exact ⟨vt,trivial⟩
 have dd:∀ x ∈ [r],Dp d x:=fun x hx=>by rw [List.mem_singleton.mp hx];exact dp
 cases h with
 | bad hb p=>exact ⟨trivial,by rw [vaT];exact ⟨hb,p⟩,by rw [gdR,hmR];omega,by rw [gdR,dnR];omega,(fun _=>by
   rw [gdR,wR]
   ·trivial
   ·intro _ z;cases z),by rw [boR];trivial⟩
 | @ag _ n hn =>
  refine ⟨?_,by rw [vaT];exact ⟨by omega,v1⟩,by rw [gdR,hmR,e1,h1];omega,?_,fun _=>?_,by rw [boR];exact b1⟩
  ·rw [gdR,e1];exact ⟨by omega,by show 1<=1000;decide,dd⟩
  ·rw [gdR,dnR,e1,d1]
   rcases hn with rfl | rfl<;>omega
  ·rw [gdR,wR,e1];exact ⟨wZ _ g1,by omega,fun x hx=>.inl (by rw [List.mem_singleton.mp hx];omega),.inr (by omega)⟩
 | kp =>
  refine ⟨?_,by rw [vaT];exact v1,by rw [gdR,hmR,e1,h1];omega,by rw [gdR,dnR,e1,d1];omega,fun _=>by rw [gdR,wR];trivial,by rw [boR];exact b1⟩
  rw [gdR,e1];exact ⟨by show 1<=1000;decide,dd⟩
 | ev =>
  refine ⟨?_,by rw [vaT];exact v1,by rw [gdR,hmR,e1,h1];omega,by rw [gdR,dnR,e1,d1];omega,fun _=>by rw [gdR,wR];trivial,by rw [boR];exact ⟨b1,fun _ _ _ _ _ _=>by rw [e1];exact zY g1 (by omega)⟩⟩
  rw [gdR,e1];exact ⟨by show 1<=1000;decide,dd⟩
 | e0 =>
  refine ⟨?_,by rw [vaT,fF];trivial,by rw [gdR,gdS,hmR,hmS];omega,by rw [gdR,gdS,dnR,dnS];omega,fun _=>by rw [gdR,wR];trivial,by rw [boR,boS,gdS];exact ⟨trivial,fun _ _ _ _ _ _=>zY (by rw [gwS];trivial) (by rw [dnS];decide)⟩⟩
  rw [gdR,gdS];exact ⟨by show 0<=1000;decide,fun x hx=>nomatch hx⟩
 | el =>
  have gl:gdS [Th.pl .left] = [.pl .left]:=by rw [gdS,gdS,gdR]
  refine ⟨?_,by rw [vaT,fF,fF,vaT];exact ⟨⟨trivial,fun _ e=>by cases e⟩,trivial⟩,(by
   have:1<=hmR r:=by cases r<;>rw [hmR]<;>omega
   rw [gdR,gl,hmR,hmS,hmS,hmR]
   omega),by rw [gdR,gl,dnR,dnS,dnS,dnR];omega,fun _=>by rw [gdR,wR];trivial,?_⟩
  ·rw [gdR,gl];exact ⟨by show 1<=1000;decide,fun x hx=>by rw [List.mem_singleton.mp hx];unfold Dp;trivial⟩
  ·rw [boR,boS,boS,boR,gl]
   refine ⟨⟨trivial,trivial⟩,fun _ _ _ _ _ _=>zY ?_ (by rw [dnS,dnS,dnR];decide)⟩
   rw [gwS,gwS,gwR];· exact ⟨trivial,trivial⟩
   intro _ z;cases z
 | a2 =>
  refine ⟨?_,by rw [vaT,fF];exact ⟨by decide,trivial⟩,by rw [gdR,gdS,hmR,hmS];omega,by rw [gdR,gdS,dnR,dnS];omega,fun _=>?_,by rw [boR,boS];trivial⟩
  ·rw [gdR,gdS];exact ⟨by decide,by show 0<=1000;decide,fun x hx=>nomatch hx⟩
  ·rw [gdR,gdS,wR,wS,dnS];exact ⟨trivial,by decide,(fun x hx=>nomatch hx),.inr (by decide)⟩
 | @gag n ws x g =>
  cases d with
  | zero=>exact dp.elim
  | succ d =>
   rw [gwR] at gw
   rw [ltR] at lt
   rw [alR] at va
   rw [hmR] at hm
   have gs:=aAw gw.2 g
   have ll:=iL ws
   refine ⟨?_,by rw [vaT];exact ⟨lt.1,aAU (lP ws va lt.2) g⟩,by rw [gdR,dA,hmR,hmR,aBd];omega,?_,fun _=>?_,by rw [boR];exact lH _ gs⟩
   ·rw [gdR,dA]
    exact ⟨by have:=lt.1;omega,by rw [List.length_append];show ws.length + 1<=1000;omega,aAB dp.2.2⟩
   ·rw [gdR,dA,dnR,dnR,pV,Nat.add_mul,Nat.one_mul,Nat.pow_succ]
    have:=aJx d
    have:=lt.1
    omega
   ·rw [gdR,dA,wR,pV]
    exact ⟨wZ _ gs,by omega,fun y hy=>.inl (by have:=tM hy;rw [pV] at this;omega),.inr (by omega)⟩
 | @gkp ws x g =>
  cases d with
  | zero=>exact dp.elim
  | succ d =>
   rw [gwR] at gw
   rw [ltR] at lt
   rw [alR] at va
   rw [hmR] at hm
   have gs:=aAw gw.2 g
   have ll:=iL ws
   refine ⟨?_,by rw [vaT];exact aAU (lP ws va lt) g,by rw [gdR,dA,hmR,hmR,aBd];omega,by rw [gdR,dA,dnR,dnR,pV];omega,fun _=>by rw [gdR,wR];trivial,by rw [boR];exact lH _ gs⟩
   rw [gdR,dA]
   exact ⟨by rw [List.length_append];show ws.length + 1<=1000;omega,aAB dp.2⟩
 | @gev ws x g =>
  cases d with
  | zero=>exact dp.elim
  | succ d =>
   rw [gwR] at gw
   rw [ltR] at lt
   rw [alR] at va
   rw [hmR] at hm
   have gs:=aAw gw.2 g
   have ll:=iL ws
   refine ⟨?_,by rw [vaT];exact aAU (lP ws va lt) g,by rw [gdR,dA,hmR,hmR,aBd];omega,by rw [gdR,dA,dnR,dnR,pV];omega,fun _=>by rw [gdR,wR];trivial,by rw [boR];exact ⟨lH _ gs,fun _ _ _ _ _ _=>by rw [dA];exact zY gs (by rw [pV];omega)⟩⟩
   rw [gdR,dA]
   exact ⟨by rw [List.length_append];show ws.length + 1<=1000;omega,aAB dp.2⟩
theorem aCQ {rs:List Rw} {ts:List Th} (h:lZ rs ts):∀ {d:Nat} {b:Bool},d<=4->In d b rs->Out d rs ts:=by
 induction h with
 | @non rs =>
  intro d b l i
  obtain ⟨A,va⟩:=i.va
  have:=iL rs
  have:=i.hm
  have:=aJx d
  refine ⟨by rw [gH,List.length_map];omega,fun t ht=>?_,lP rs va i.lt,by rw [dA];omega,by rw [dA];omega,fun _=>by rw [dA];exact zY i.gw (by have:=i.dn;omega),lH rs i.gw⟩
  rw [gH] at ht
  obtain ⟨y,hy,rfl⟩:=List.mem_map.mp ht
  rw [zT];exact Dp.up (i.dp y hy)
 | here hb =>
  intro d b l i
  obtain ⟨_,_,⟨g,dn,dp,_,va,lt,hm⟩,_⟩:=oB i
  exact aAX i (aJA (b:=b) hb g dn dp va lt hm)
 | @dag xs n ws ys ts _ ih =>
  intro d b l i
  obtain ⟨_,_,⟨g,dn,dp,ve,⟨A,va⟩,lt,hm⟩,_⟩:=oB i
  cases d with
  | zero=>exact dp.elim
  | succ d =>
   rw [gwR] at g
   rw [vER] at ve
   rw [alR] at va
   rw [ltR] at lt
   rw [hmR] at hm
   have o:=ih (d:=d) (b:=b) (by omega) ⟨g.2,g.1,dp.2.2,ve.2,⟨A,va⟩,lt.2,by omega⟩
   refine aAX i ⟨?_,by rw [vaT];exact ⟨lt.1,o.va⟩,by rw [gdR,hmR,hmR];have:=o.hm;omega,?_,fun l3=>?_,by rw [boR];exact o.bo⟩
   ·rw [gdR]
    refine ⟨by have:=lt.1;omega,by rw [fZ,List.length_map];have:=o.len;omega,fun r hr=>?_⟩
    rw [fZ] at hr
    obtain ⟨t,ht,rfl⟩:=List.mem_map.mp hr
    exact o.dp t ht
   ·rw [gdR,dnR,dnR,Nat.pow_succ]
    have h1:=Nat.mul_le_mul_right n o.dn
    have h2:12 ^ d * n<=12 ^ d * 12:=Nat.mul_le_mul_left _ lt.1
    rw [Nat.add_mul,Nat.mul_assoc] at h1
    omega
   ·have lo:=o.lo (by omega)
    rw [gdR,wR]
    refine ⟨lo.1,lo.2.1,lo.2.2,?_⟩
    rcases ve.1 with z | z
    ·exact .inl z
    ·by_cases c:n<=1
     ·exact .inl c
     ·right
      have h1:2 * dnS ws<=n * dnS ws:=Nat.mul_le_mul_right _ (by omega)
      have h2:12 ^ d<=12 ^ 2:=Nat.pow_le_pow_right (by decide) (by omega)
      have h2:12 ^ d<=144:=h2
      have:=o.dn
      omega
 | @dkp xs ws ys ts _ ih =>
  intro d b l i
  obtain ⟨_,_,⟨g,dn,dp,ve,⟨A,va⟩,lt,hm⟩,_⟩:=oB i
  cases d with
  | zero=>exact dp.elim
  | succ d =>
   rw [gwR] at g
   rw [vER] at ve
   rw [alR] at va
   rw [ltR] at lt
   rw [hmR] at hm
   have o:=ih (d:=d) (b:=b) (by omega) ⟨g.2,g.1,dp.2,ve,⟨A,va⟩,lt,by omega⟩
   refine aAX i ⟨?_,by rw [vaT];exact o.va,by rw [gdR,hmR,hmR];have:=o.hm;omega,by rw [gdR,dnR,dnR,Nat.pow_succ];have:=o.dn;omega,fun l3=>by rw [gdR,wR];trivial,by rw [boR];exact o.bo⟩
   rw [gdR]
   refine ⟨by rw [fZ,List.length_map];have:=o.len;omega,fun r hr=>?_⟩
   rw [fZ] at hr
   obtain ⟨t,ht,rfl⟩:=List.mem_map.mp hr
   exact o.dp t ht
 | @dev xs ws ys ts _ ih =>
  intro d b l i
  obtain ⟨_,_,⟨g,dn,dp,ve,⟨A,va⟩,lt,hm⟩,_⟩:=oB i
  cases d with
  | zero=>exact dp.elim
  | succ d =>
   rw [gwR] at g
   rw [vER] at ve
   rw [alR] at va
   rw [ltR] at lt
   rw [hmR] at hm
   have o:=ih (d:=d) (b:=true) (by omega) ⟨g.2,g.1.2,dp.2,ve.2.2,⟨A,va⟩,lt,by omega⟩
   refine aAX i ⟨?_,by rw [vaT];exact o.va,by rw [gdR,hmR,hmR];have:=o.hm;omega,by rw [gdR,dnR,dnR,Nat.pow_succ];have:=o.dn;omega,fun l3=>by rw [gdR,wR];trivial,by rw [boR];exact ⟨o.bo,fun _ _ _ _ _ _=>o.lo (by omega)⟩⟩
   rw [gdR]
   refine ⟨by rw [fZ,List.length_map];have:=o.len;omega,fun r hr=>?_⟩
   rw [fZ] at hr
   obtain ⟨t,ht,rfl⟩:=List.mem_map.mp hr
   exact o.dp t ht
theorem aD0 {r:Rw} (h:Dp 4 r):aW 20 (rwD r) = true:=sA 4 r 9 h
noncomputable def vH:DSp:=fun ds M Q=>∃ (r:Rw) (a:Addr) (L:List D),ds = [rwD r,.ref a]/\M a = some L/\kR 6 L/\(Dp 4 r/\hmR r<=100)/\∀ t M',Bt r t->bC M M'->Q (thD t) M'
noncomputable abbrev rM:Stmt:=top 83
theorem gR:aR ["_law_row_here","_law_numbers","_law_way","_law_many","_law_some"] ["_law_row_here","_law_numbers"] (aI rM):=⟨rfl,rfl,rfl,by decide +kernel,rfl,by decide +kernel,by decide +kernel⟩
theorem aBh (hF:bV K mg "_law_bent" rM ["_law_row_here","_law_numbers"]) (bG:Has P w K mg base 101 "_law_ratio" ["_law_top","_law_bottom"] fC):Has P w K mg base 102 "_law_bent" ["_law_row_here","_law_numbers"] vH:=by
 refine Has.mkZ hF gR (fun ds M Q ⟨_,_,_,z,_⟩=>by rw [z];rfl) fun f cdv A outer s H ds M Q E hr h=>?_
 obtain ⟨r,a,L,rfl,ha,hL,⟨dp,hm⟩,q⟩:=h
 refine ⟨_,(aF (aP (i:=2) gR.nd (aJ cW (aH (aB 1) aC) aC))
  (aF (aP (i:=3) gR.nd (aH (bN (aA aC (aA (cU aC) (aA fU (aA aM (aA (aN (aA aC (aA aC aD))) (aA (aJ tO aC aC) (aA aC (aA aC aD))))))))) (aJ cW (aH (aB 1) aC) aC)))
  (aF (aP (i:=4) gR.nd (bN (aA (aN (aA aM aD)) (aA aC (aA (aN (aA aM (aA (aB 3) (aA (aN (aA (aB 0) aD)) aD)))) (aA (aN (aA aM (aA (aN (aA (aB 0) aD)) aD))) (aA (aN (aA aM (aA (aN (aA (aB 0) aD)) aD))) (aA (aN (aA aM (aA (aN aD) aD))) aD))))))))
  (aF (aP (i:=4) gR.nd (aJ cF (aB 4) (bN (aA (aN (aA aM (aA (aN (aA (aN (aA aM aD)) aD)) aD))) (aA (aN (aA aM (aA (aN (aA (aB 0) aD)) aD))) (aA (aN (aA aM aD)) (aA (aN (aA aM (aA (aN (aA (aB 0) aD)) (aA aC aD)))) (aA (aN (aA aM (aA aM aD))) aD))))))))
  (kK (aP (i:=4) gR.nd (aJ cF (aB 4) (bN (aA (aN (aA aM (aA aC (aA (aN aD) aD)))) aD))))
  (aF (aV (fP (eX (aQ gE (aB 2) aC) (eJ (aQ sT (aH (aB 0) aC) (bN (aA aM (aA aM (aA aM aD)))) rfl)))) (aE (aO (aJ mO (wJ (aB 0) nZ (iH (cU aC))) (aN (aA (aJ mO (aH (aB 0) (cU aC)) (aN (aA (aN (aA aM (aA (aG bG hr (by decide) (aA (aJ cF aC (aJ cW (aH (aB 1) aC) aC)) (aA (aJ cF aC (aJ cW (aH (aB 1) aC) aC)) aD))) aD))) aD))) aD))))) aS)
  (aE (aO (aH (aB 4) (aB 2)))))))))),?_⟩
 decreasing_tactic
 obtain ⟨z0,e0,_⟩:=hL.at (i:=0) (by decide)
 obtain ⟨z1,e1,_⟩:=hL.at (i:=1) (by decide)
 obtain ⟨z2,e2,_⟩:=hL.at (i:=2) (by decide)
 obtain ⟨z3,e3,_⟩:=hL.at (i:=3) (by decide)
 refine ⟨L,_,ha,e0,by decide,by decide,⟨by decide,by decide,by decide⟩,by decide,fun p hp=>?_⟩
 have t1:=Int.fmod_nonneg_of_pos z1 (show (0:Int) < 8 by decide)
 have t2:=Int.fmod_lt_of_pos z1 (show (0:Int) < 8 by decide)
 obtain ⟨m,em,hm'⟩:∃ m,atI [D.int 13,.int (-1),.bl true,.str "2",.tup [.int 1,.int 1],.int (10 ^ Int.toNat 50),.int 12,.int 0] (z1.fmod 8) = some m/\(aJa m ∨ ∃ n:Nat,m = .int (n:Int)/\(n = 12 ∨ n = 0)):=by
  have:(z1.fmod 8 = 0 ∨ z1.fmod 8 = 1 ∨ z1.fmod 8 = 2 ∨ z1.fmod 8 = 3) ∨ z1.fmod 8 = 4 ∨ z1.fmod 8 = 5 ∨ z1.fmod 8 = 6 ∨ z1.fmod 8 = 7:=by omega
  rcases this with (e | e | e | e) | e | e | e | e<;>rw [e]
  ·exact ⟨_,rfl,.inl (.inl (.inl rfl))⟩
  ·exact ⟨_,rfl,.inl (.inl (.inr (.inl rfl)))⟩
  ·exact ⟨_,rfl,.inl (.inl (.inr (.inr rfl)))⟩
  ·exact ⟨_,rfl,.inl (.inr (.inl rfl))⟩
  ·exact ⟨_,rfl,.inl (.inr (.inr (.inl rfl)))⟩
  ·exact ⟨_,rfl,.inl (.inr (.inr (.inr rfl)))⟩
  ·exact ⟨_,rfl,.inr ⟨12,rfl,.inl rfl⟩⟩
  ·exact ⟨_,rfl,.inr ⟨0,rfl,.inr rfl⟩⟩
 have s1:=bC.new hp [D.int 13,.int (-1),.bl true,.str "2",.tup [.int 1,.int 1],.int (10 ^ Int.toNat 50),.int 12,.int 0]
 refine ⟨L,_,s1 _ _ ha,e1,by decide,_,_,aK,em,?_⟩
 generalize bJ M p _ = M1 at s1 ⊢
 refine ⟨by decide,by decide,by decide,by decide,by decide,by decide,by decide,by decide,by decide,by decide,fun p1 hp1=>?_⟩
 have s2:=s1.trans (bC.new hp1 [D.tup [.str "none"],.int 5,.tup [.str "again",m,.tup [rwD r]],.tup [.str "keep",.tup [rwD r]],.tup [.str "ever",.tup [rwD r]],.tup [.str "ever",.tup []]])
 have h1:bJ M1 p1 [D.tup [.str "none"],.int 5,.tup [.str "again",m,.tup [rwD r]],.tup [.str "keep",.tup [rwD r]],.tup [.str "ever",.tup [rwD r]],.tup [.str "ever",.tup []]] p1 = some [D.tup [.str "none"],.int 5,.tup [.str "again",m,.tup [rwD r]],.tup [.str "keep",.tup [rwD r]],.tup [.str "ever",.tup [rwD r]],.tup [.str "ever",.tup []]]:=aK
 generalize bJ M1 p1 _ = M2 at s2 h1 ⊢
 refine ⟨by decide,by decide,by decide,by decide,by decide,by decide,by decide,by decide,by decide,by decide,fun p2 hp2=>?_⟩
 have s3:=fun L'=>s2.trans (bC.new hp2 L')
 refine ⟨_,_,(bC.new hp2 _) _ _ h1,aK,Nat.le_of_ble_eq_true rfl,fun p3 hp3=>?_⟩
 have s4:=fun L'=>(s3 _).trans (bC.new hp3 L')
 refine ⟨fun ρ M'=>bC M M'/\∃ (c:Addr) (o3:Option D),M' c = some [D.tup [.str "none"],.int 5,.tup [.str "again",m,.tup [rwD r]],.tup [.str "keep",.tup [rwD r]],.tup [.str "ever",.tup [rwD r]],.tup [.str "ever",.tup []],.tup [.str "ever",.tup [.tup [.str "left"]]],.tup [.str "again",.tup [rwD r]],.tup [.str "keep"],.tup [.str "keep",.tup [rwD r],.int 1],.tup [.str "keep",.str "rows"],.tup [.str "again",.int 2,.tup []]]/\ρ = [some (rwD r),some (.ref a),some (.int (z0.fmod 12)),o3,some (.ref c)],?_,?_⟩
 ·refine ⟨by decide,by decide,by decide,fun p4 hp4=>⟨_,_,(bC.new hp4 _) _ _ aK,aK,Nat.le_of_ble_eq_true rfl,fun p5 hp5=>⟨((s4 _).trans (bC.new hp4 _)).trans (bC.new hp5 _),p5,_,aK,rfl⟩⟩⟩
 clear hp hp1 hp2 hp3 s1 s2 s3 s4 h1 em
 rintro ρ M3 ⟨sb,c,o3,hc,rfl⟩
 decreasing_tactic
 have u1:=Int.fmod_nonneg_of_pos z0 (show (0:Int) < 12 by decide)
 have u2:=Int.fmod_lt_of_pos z0 (show (0:Int) < 12 by decide)
 have plain:∀ M4,bC M3 M4->∃ ds d,M4 c = some ds/\atI ds (z0.fmod 12) = some d/\Dn Q d M4:=fun M4 s4=>by
  have p20:=aD0 dp
  have sm:=sb.trans s4
  have D1:=aII r
  have p28:=xZ 20 _ 28 (by decide) p20
  have th1:dB [ofR r] = [rwD r]:=by rw [dB,dB,aII]
  obtain ⟨d,ed,t,et,bt⟩:∃ d,atI [D.tup [.str "none"],.int 5,.tup [.str "again",m,.tup [rwD r]],.tup [.str "keep",.tup [rwD r]],.tup [.str "ever",.tup [rwD r]],.tup [.str "ever",.tup []],.tup [.str "ever",.tup [.tup [.str "left"]]],.tup [.str "again",.tup [rwD r]],.tup [.str "keep"],.tup [.str "keep",.tup [rwD r],.int 1],.tup [.str "keep",.str "rows"],.tup [.str "again",.int 2,.tup []]] (z0.fmod 12) = some d/\∃ t,d = thD t/\Bt r t:=by
   have:((z0.fmod 12 = 0 ∨ z0.fmod 12 = 1 ∨ z0.fmod 12 = 2) ∨ z0.fmod 12 = 3 ∨ z0.fmod 12 = 4 ∨ z0.fmod 12 = 5) ∨ (z0.fmod 12 = 6 ∨ z0.fmod 12 = 7 ∨ z0.fmod 12 = 8) ∨ z0.fmod 12 = 9 ∨ z0.fmod 12 = 10 ∨ z0.fmod 12 = 11:=by omega
   rcases this with ((e | e | e) | e | e | e) | (e | e | e) | e | e | e<;>rw [e]
   ·exact ⟨_,rfl,.bad (.tup [.str "none"]),by rw [thD],.bad (.inl (.inl rfl)) rfl⟩
   ·exact ⟨_,rfl,.bad (.int 5),by rw [thD],.bad (.inl (.inr rfl)) rfl⟩
   ·rcases hm' with hb | ⟨n,rfl,hn⟩
    ·refine ⟨_,rfl,.bad (.tup [.str "again",m,.tup [rwD r]]),by rw [thD],.bad (.inr (.inl ⟨m,_,rfl,hb⟩)) ?_⟩
     show (true && (aW 29 m && ((aW 28 (rwD r) && true) && true))) = true
     rw [p28]
     rcases hb with (rfl | rfl | rfl) | rfl | rfl | rfl<;>rfl
    ·exact ⟨_,rfl,.ag n [ofR r],by rw [thD,th1],.ag hn⟩
   ·exact ⟨_,rfl,.kp [ofR r],by rw [thD,th1],.kp⟩
   ·exact ⟨_,rfl,.ev [ofR r],by rw [thD,th1],.ev⟩
   ·exact ⟨_,rfl,.ev [],by rw [thD,dB],.e0⟩
   ·exact ⟨_,rfl,.ev [.pl .left],by rw [thD,dB,dB,thD];rfl,.el⟩
   ·refine ⟨_,rfl,.bad (.tup [.str "again",.tup [rwD r]]),by rw [thD],.bad (.inr (.inr (.inl ⟨_,rfl⟩))) ?_⟩
    show (true && ((aW 28 (rwD r) && true) && true)) = true
    rw [p28];rfl
   ·exact ⟨_,rfl,.bad (.tup [.str "keep"]),by rw [thD],.bad (.inr (.inr (.inr (.inl rfl)))) rfl⟩
   ·refine ⟨_,rfl,.bad (.tup [.str "keep",.tup [rwD r],.int 1]),by rw [thD],.bad (.inr (.inr (.inr (.inr (.inl ⟨_,rfl⟩))))) ?_⟩
    show (true && ((aW 28 (rwD r) && true) && (true && true))) = true
    rw [p28];rfl
   ·exact ⟨_,rfl,.bad (.tup [.str "keep",.str "rows"]),by rw [thD],.bad (.inr (.inr (.inr (.inr (.inr rfl))))) rfl⟩
   ·exact ⟨_,rfl,.ag 2 [],by rw [thD,dB];rfl,.a2⟩
  exact ⟨_,d,s4 _ _ hc,ed,by rw [et];exact aT (q t M4 bt sm)⟩
 have w1:=Int.fmod_nonneg_of_pos z2 (show (0:Int) < 12 by decide)
 have w2:=Int.fmod_lt_of_pos z2 (show (0:Int) < 12 by decide)
 have w3:=Int.fmod_nonneg_of_pos z3 (show (0:Int) < 12 by decide)
 have w4:=Int.fmod_lt_of_pos z3 (show (0:Int) < 12 by decide)
 by_cases c9:9 < z0.fmod 12
 ·refine ifT (decide_eq_true (by omega)) ?_
  cases r with
  | pl x =>
   obtain ⟨w0,cR,e,wb⟩:=wF x
   dsimp only [rwD]
   rw [e]
   decreasing_tactic
   rw [xQ]
   decreasing_tactic
   refine ⟨by decide,fun p6 hp6=>⟨["again","keep","ever"],aK,ifF (xK wb) (plain _ (bC.new hp6 _))⟩⟩
  | ag n ws =>
   rw [hmR] at hm
   have ll:=iL ws
   dsimp only [rwD]
   decreasing_tactic
   refine ⟨by decide,fun p6 hp6=>⟨["again","keep","ever"],aK,ifT (by decide) ?_⟩⟩
   have s6:=sb.trans (bC.new hp6 [D.str "again",.str "keep",.str "ever"])
   generalize bJ M3 p6 _ = M6 at s6 ⊢
   refine ⟨fun z=>absurd z.2 (by show ¬ HT.sIx 3 3 (some (-1)) = 3;decide),?_⟩
   refine ⟨L,_,s6 _ _ ha,e2,by decide,L,_,s6 _ _ ha,e3,by decide,_,_,rfl,by omega,(vI (by omega) (by omega)).mono (by decide),?_⟩
   have og:=aCU (show 1<=1 + z2.fmod 12 by omega) (by omega) (show 1<=1 + z3.fmod 12 by omega) (by omega)
   generalize ((1 + z2.fmod 12:Int):Rat) / ((1 + z3.fmod 12:Int):Rat) = x at og ⊢
   refine ⟨by decide,by decide,by rw [cV];omega,by decide,Nat.le_of_ble_eq_true rfl,aT ?_⟩
   have fin:=q (.ag n (ofS (ws ++ [.pl (.grow x)]))) M6 (.gag og) s6
   rw [thD,wY,dG,List.map_append,<- dG] at fin
   exact fin
  | kp ws =>
   rw [hmR] at hm
   have ll:=iL ws
   dsimp only [rwD]
   decreasing_tactic
   refine ⟨by decide,fun p6 hp6=>⟨["again","keep","ever"],aK,ifT (by decide) ?_⟩⟩
   have s6:=sb.trans (bC.new hp6 [D.str "again",.str "keep",.str "ever"])
   generalize bJ M3 p6 _ = M6 at s6 ⊢
   refine ⟨fun z=>absurd z.2 (by show ¬ HT.sIx 2 2 (some (-1)) = 2;decide),?_⟩
   refine ⟨L,_,s6 _ _ ha,e2,by decide,L,_,s6 _ _ ha,e3,by decide,_,_,rfl,by omega,(vI (by omega) (by omega)).mono (by decide),?_⟩
   have og:=aCU (show 1<=1 + z2.fmod 12 by omega) (by omega) (show 1<=1 + z3.fmod 12 by omega) (by omega)
   generalize ((1 + z2.fmod 12:Int):Rat) / ((1 + z3.fmod 12:Int):Rat) = x at og ⊢
   refine ⟨by decide,by decide,by rw [cV];omega,by decide,Nat.le_of_ble_eq_true rfl,aT ?_⟩
   have fin:=q (.kp (ofS (ws ++ [.pl (.grow x)]))) M6 (.gkp og) s6
   rw [thD,wY,dG,List.map_append,<- dG] at fin
   exact fin
  | ev ws =>
   rw [hmR] at hm
   have ll:=iL ws
   dsimp only [rwD]
   decreasing_tactic
   refine ⟨by decide,fun p6 hp6=>⟨["again","keep","ever"],aK,ifT (by decide) ?_⟩⟩
   have s6:=sb.trans (bC.new hp6 [D.str "again",.str "keep",.str "ever"])
   generalize bJ M3 p6 _ = M6 at s6 ⊢
   refine ⟨fun z=>absurd z.2 (by show ¬ HT.sIx 2 2 (some (-1)) = 2;decide),?_⟩
   refine ⟨L,_,s6 _ _ ha,e2,by decide,L,_,s6 _ _ ha,e3,by decide,_,_,rfl,by omega,(vI (by omega) (by omega)).mono (by decide),?_⟩
   have og:=aCU (show 1<=1 + z2.fmod 12 by omega) (by omega) (show 1<=1 + z3.fmod 12 by omega) (by omega)
   generalize ((1 + z2.fmod 12:Int):Rat) / ((1 + z3.fmod 12:Int):Rat) = x at og ⊢
   refine ⟨by decide,by decide,by rw [cV];omega,by decide,Nat.le_of_ble_eq_true rfl,aT ?_⟩
   have fin:=q (.ev (ofS (ws ++ [.pl (.grow x)]))) M6 (.gev og) s6
   rw [thD,wY,dG,List.map_append,<- dG] at fin
   exact fin
 ·exact ifF (decide_eq_false (by omega)) (ifF rfl (plain _ (.refl _)))
theorem qE (xs ys:List Rw):ofS (xs ++ ys) = ofS xs ++ ofS ys:=by rw [gH,gH,gH,List.map_append]
theorem aEP (xs ys:List Th):dB (xs ++ ys) = dB xs ++ dB ys:=by rw [gG,gG,gG,List.map_append]
theorem pY (r:Rw):ofS [r] = [ofR r]:=by rw [ofS,ofS]
theorem lZ.snoc {rs:List Rw} {ts:List Th} (h:lZ rs ts) (r:Rw):lZ (rs ++ [r]) (ts ++ [ofR r]):=by
 cases h with
 | non=>rw [<- pY,<- qE];exact .non
 | @here xs r' ys t hb=>rw [List.append_assoc,List.append_assoc,List.cons_append,List.cons_append,<- pY,<- qE];exact .here hb
 | @dag xs n ws ys ts hb=>rw [List.append_assoc,List.append_assoc,List.cons_append,List.cons_append,<- pY,<- qE];exact .dag hb
 | @dkp xs ws ys ts hb=>rw [List.append_assoc,List.append_assoc,List.cons_append,List.cons_append,<- pY,<- qE];exact .dkp hb
 | @dev xs ws ys ts hb=>rw [List.append_assoc,List.append_assoc,List.cons_append,List.cons_append,<- pY,<- qE];exact .dev hb
theorem aFb {xs:List Rw} {r:Rw} {t:Th} (h:Bt r t):lZ (xs ++ [r]) (ofS xs ++ [t]):=by
 have:=lZ.here (xs:=xs) (ys:=[]) h
 rw [ofS] at this;exact this
noncomputable def Sf (rs:List Rw) (ts:List Th) (k:Int):Prop:=ts = ofS rs ∨ (lZ rs ts/\k < 0)
theorem Sf.put {rs:List Rw} {ts:List Th} {k:Int} (h:Sf rs ts k):lZ rs ts:=by
 rcases h with rfl | h
 ·exact .non
 ·exact h.1
theorem Sf.same {rs:List Rw} {ts:List Th} {k:Int} (h:Sf rs ts k) (r:Rw):Sf (rs ++ [r]) (ts ++ [ofR r]) (k - 1):=by
 rcases h with rfl | h
 ·exact .inl (by rw [qE,pY])
 ·exact .inr ⟨h.1.snoc r,by omega⟩
noncomputable def qV (d:Nat):DSp:=fun ds M Q=>∃ (rs:List Rw) (k:Int) (a:Addr) (L:List D),ds = [.tup (bM rs),.int k,.ref a]/\M a = some L/\kR 6 L/\(DpS d rs/\(∀ r ∈ rs,Dp 4 r)/\hmS rs<=100)/\∀ ts k' M',Sf rs ts k'->bC M M'->Q (.tup [.tup (dB ts),.int k']) M'
noncomputable def aI9 (M:DM) (rs:List Rw) (a pf:Addr) (i:Nat) (ρ:cO) (M':DM):Prop:=bC M M'/\∃ (ts:List Th) (k:Int) (o4 o5:Option D),M' pf = some (dB ts)/\ts.length = i/\Sf (rs.take i) ts k/\ρ = [some (D.tup (bM rs)),some (D.int k),some (D.ref a),some (D.ref pf),o4,o5]
theorem xG:∀ {rs:List Rw} {r:Rw},r ∈ rs->hmR r<=hmS rs
 | x :: xs,r,m=>by
  rw [hmS]
  rcases List.mem_cons.mp m with rfl | z
  ·omega
  ·have:=xG z;omega
noncomputable abbrev uM:Stmt:=top 84
theorem fA:aR ["_law_rows","_law_at","_law_numbers","_law_found","_law_row_here","_law_inner"] ["_law_rows","_law_at","_law_numbers"] (aI uM):=⟨rfl,rfl,rfl,by decide +kernel,rfl,by decide +kernel,by decide +kernel⟩
theorem aBn (hF:bV K mg "_law_put" uM ["_law_rows","_law_at","_law_numbers"]) (cY:mg "tuple" = none) (rQ:Has P w K mg base 102 "_law_bent" ["_law_row_here","_law_numbers"] vH):Has P w K mg base 118 "_law_put" ["_law_rows","_law_at","_law_numbers"] (qV 8):=by
 have all:∀ d,Has P w K mg base (110 + d) "_law_put" ["_law_rows","_law_at","_law_numbers"] (qV d):=fun d=>by
  induction d with
  | zero=>exact (Has.never hF fA 109).imp fun ds M Q ⟨rs,_,_,_,_,_,_,z,_⟩=>z.1
  | succ d lT =>
   refine Has.mkZ (k:=110 + d) hF fA (fun ds M Q ⟨_,_,_,_,z,_⟩=>by rw [z];rfl) fun f cdv A outer s H ds M Q E hr h=>?_
   obtain ⟨rs,k0,a,L,rfl,ha,hL,⟨dp,d4,hm⟩,q⟩:=h
   refine ⟨_,(aF (aP (i:=3) fA.nd (bN aD))
  (aF (jF PassesOwn.never rfl (aB 0) (aZ (i:=4) fA.nd) (aF (aV (aQ (bT hr) (aB 1) aC) (aE (aP (i:=4) fA.nd (aG rQ hr (by omega) (aA (aB 4) (aA (aB 2) aD))))) (aE (aV (fP (eX (aQ gE (aB 1) aC) (eJ (aQ sT (aH (aB 4) aC) (bN (aA aM (aA aM (aA aM aD)))) rfl)))) (aF (jT (aG lT hr (by omega) (aA (aH (aB 4) (cU aC)) (aA (aJ lO (aB 1) aC) (aA (aB 2) aD)))) (jR (n:=2) rfl (bX (aZ (i:=5) fA.nd) (bX (aZ (i:=1) fA.nd) hZ))))
  (aE (aP (i:=4) fA.nd (aJ mO (wJ (aB 4) nZ (iH (cU aC))) (aN (aA (aB 5) aD)))))) aS)))
  (aF (fG (iT (aB 3) (aB 4)))
  (aE (aP (i:=1) fA.nd (aJ lO (aB 1) aC))))))
  (aE (aO (aN (aA (eP tG cY (aA (aB 3) aD)) (aA (aB 1) aD))))))),?_⟩
   decreasing_tactic
   refine ⟨by decide,fun pf hpf=>?_⟩
   have s0:=bC.new hpf ([]:List D)
   have h0:bJ M pf [] pf = some []:=aK
   generalize bJ M pf [] = M0 at s0 h0 ⊢
   refine ⟨aI9 M rs a pf,⟨s0,[],k0,_,_,by rw [dB];exact h0,rfl,.inl (by rw [List.take_zero,ofS]),rfl⟩,fun i ρ M' _ _ a e=>(by cases e),?_,?_⟩
   ·rintro i d1 ρ M1 hd ⟨sb,ts,k,o4,o5,hf,lt,sf,rfl⟩
    obtain ⟨r,hr',rfl⟩:=iG hd
    have mr:=List.mem_of_getElem? hr'
    have dr:=dp.2 r mr
    have ll:=iL rs
    have il:=(List.getElem?_eq_some_iff.mp hr').1
    have tk:=fM hr'
    have put:∀ (M2:DM) (t:Th) (k2:Int) (o4 o5:Option D),bC M1 M2->Sf (rs.take (i + 1)) (ts ++ [t]) (k2 - 1)->∃ ds y,[thD t] = [y]/\M2 pf = some ds/\ds.length < 1000/\aI9 M rs a pf (i + 1) [some (D.tup (bM rs)),some (D.int (k2 - 1)),some (D.ref a),some (D.ref pf),o4,o5] (bJ M2 pf (ds ++ [y])):=fun M2 t k2 o4 o5 s2 h2=>by
     refine ⟨_,_,rfl,s2 _ _ hf,by rw [sK];omega,oC (sb.trans s2) (fO.refl.put (List.mem_singleton.mpr rfl)) (fun b hb=>by rw [List.mem_singleton.mp hb];exact hpf),ts ++ [t],_,_,_,?_,by rw [List.length_append,lt];rfl,h2,rfl⟩
     rw [aK,aEP,dB,dB]
    decreasing_tactic
    rw [bI]
    by_cases c0:k = 0
    ·refine ifT (decide_eq_true c0) ⟨r,a,L,rfl,sb _ _ ha,hL,⟨d4 r mr,by have:=xG mr;omega⟩,fun t M2 bt s2=>?_⟩
     decreasing_tactic
     refine ⟨⟨_,s2 _ _ hf⟩,put M2 t k _ _ s2 ?_⟩
     rw [tk]
     rcases sf with rfl | ⟨_,n⟩
     ·exact .inr ⟨aFb bt,by omega⟩
     ·omega
    ·refine ifF (decide_eq_false c0) ?_
     have same:∀ M2 o4 o5,bC M1 M2->∃ ds y,[rwD r] = [y]/\M2 pf = some ds/\ds.length < 1000/\aI9 M rs a pf (i + 1) [some (D.tup (bM rs)),some (D.int (k - 1)),some (D.ref a),some (D.ref pf),o4,o5] (bJ M2 pf (ds ++ [y])):=fun M2 o4 o5 s2=>by
      have:=put M2 (ofR r) k o4 o5 s2 (by rw [tk];exact sf.same r)
      rw [aII] at this;exact this
     by_cases cp:0 < k
     ·have sf:ts = ofS (rs.take i):=by
       rcases sf with z | ⟨_,n⟩
       ·exact z
       ·omega
      subst sf
      refine ifT (decide_eq_true (by omega)) ?_
      cases r with
      | pl x =>
       obtain ⟨w0,cR,e,wb⟩:=wF x
       dsimp only [rwD] at same ⊢
       rw [e] at same ⊢
       decreasing_tactic
       rw [xQ]
       decreasing_tactic
       exact ⟨by decide,fun p6 hp6=>⟨["again","keep","ever"],aK,ifF (xK wb) ⟨⟨_,(bC.new hp6 _) _ _ hf⟩,same _ _ _ (bC.new hp6 _)⟩⟩⟩
      | ag n ws =>
       have hw:=xG mr
       rw [hmR] at hw
       have d4r:=d4 _ mr
       dsimp only [rwD]
       decreasing_tactic
       refine ⟨by decide,fun p6 hp6=>⟨["again","keep","ever"],aK,ifT (by decide) ?_⟩⟩
       have s6:=bC.new hp6 [D.str "again",.str "keep",.str "ever"]
       generalize bJ M1 p6 _ = M6 at s6 ⊢
       refine ⟨ws,k - 1,a,L,rfl,(sb.trans s6) _ _ ha,hL,⟨(mJ dr).2,fun x hx=>Dp.up (d4r.2.2 x hx),by omega⟩,fun ts' k' M7 sf' s7=>?_⟩
       decreasing_tactic
       refine ⟨rfl,fun z=>absurd z.2 (by show ¬ HT.sIx 3 3 (some (-1)) = 3;decide),by decide,Nat.le_of_ble_eq_true rfl,⟨_,(s6.trans s7) _ _ hf⟩,?_⟩
       have fin:=put M7 (.ag n ts') k' (some (thD (.ag n ts'))) (some (.tup (dB ts'))) (s6.trans s7) (by
        rw [tk]
        rcases sf' with rfl | ⟨p',n'⟩
        ·have:=(Sf.same (k:=k' ) (.inl rfl:Sf (rs.take i) (ofS (rs.take i)) k') (.ag n ws))
         rw [ofR] at this;exact this
        ·refine .inr ⟨?_,by omega⟩
         have:=lZ.dag (xs:=rs.take i) (ys:=[]) (n:=n) p'
         rw [ofS] at this;exact this)
       rw [thD] at fin
       exact fin
      | kp ws =>
       have hw:=xG mr
       rw [hmR] at hw
       have d4r:=d4 _ mr
       dsimp only [rwD]
       decreasing_tactic
       refine ⟨by decide,fun p6 hp6=>⟨["again","keep","ever"],aK,ifT (by decide) ?_⟩⟩
       have s6:=bC.new hp6 [D.str "again",.str "keep",.str "ever"]
       generalize bJ M1 p6 _ = M6 at s6 ⊢
       refine ⟨ws,k - 1,a,L,rfl,(sb.trans s6) _ _ ha,hL,⟨qH dr,fun x hx=>Dp.up (d4r.2 x hx),by omega⟩,fun ts' k' M7 sf' s7=>?_⟩
       decreasing_tactic
       refine ⟨rfl,fun z=>absurd z.2 (by show ¬ HT.sIx 2 2 (some (-1)) = 2;decide),by decide,Nat.le_of_ble_eq_true rfl,⟨_,(s6.trans s7) _ _ hf⟩,?_⟩
       have fin:=put M7 (.kp ts') k' (some (thD (.kp ts'))) (some (.tup (dB ts'))) (s6.trans s7) (by
        rw [tk]
        rcases sf' with rfl | ⟨p',n'⟩
        ·have:=(Sf.same (k:=k' ) (.inl rfl:Sf (rs.take i) (ofS (rs.take i)) k') (.kp ws))
         rw [ofR] at this;exact this
        ·refine .inr ⟨?_,by omega⟩
         have:=lZ.dkp (xs:=rs.take i) (ys:=[]) p'
         rw [ofS] at this;exact this)
       rw [thD] at fin
       exact fin
      | ev ws =>
       have hw:=xG mr
       rw [hmR] at hw
       have d4r:=d4 _ mr
       dsimp only [rwD]
       decreasing_tactic
       refine ⟨by decide,fun p6 hp6=>⟨["again","keep","ever"],aK,ifT (by decide) ?_⟩⟩
       have s6:=bC.new hp6 [D.str "again",.str "keep",.str "ever"]
       generalize bJ M1 p6 _ = M6 at s6 ⊢
       refine ⟨ws,k - 1,a,L,rfl,(sb.trans s6) _ _ ha,hL,⟨mG dr,fun x hx=>Dp.up (d4r.2 x hx),by omega⟩,fun ts' k' M7 sf' s7=>?_⟩
       decreasing_tactic
       refine ⟨rfl,fun z=>absurd z.2 (by show ¬ HT.sIx 2 2 (some (-1)) = 2;decide),by decide,Nat.le_of_ble_eq_true rfl,⟨_,(s6.trans s7) _ _ hf⟩,?_⟩
       have fin:=put M7 (.ev ts') k' (some (thD (.ev ts'))) (some (.tup (dB ts'))) (s6.trans s7) (by
        rw [tk]
        rcases sf' with rfl | ⟨p',n'⟩
        ·have:=(Sf.same (k:=k' ) (.inl rfl:Sf (rs.take i) (ofS (rs.take i)) k') (.ev ws))
         rw [ofR] at this;exact this
        ·refine .inr ⟨?_,by omega⟩
         have:=lZ.dev (xs:=rs.take i) (ys:=[]) p'
         rw [ofS] at this;exact this)
       rw [thD] at fin
       exact fin
     ·exact ifF (decide_eq_false (by omega)) (ifF rfl ⟨⟨_,hf⟩,same _ _ _ (.refl _)⟩)
   ·rintro ρ M' ⟨sb,ts,k,o4,o5,hf,lt,sf,rfl⟩
    decreasing_tactic
    rw [cV,List.take_length] at sf
    refine ⟨_,hf,by decide,aT (q ts k M' sf sb)⟩
 exact all 8
theorem aHT {ts:List Th} (h:DpS 8 (gdS ts)) (v:fF ts):aW 59 (.tup (dB ts)) = true:=by
 show (dB ts).all (aW 58) = true
 rw [gG,List.all_map,List.all_eq_true]
 intro r hr
 exact sV 7 r 14 (h.2 _ (rL hr)) (jE v hr)
theorem aBA:∀ {L:List D},(∀ d ∈ L,∃ c,d = .int c)->∃ cs:List Int,L = cs.map D.int
 | [],_=>⟨[],rfl⟩
 | d :: L,h=>by
  obtain ⟨c,rfl⟩:=h d (List.mem_cons_self ..)
  obtain ⟨cs,e⟩:=aBA fun x hx=>h x (List.mem_cons_of_mem _ hx)
  exact ⟨c :: cs,by rw [e];rfl⟩
theorem aBb (ns:List Int) (lo hi:Option Int):∃ cs:List Int,Dd.cutD (ns.map D.int) lo hi = cs.map D.int/\cs.length<=ns.length:=by
 obtain ⟨cs,e⟩:=aBA (L:=Dd.cutD (ns.map D.int) lo hi) fun d hd=>by
  obtain ⟨c,_,e⟩:=List.mem_map.mp (aG6 hd)
  exact ⟨c,e.symm⟩
 have l:(Dd.cutD (ns.map D.int) lo hi).length<=ns.length:=by
  unfold Dd.cutD
  rw [List.length_take,List.length_drop,List.length_map]
  omega
 rw [e,List.length_map] at l
 exact ⟨cs,e,l⟩
theorem aJg (ns:List Int):∃ cs:List Int,Dd.cutD (ns.map D.int) none (some 36) = cs.map D.int/\cs.length<=36:=by
 obtain ⟨cs,e,_⟩:=aBb ns none (some 36)
 have l:(Dd.cutD (ns.map D.int) none (some 36)).length<=36:=by
  unfold Dd.cutD
  rw [show (36:Int) = ((36:Nat):Int) from rfl,HT.sIx_nat,List.length_take]
  omega
 rw [e,List.length_map] at l
 exact ⟨cs,e,l⟩
noncomputable def sp_law:DSp:=fun ds M Q=>∃ ns:List Int,ds = [.fz (ns.map D.int)]/\ns.length<=63/\∀ M',Q (.bl true) M'
noncomputable abbrev sX:Stmt:=top 86
theorem qR:aR ["_law_script","_law_program_here","_law_cell","_law_numbers","_law_end","_law_other","_law_wrong"] ["_law_script"] (aI sX):=⟨rfl,rfl,rfl,by decide +kernel,rfl,by decide +kernel,by decide +kernel⟩
theorem aF8 {f0:Addr} {fd0:FuncData} (hF:L2.Fun K "law" "law" sX f0 fd0) (aEj:mg "max" = none) (iO:mg "int" = none) (kC:Has P w K mg base 101 "_law_row" ["_law_cell","_law_many"] rC) (lE:Has P w K mg base 121 "_law_program" ["_law_cells"] pR) (lT:Has P w K mg base 118 "_law_put" ["_law_rows","_law_at","_law_numbers"] (qV 8)) (gQ:Has P w K mg base 128 "_law_first" ["_law_rows","_law_number","_law_deep","_law_within"] (tF 8)) (mX:Has P w K mg base 130 "_law_told" ["_law_rows"] vJ) :
  jK P w K mg base CX0 151 f0 fd0 ["_law_script"] (tK K sp_law):=by
 refine Fun.okZ hF qR (fun ds M Q ⟨ns,e,_⟩=>by rw [e];rfl) fun cdv A outer s H ds M Q E hr h=>?_
 obtain ⟨ns,rfl,hl,fin⟩:=h
 refine ⟨_,(aF (aP (i:=1) qR.nd (aG lE hr (by decide) (aA (qB (aB 0) nZ (iH aC)) aD)))
  (aF (aV (aQ (pT hr) (aG mX hr (by decide) (aA (aB 1) aD)) (bN (aA (aB 1) aD))) (aE (aO fU)) aS)
  (aF (aBz PassesOwn.never rfl (aJ cF (aJ cF (qB (aB 0) (iH aC) (iH aC)) (bN (aA aC (aA aC (aA aC aD))))) (qB (aB 0) nZ (iH aC))) (aZ (i:=2) qR.nd) (aF (aP (i:=3) qR.nd (aG kC hr (by decide) (aA (aB 2) (aA aC aD))))
  (aF (aP (i:=4) qR.nd (aH (aG gQ hr (by decide) (aA (aB 1) (aA aC (aA aC (aA fU aD))))) aC))
  (aF (aP (i:=5) qR.nd (aH (aG lT hr (by decide) (aA (aB 1) (aA (aJ cW (aH (aB 3) aC) (bW (aKq rfl) aEj (aA aC (aA (aB 4) aD)))) (aA (aB 3) aD)))) aC))
  (aF (aP (i:=6) qR.nd (aH (aG gQ hr (by decide) (aA (aB 5) (aA aC (aA aC (aA fU aD))))) aC))
  (aE (aV (aQ (pT hr) (aG mX hr (by decide) (aA (aB 5) aD)) (aH (bN (aA (aB 6) (aA (bN (aA (aB 5) aD)) aD))) (eP uQ iO (aA (cB aFT (aB 6) eZ) aD)))) (aE (aO fU)) aS)))))))
  (aE (aO fU))))),?_⟩
 decreasing_tactic
 intro p0 hp0
 obtain ⟨cs,ec,lc⟩:=aJg ns
 rw [ec]
 refine ⟨p0,cs,rfl,aK,lc,fun rs A M2 a0 a1 dp lr dn gw al lt sub=>?_⟩
 have inn:In 4 false rs:=⟨gw,by omega,dp,lt.2.2,⟨A,al⟩,lt.1,by omega⟩
 obtain ⟨cE,hcE⟩:=aBT rs 4 false 0 [] lt.2.2 dp rfl (by decide)
 have d8:DpS 8 rs:=⟨by omega,fun r hr=>kU (d':=7) (dp r hr) (by decide)⟩
 have ou:=aCQ (.non:lZ rs (ofS rs)) (by decide) inn
 decreasing_tactic
 refine ⟨ofS rs,by rw [wY],by rw [dA];exact d8,⟨ou.va,ou.bo⟩,by rw [dA];omega,?_⟩
 rw [hcE]
 dsimp only [aB1]
 intro pt hpt
 rw [wY]
 decreasing_tactic
 refine ⟨by decide,fun pq hpq=>?_⟩
 obtain ⟨n1,hp1⟩:=oG hpq
 have w59:=aHT (ts:=ofS rs) (by rw [dA];exact d8) ou.va
 rw [wY] at w59
 refine aBP (by rw [gJ (Ne.symm n1)];exact aK) aK (Ne.symm n1) rfl (by rw [List.all_cons,List.all_nil,Bool.and_true];exact w59) (ifF rfl ?_)
 generalize bJ (bJ M2 pt [D.tup (bM rs)]) pq [D.tup (bM rs)] = M3
 clear hpq hp1 n1 hpt sub a0 a1 ec lc hp0
 intro p1 hp1
 refine ⟨by decide,fun p2 hp2=>?_⟩
 obtain ⟨c1,ec1,l1⟩:=aBb ns (some 36) (some 50)
 obtain ⟨c2,ec2,l2⟩:=aBb ns none (some 4)
 rw [ec1] at hp2 ⊢
 rw [ec2]
 obtain ⟨n21,_⟩:=oG hp2
 refine ⟨_,_,(bC.new hp2 _) _ _ aK,aK,by rw [List.length_map];show _ + 3<=1000;omega,fun p3 hp3 p4 hp4=>?_⟩
 refine ⟨_,_,(bC.new hp4 _) _ _ aK,aK,by rw [List.length_append,List.length_map,List.length_map];show _ + 3 + _<=1000;omega,fun p5 hp5=>⟨_,aK,?_⟩⟩
 generalize eM:bJ (bJ (bJ (bJ (bJ M3 p1 _) p2 _) p3 _) p4 _) p5 _ = M4
 have hh:M4 p5 = some (c1.map D.int ++ [D.int 0,.int 1,.int 2] ++ c2.map D.int):=by rw [<- eM];exact aK
 have isI:∀ d ∈ c1.map D.int ++ [D.int 0,.int 1,.int 2] ++ c2.map D.int,∃ c,d = .int c:=fun d hd=>by
  simp only [List.mem_append,List.mem_map,List.mem_cons,List.not_mem_nil,or_false] at hd
  rcases hd with (⟨c,_,rfl⟩ | rfl | rfl | rfl) | ⟨c,_,rfl⟩<;>exact ⟨_,rfl⟩
 generalize c1.map D.int ++ [D.int 0,.int 1,.int 2] ++ c2.map D.int = Lc at hh isI ⊢
 clear eM hp1 hp2 hp3 hp4 hp5 n21 ec1 ec2 l1 l2
 refine ⟨fun i ρ M'=>bC M4 M'/\∃ o2 o3 o4 o5 o6,ρ = [some (.fz (ns.map D.int)),some (.tup (bM rs)),o2,o3,o4,o5,o6],⟨.refl _,_,_,_,_,_,rfl⟩,fun i ρ M' _ h a e=>by cases e;exact h.1 _ _ hh,?_,?_⟩
 ·rintro i d ρ M5 hd ⟨sb,o2,o3,o4,o5,o6,rfl⟩
  obtain ⟨c,rfl⟩:=isI d (List.mem_of_getElem? hd)
  decreasing_tactic
  refine ⟨c,6,rfl,by decide,by decide,fun pn Ln hpn hLn=>?_⟩
  decreasing_tactic
  refine ⟨ofS rs,0,[],by rw [wY];rfl,⟨by rw [dA];exact d8,by decide⟩,⟨ou.va,ou.bo⟩,?_⟩
  rw [hcE]
  dsimp only [lI]
  decreasing_tactic
  have hLn:kR 6 Ln:=hLn
  obtain ⟨z5,e5,_⟩:=hLn.at (i:=5) (by decide)
  have hn:bJ M5 pn Ln pn = some Ln:=aK
  have sn:=sb.trans (bC.new hpn Ln)
  generalize bJ M5 pn Ln = M6 at hn sn ⊢
  refine ⟨Ln,_,hn,e5,?_⟩
  decreasing_tactic
  refine ⟨by split<;>omega,rs,_,pn,Ln,rfl,hn,hLn,⟨d8,dp,by omega⟩,fun ts k' M7 sf s7=>?_⟩
  have o:=aCQ sf.put (by decide) inn
  have t8:DpS 8 (gdS ts):=⟨by rw [fZ,List.length_map];have:=o.len;omega,fun r hr=>by
   rw [fZ] at hr
   obtain ⟨y,hy,rfl⟩:=List.mem_map.mp hr
   exact kU (d':=7) (o.dp y hy) (by decide)⟩
  have th:hmS (gdS ts)<=60:=by have:=o.hm;omega
  have s8:=sn.trans s7
  clear hn hLn sf s7 sn hpn
  decreasing_tactic
  refine ⟨ts,0,[],rfl,⟨t8,by decide⟩,⟨o.va,o.bo⟩,?_⟩
  cases hz:lkS ts 0 [] with
  | inr cw =>
   dsimp only [lI]
   decreasing_tactic
   refine ⟨ts,rfl,t8,⟨o.va,o.bo⟩,th,?_⟩
   rw [hz]
   dsimp only [aB1]
   decreasing_tactic
   refine ⟨by decide,fun p hp=>⟨by decide,fun p' hp'=>⟨_,_,aK,rfl,?_⟩⟩⟩
   rw [bI]
   exact ifF (by rw [decide_eq_true rfl];rfl) ⟨s8.trans ((bC.new hp _).trans (bC.new hp' _)),_,_,_,_,_,rfl⟩
  | inl z =>
   dsimp only [lI]
   decreasing_tactic
   refine ⟨ts,rfl,t8,⟨o.va,o.bo⟩,th,?_⟩
   rw [hz]
   dsimp only [aB1]
   intro pu hpu
   decreasing_tactic
   refine ⟨by decide,fun p hp=>⟨by decide,fun p' hp'=>⟨_,_,aK,rfl,?_⟩⟩⟩
   obtain ⟨n1,hp1⟩:=oG hp
   have s1:=bC.new hp [D.tup (dB ts)]
   have s2:=bC.new hp' [D.non,.ref p]
   exact aBP (s2 _ _ (s1 _ _ aK)) (s2 _ _ aK) (Ne.symm n1) rfl (by rw [List.all_cons,List.all_nil,Bool.and_true];exact aHT t8 o.va) (ifF rfl ⟨s8.trans ((bC.new hpu _).trans (s1.trans s2)),_,_,_,_,_,rfl⟩)
 ·rintro ρ M' _
  exact aT (fin M')
theorem law_here (ns:List Int) (hl:ns.length<=63) (M:DM):sp_law [.fz (ns.map D.int)] M fun d _=>d = .bl true:=⟨ns,rfl,hl,fun _=>rfl⟩
end
noncomputable def aH2:Stmt->Stmt
 | .ClassDef _ _ _ body _ _ _ _ _ _ _=>body.getD 0 (.Pass ⟨0,0,0,0⟩)
 | s=>s
noncomputable abbrev rW:Stmt:=aH2 (top 3)
theorem zN:aR ["self","row"] ["self","row"] (aI rW):=⟨rfl,rfl,rfl,by decide +kernel,rfl,by decide +kernel,by decide +kernel⟩
theorem all_mk {l:PySem.W.OpenLaw} {w:World} {K:PySem.W.Frag} {h:Heap} {mg:Str->Option Value} {fa f0 f1 f2 f3 f4 f5 f6 f7 f8 f9 f10 f11 f12 f13 f14 f15 f16 f17 f18 f19 f20 f21 f22 f23 f24 f25 f26 f27 f28 f29 f30 f31 f32 f33 f34 f35 f36 f37 f38 f39 f40 f41 f42 f43 f44 f45 f46 f47 f48 f49 f50 f51 f52 f53 f54 f55 f56 f57 f58 f59 f60 f61 f62:Addr} (X:K.In h) (G:h.Ns mainGlobals mg) (hfa:mg "law" = some (.ref fa))
  {od62 an62:Option Addr} {sl62:Array (Option Value)} {oc62 kV62 dc62 pm62 cd62 ct62:Value}
  (b0:FK K "greatest_divisor" f0 gL)
  (b1:FK K "plus" f1 aCB)
  (b2:FK K "times" f2 vZ)
  (b3:FK K "below" f3 aAs)
  (b4:FK K "on_one_bottom" f4 jI)
  (b5:FK K "sign" f5 aCy)
  (b6:FK K "scaled_far" f6 mZ)
  (b7:FK K "farther" f7 uF)
  (b8:FK K "first" f8 aAR)
  (b9:FK K "_law_ratio" f9 lB)
  (b10:FK K "_law_plus" f10 rR)
  (b11:FK K "_law_times" f11 kW)
  (b12:FK K "_law_drawn" f12 pE)
  (b13:FK K "_law_done" f13 rB)
  (b14:FK K "_law_draws" f14 pS)
  (b15:FK K "_law_size" f15 nM)
  (b16:FK K "_law_is_endless" f16 fY)
  (b17:FK K "_law_close" f17 nY)
  (b18:FK K "at_place" f18 qZ)
  (b19:FK K "side_deed" f19 oE)
  (b20:FK K "go_deed" f20 tV)
  (b21:FK K "skip_deed" f21 pB)
  (b22:FK K "dot_deed" f22 rJ)
  (b23:FK K "left_deed" f23 oS)
  (b24:FK K "round_deed" f24 nH)
  (b25:FK K "right_deed" f25 nQ)
  (b26:FK K "mirror_deed" f26 lD)
  (b27:FK K "grow_deed" f27 pM)
  (b28:FK K "quarter_deed" f28 kH)
  (b29:FK K "half_deed" f29 oK)
  (b30:FK K "arc_deed" f30 rT)
  (b31:FK K "deed_of" f31 uE)
  (b32:FK K "rows_within" f32 iY)
  (b33:FK K "how_many_done" f33 jL)
  (b34:FK K "_law_row" f34 tX)
  (b35:FK K "_law_bow" f35 tY)
  (b36:FK K "_law_plain" f36 pU)
  (b37:FK K "_law_program" f37 jD)
  (b38:FK K "how_many_rows" f38 jJ)
  (b39:FK K "not_too_long" f39 iI)
  (b40:FK K "may_grow" f40 qQ)
  (b41:FK K "is_whole" f41 rV)
  (b42:FK K "is_reduced" f42 nA)
  (b43:FK K "is_fraction" f43 lG)
  (b44:FK K "numbers_behind" f44 iS)
  (b45:FK K "is_worded" f45 pL)
  (b46:FK K "is_bend" f46 uB)
  (b47:FK K "is_plain_row" f47 iB)
  (b48:FK K "is_block" f48 rN)
  (b49:FK K "has_room" f49 rD)
  (b50:FK K "draws" f50 aAu)
  (b51:FK K "raised_whole" f51 kQ)
  (b52:FK K "raised" f52 xP)
  (b53:FK K "move_size" f53 oI)
  (b54:FK K "can_go_on" f54 oW)
  (b55:FK K "look_at_rows" f55 hU)
  (b56:FK K "program_of" f56 jW)
  (b57:FK K "_law_told" f57 qY)
  (b58:FK K "_law_is_block" f58 kP)
  (b59:FK K "_law_first" f59 oV)
  (b60:FK K "_law_bent" f60 rM)
  (b61:FK K "_law_put" f61 uM)
  (a62:PySem.W.nsIn K mainGlobals "law" = some (some (.ref f62))) (l62:K.lookup f62 = some ⟨oc62,od62,.func (PySem.W.fnOf "law" "law" (nE sX) (eR sX) (aI sX) .none kV62 dc62 pm62 an62 cd62 ct62),sl62⟩) (c62:PySem.W.codeIn K cd62 "law" = true) (k62:PySem.W.keepIn K (.ref f62) = true)
  (z_abs:PySem.W.nsIn K mainGlobals "abs" = some none)
  (z_all:PySem.W.nsIn K mainGlobals "all" = some none)
  (z_bool:PySem.W.nsIn K mainGlobals "bool" = some none)
  (z_int:PySem.W.nsIn K mainGlobals "int" = some none)
  (z_isinstance:PySem.W.nsIn K mainGlobals "isinstance" = some none)
  (z_len:PySem.W.nsIn K mainGlobals "len" = some none)
  (z_max:PySem.W.nsIn K mainGlobals "max" = some none)
  (z_min:PySem.W.nsIn K mainGlobals "min" = some none)
  (z_range:PySem.W.nsIn K mainGlobals "range" = some none)
  (z_str:PySem.W.nsIn K mainGlobals "str" = some none)
  (z_tuple:PySem.W.nsIn K mainGlobals "tuple" = some none)
  {GNUMBERS:Addr} {esGNUMBERS:Array DictEntry} {epGNUMBERS:Nat} (at_NUMBERS:PySem.W.nsIn K mainGlobals "NUMBERS" = some (some (.ref GNUMBERS))) (am_NUMBERS:(GNUMBERS == sysModules) = false) (lt_NUMBERS:K.lookup GNUMBERS = some ⟨.type "dict",none,.dict esGNUMBERS epGNUMBERS,#[]⟩) (kt_NUMBERS:PySem.W.KeysLit w.params esGNUMBERS.toList)
  {tk_NUMBERS_go:Tok} (et_NUMBERS_go:PySem.W.nsIn K GNUMBERS "go" = some (some (.int 1 tk_NUMBERS_go)))
  {tk_NUMBERS_skip:Tok} (et_NUMBERS_skip:PySem.W.nsIn K GNUMBERS "skip" = some (some (.int 1 tk_NUMBERS_skip)))
  {tk_NUMBERS_side:Tok} (et_NUMBERS_side:PySem.W.nsIn K GNUMBERS "side" = some (some (.int 2 tk_NUMBERS_side)))
  {tk_NUMBERS_dot:Tok} (et_NUMBERS_dot:PySem.W.nsIn K GNUMBERS "dot" = some (some (.int 0 tk_NUMBERS_dot)))
  {tk_NUMBERS_left:Tok} (et_NUMBERS_left:PySem.W.nsIn K GNUMBERS "left" = some (some (.int 0 tk_NUMBERS_left)))
  {tk_NUMBERS_right:Tok} (et_NUMBERS_right:PySem.W.nsIn K GNUMBERS "right" = some (some (.int 0 tk_NUMBERS_right)))
  {tk_NUMBERS_round:Tok} (et_NUMBERS_round:PySem.W.nsIn K GNUMBERS "round" = some (some (.int 0 tk_NUMBERS_round)))
  {tk_NUMBERS_mirror:Tok} (et_NUMBERS_mirror:PySem.W.nsIn K GNUMBERS "mirror" = some (some (.int 0 tk_NUMBERS_mirror)))
  {tk_NUMBERS_grow:Tok} (et_NUMBERS_grow:PySem.W.nsIn K GNUMBERS "grow" = some (some (.int 1 tk_NUMBERS_grow)))
  {tk_NUMBERS_quarter:Tok} (et_NUMBERS_quarter:PySem.W.nsIn K GNUMBERS "quarter" = some (some (.int 1 tk_NUMBERS_quarter)))
  {tk_NUMBERS_half:Tok} (et_NUMBERS_half:PySem.W.nsIn K GNUMBERS "half" = some (some (.int 1 tk_NUMBERS_half)))
  {tk_NUMBERS_arc:Tok} (et_NUMBERS_arc:PySem.W.nsIn K GNUMBERS "arc" = some (some (.int 4 tk_NUMBERS_arc)))
  (en_NUMBERS_again:PySem.W.nsIn K GNUMBERS "again" = some none)
  (en_NUMBERS_keep:PySem.W.nsIn K GNUMBERS "keep" = some none)
  (en_NUMBERS_ever:PySem.W.nsIn K GNUMBERS "ever" = some none)
  (en_NUMBERS_none:PySem.W.nsIn K GNUMBERS "none" = some none)
  {GDEEDS:Addr} {esGDEEDS:Array DictEntry} {epGDEEDS:Nat} (at_DEEDS:PySem.W.nsIn K mainGlobals "DEEDS" = some (some (.ref GDEEDS))) (lt_DEEDS:K.lookup GDEEDS = some ⟨.type "dict",none,.dict esGDEEDS epGDEEDS,#[]⟩) (kt_DEEDS:PySem.W.KeysLit w.params esGDEEDS.toList)
  (et_DEEDS_go:PySem.W.nsIn K GDEEDS "go" = some (some (.ref f20)))
  (et_DEEDS_skip:PySem.W.nsIn K GDEEDS "skip" = some (some (.ref f21)))
  (et_DEEDS_side:PySem.W.nsIn K GDEEDS "side" = some (some (.ref f19)))
  (et_DEEDS_dot:PySem.W.nsIn K GDEEDS "dot" = some (some (.ref f22)))
  (et_DEEDS_left:PySem.W.nsIn K GDEEDS "left" = some (some (.ref f23)))
  (et_DEEDS_right:PySem.W.nsIn K GDEEDS "right" = some (some (.ref f25)))
  (et_DEEDS_round:PySem.W.nsIn K GDEEDS "round" = some (some (.ref f24)))
  (et_DEEDS_mirror:PySem.W.nsIn K GDEEDS "mirror" = some (some (.ref f26)))
  (et_DEEDS_grow:PySem.W.nsIn K GDEEDS "grow" = some (some (.ref f27)))
  (et_DEEDS_quarter:PySem.W.nsIn K GDEEDS "quarter" = some (some (.ref f28)))
  (et_DEEDS_half:PySem.W.nsIn K GDEEDS "half" = some (some (.ref f29)))
  (et_DEEDS_arc:PySem.W.nsIn K GDEEDS "arc" = some (some (.ref f30)))
  {GLEAST_CHANGE:Addr} {odGLEAST_CHANGE:Option Addr} {nGLEAST_CHANGE:Nat} {slGLEAST_CHANGE:Array (Option Value)} {tGLEAST_CHANGE_0:Tok} {tGLEAST_CHANGE_1:Tok}
  (ag_LEAST_CHANGE:PySem.W.nsIn K mainGlobals "LEAST_CHANGE" = some (some (.ref GLEAST_CHANGE)))
  (lGLEAST_CHANGE:K.lookup GLEAST_CHANGE = some ⟨.type "tuple",odGLEAST_CHANGE,.seq #[.int 3 tGLEAST_CHANGE_0,.int 4 tGLEAST_CHANGE_1] nGLEAST_CHANGE,slGLEAST_CHANGE⟩)
  {GMIDDLE:Addr} {odGMIDDLE:Option Addr} {nGMIDDLE:Nat} {slGMIDDLE:Array (Option Value)}
  {GMIDDLE_0:Addr} {odGMIDDLE_0:Option Addr} {nGMIDDLE_0:Nat} {slGMIDDLE_0:Array (Option Value)} {tGMIDDLE_0_0:Tok} {tGMIDDLE_0_1:Tok}
  {GMIDDLE_1:Addr} {odGMIDDLE_1:Option Addr} {nGMIDDLE_1:Nat} {slGMIDDLE_1:Array (Option Value)} {tGMIDDLE_1_0:Tok} {tGMIDDLE_1_1:Tok}
  (ag_MIDDLE:PySem.W.nsIn K mainGlobals "MIDDLE" = some (some (.ref GMIDDLE)))
  (lGMIDDLE:K.lookup GMIDDLE = some ⟨.type "tuple",odGMIDDLE,.seq #[.ref GMIDDLE_0,.ref GMIDDLE_1] nGMIDDLE,slGMIDDLE⟩)
  (lGMIDDLE_0:K.lookup GMIDDLE_0 = some ⟨.type "tuple",odGMIDDLE_0,.seq #[.int 0 tGMIDDLE_0_0,.int 1 tGMIDDLE_0_1] nGMIDDLE_0,slGMIDDLE_0⟩)
  (lGMIDDLE_1:K.lookup GMIDDLE_1 = some ⟨.type "tuple",odGMIDDLE_1,.seq #[.int 0 tGMIDDLE_1_0,.int 1 tGMIDDLE_1_1] nGMIDDLE_1,slGMIDDLE_1⟩)
  {tGMOST_AGAIN:Tok} (ag_MOST_AGAIN:PySem.W.nsIn K mainGlobals "MOST_AGAIN" = some (some (.int 12 tGMOST_AGAIN)))
  {tGMOST_BLOCKS:Tok} (ag_MOST_BLOCKS:PySem.W.nsIn K mainGlobals "MOST_BLOCKS" = some (some (.int 4 tGMOST_BLOCKS)))
  {tGMOST_IN_A_ROUND:Tok} (ag_MOST_IN_A_ROUND:PySem.W.nsIn K mainGlobals "MOST_IN_A_ROUND" = some (some (.int 300 tGMOST_IN_A_ROUND)))
  {tGMOST_IN_GROW:Tok} (ag_MOST_IN_GROW:PySem.W.nsIn K mainGlobals "MOST_IN_GROW" = some (some (.int 12 tGMOST_IN_GROW)))
  {tGMOST_ROWS:Tok} (ag_MOST_ROWS:PySem.W.nsIn K mainGlobals "MOST_ROWS" = some (some (.int 60 tGMOST_ROWS)))
  {GNOTHING:Addr} {odGNOTHING:Option Addr} {nGNOTHING:Nat} {slGNOTHING:Array (Option Value)} {tGNOTHING_0:Tok} {tGNOTHING_1:Tok}
  (ag_NOTHING:PySem.W.nsIn K mainGlobals "NOTHING" = some (some (.ref GNOTHING)))
  (lGNOTHING:K.lookup GNOTHING = some ⟨.type "tuple",odGNOTHING,.seq #[.int 0 tGNOTHING_0,.int 1 tGNOTHING_1] nGNOTHING,slGNOTHING⟩)
  {GONE:Addr} {odGONE:Option Addr} {nGONE:Nat} {slGONE:Array (Option Value)} {tGONE_0:Tok} {tGONE_1:Tok}
  (ag_ONE:PySem.W.nsIn K mainGlobals "ONE" = some (some (.ref GONE)))
  (lGONE:K.lookup GONE = some ⟨.type "tuple",odGONE,.seq #[.int 1 tGONE_0,.int 1 tGONE_1] nGONE,slGONE⟩)
  {C_NoRow:Addr}
  (ac_NoRow:PySem.W.nsIn K mainGlobals "NoRow" = some (some (.ref C_NoRow))) (kc_NoRow:PySem.W.keepIn K (.ref C_NoRow) = true)
  (ob_NoRow:∃ M nm qn N bs hdct sn sub ab col dd k0 k1 k2 k3 k5,K.lookup C_NoRow = some (excClassObj nm qn C_NoRow N bs (.ref M :: bmV) hdct sn sub ab col dd k0 k1 k2 k3 k5 "ValueError.__new__")/\PySem.W.excIn K M bmV "ValueError.__new__" = true/\∃ cdM,PySem.W.clsIn K M = some cdM/\cdM.mro = .ref M :: bmV)
  (in_NoRow:∃ fI fd,PySem.W.findIn K (.ref C_NoRow) "__init__" = some (some (.ref fI))/\PySem.W.typeIn K (.ref fI) = some (.type "function")/\L2.Fun K "__init__" "NoRow.__init__" rW fI fd)
  (fa_NoRow:PySem.W.findIn K (.ref C_NoRow) "__setattr__" = some (some (.builtin "object.__setattr__"))) (fc_NoRow:∃ cd,PySem.W.clsIn K C_NoRow = some cd/\aGF cd.mro = true/\cd.hasDict = true) (fm_NoRow:PySem.W.mroIn K C_NoRow (.type "object") = some true) (fn_NoRow:PySem.W.findIn K (.ref C_NoRow) "row" = some none)
  {C_TooMuch:Addr}
  (ac_TooMuch:PySem.W.nsIn K mainGlobals "TooMuch" = some (some (.ref C_TooMuch))) (xc_TooMuch:PySem.W.excIn K C_TooMuch bmV "ValueError.__new__" = true)
  (ex0_NoRow:PySem.W.findIn K (.ref C_NoRow) "__getattribute__" = some (some (.builtin "BaseException.__getattribute__")))
  (ex1_NoRow:PySem.W.findIn K (.ref C_NoRow) "__getattr__" = some none)
  (ex2_NoRow:PySem.W.findIn K (.ref C_NoRow) "__class__" = some (some (.builtin "object.__class__")))
  (ex3_NoRow:PySem.W.specialIn K (.builtin "object.__class__") "__get__" = some (some (.builtin "getset_descriptor.__get__")))
  (ex4_NoRow:PySem.W.takesIn K (.builtin "object.__class__") = some true)
  (ex5_NoRow:PySem.W.mroIn K C_NoRow (.type "object") = some true)
  (ex6_NoRow:PySem.W.mroIn K C_NoRow (.type "BaseException") = some true)
  (sO:PySem.W.exmOne K (.ref C_NoRow) (.ref C_NoRow) = some true)
 :∃ fd:FuncData,(∀ (s:Shared) (v:Value),BindsTo s fd ⟨[v],[]⟩ [("_law_script",v)])/\∀ base:Heap,K.In base->base.Ns mainGlobals mg->jK l.prog w K mg base CX0 151 fa fd ["_law_script"] (tK K sp_law):=by
 have e:=hfa.symm.trans (PySem.W.mg_of X G a62)
 cases e
 have H0:=b0.has X G (ps:=["one","other"]) fun _ _ _ _ _ _ us hl=>by obtain ⟨_,_,rfl⟩:=us2 hl;rfl
 have H1:=b1.has X G (ps:=["one","other"]) fun _ _ _ _ _ _ us hl=>by obtain ⟨_,_,rfl⟩:=us2 hl;rfl
 have H2:=b2.has X G (ps:=["one","other"]) fun _ _ _ _ _ _ us hl=>by obtain ⟨_,_,rfl⟩:=us2 hl;rfl
 have H3:=b3.has X G (ps:=["one","other"]) fun _ _ _ _ _ _ us hl=>by obtain ⟨_,_,rfl⟩:=us2 hl;rfl
 have H4:=b4.has X G (ps:=["p"]) fun _ _ _ _ _ _ us hl=>by obtain ⟨_,rfl⟩:=us1 hl;rfl
 have H5:=b5.has X G (ps:=["number"]) fun _ _ _ _ _ _ us hl=>by obtain ⟨_,rfl⟩:=us1 hl;rfl
 have H6:=b6.has X G (ps:=["c","p"]) fun _ _ _ _ _ _ us hl=>by obtain ⟨_,_,rfl⟩:=us2 hl;rfl
 have H7:=b7.has X G (ps:=["c","p","q"]) fun _ _ _ _ _ _ us hl=>by obtain ⟨_,_,_,rfl⟩:=us3 hl;rfl
 have H8:=b8.has X G (ps:=[]) fun _ _ _ _ _ _ us hl=>by obtain rfl:=us0 hl;rfl
 have H9:=b9.has X G (ps:=["_law_top","_law_bottom"]) fun _ _ _ _ _ _ us hl=>by obtain ⟨_,_,rfl⟩:=us2 hl;rfl
 have H10:=b10.has X G (ps:=["_law_one","_law_other"]) fun _ _ _ _ _ _ us hl=>by obtain ⟨_,_,rfl⟩:=us2 hl;rfl
 have H11:=b11.has X G (ps:=["_law_one","_law_other"]) fun _ _ _ _ _ _ us hl=>by obtain ⟨_,_,rfl⟩:=us2 hl;rfl
 have H12:=b12.has X G (ps:=["_law_one","_law_other"]) fun _ _ _ _ _ _ us hl=>by obtain ⟨_,_,rfl⟩:=us2 hl;rfl
 have H13:=b13.has X G (ps:=["_law_rows"]) fun _ _ _ _ _ _ us hl=>by obtain ⟨_,rfl⟩:=us1 hl;rfl
 have H14:=b14.has X G (ps:=["_law_rows"]) fun _ _ _ _ _ _ us hl=>by obtain ⟨_,rfl⟩:=us1 hl;rfl
 have H15:=b15.has X G (ps:=["_law_rows"]) fun _ _ _ _ _ _ us hl=>by obtain ⟨_,rfl⟩:=us1 hl;rfl
 have H16:=b16.has X G (ps:=["_law_rows"]) fun _ _ _ _ _ _ us hl=>by obtain ⟨_,rfl⟩:=us1 hl;rfl
 have H17:=b17.has X G (ps:=["_law_stack"]) fun _ _ _ _ _ _ us hl=>by obtain ⟨_,rfl⟩:=us1 hl;rfl
 have H18:=b18.has X G (ps:=["place","turns"]) fun _ _ _ _ _ _ us hl=>by obtain ⟨_,_,rfl⟩:=us2 hl;rfl
 have H19:=b19.has X G (ps:=["row"]) fun _ _ _ _ _ _ us hl=>by obtain ⟨_,rfl⟩:=us1 hl;rfl
 have H20:=b20.has X G (ps:=["row"]) fun _ _ _ _ _ _ us hl=>by obtain ⟨_,rfl⟩:=us1 hl;rfl
 have H21:=b21.has X G (ps:=["row"]) fun _ _ _ _ _ _ us hl=>by obtain ⟨_,rfl⟩:=us1 hl;rfl
 have H22:=b22.has X G (ps:=["row"]) fun _ _ _ _ _ _ us hl=>by obtain ⟨_,rfl⟩:=us1 hl;rfl
 have H23:=b23.has X G (ps:=["row"]) fun _ _ _ _ _ _ us hl=>by obtain ⟨_,rfl⟩:=us1 hl;rfl
 have H24:=b24.has X G (ps:=["row"]) fun _ _ _ _ _ _ us hl=>by obtain ⟨_,rfl⟩:=us1 hl;rfl
 have H25:=b25.has X G (ps:=["row"]) fun _ _ _ _ _ _ us hl=>by obtain ⟨_,rfl⟩:=us1 hl;rfl
 have H26:=b26.has X G (ps:=["row"]) fun _ _ _ _ _ _ us hl=>by obtain ⟨_,rfl⟩:=us1 hl;rfl
 have H27:=b27.has X G (ps:=["row"]) fun _ _ _ _ _ _ us hl=>by obtain ⟨_,rfl⟩:=us1 hl;rfl
 have H28:=b28.has X G (ps:=["row"]) fun _ _ _ _ _ _ us hl=>by obtain ⟨_,rfl⟩:=us1 hl;rfl
 have H29:=b29.has X G (ps:=["row"]) fun _ _ _ _ _ _ us hl=>by obtain ⟨_,rfl⟩:=us1 hl;rfl
 have H30:=b30.has X G (ps:=["row"]) fun _ _ _ _ _ _ us hl=>by obtain ⟨_,rfl⟩:=us1 hl;rfl
 have H31:=b31.has X G (ps:=["row"]) fun _ _ _ _ _ _ us hl=>by obtain ⟨_,rfl⟩:=us1 hl;rfl
 have H32:=b32.has X G (ps:=["row"]) fun _ _ _ _ _ _ us hl=>by obtain ⟨_,rfl⟩:=us1 hl;rfl
 have H33:=b33.has X G (ps:=["rows"]) fun _ _ _ _ _ _ us hl=>by obtain ⟨_,rfl⟩:=us1 hl;rfl
 have H34:=b34.has X G (ps:=["_law_cell","_law_many"]) fun _ _ _ _ _ _ us hl=>by obtain ⟨_,_,rfl⟩:=us2 hl;rfl
 have H35:=b35.has X G (ps:=["_law_row_here"]) fun _ _ _ _ _ _ us hl=>by obtain ⟨_,rfl⟩:=us1 hl;rfl
 have H36:=b36.has X G (ps:=["_law_row_here"]) fun _ _ _ _ _ _ us hl=>by obtain ⟨_,rfl⟩:=us1 hl;rfl
 have H37:=b37.has X G (ps:=["_law_cells"]) fun _ _ _ _ _ _ us hl=>by obtain ⟨_,rfl⟩:=us1 hl;rfl
 have H38:=b38.has X G (ps:=["rows"]) fun _ _ _ _ _ _ us hl=>by obtain ⟨_,rfl⟩:=us1 hl;rfl
 have H39:=b39.has X G (ps:=["program"]) fun _ _ _ _ _ _ us hl=>by obtain ⟨_,rfl⟩:=us1 hl;rfl
 have H40:=b40.has X G (ps:=["number"]) fun _ _ _ _ _ _ us hl=>by obtain ⟨_,rfl⟩:=us1 hl;rfl
 have H41:=b41.has X G (ps:=["thing"]) fun _ _ _ _ _ _ us hl=>by obtain ⟨_,rfl⟩:=us1 hl;rfl
 have H42:=b42.has X G (ps:=["top","bottom"]) fun _ _ _ _ _ _ us hl=>by obtain ⟨_,_,rfl⟩:=us2 hl;rfl
 have H43:=b43.has X G (ps:=["thing"]) fun _ _ _ _ _ _ us hl=>by obtain ⟨_,rfl⟩:=us1 hl;rfl
 have H44:=b44.has X G (ps:=["word"]) fun _ _ _ _ _ _ us hl=>by obtain ⟨_,rfl⟩:=us1 hl;rfl
 have H45:=b45.has X G (ps:=["thing"]) fun _ _ _ _ _ _ us hl=>by obtain ⟨_,rfl⟩:=us1 hl;rfl
 have H46:=b46.has X G (ps:=["row"]) fun _ _ _ _ _ _ us hl=>by obtain ⟨_,rfl⟩:=us1 hl;rfl
 have H47:=b47.has X G (ps:=["thing"]) fun _ _ _ _ _ _ us hl=>by obtain ⟨_,rfl⟩:=us1 hl;rfl
 have H48:=b48.has X G (ps:=["thing"]) fun _ _ _ _ _ _ us hl=>by obtain ⟨_,rfl⟩:=us1 hl;rfl
 have H49:=b49.has X G (ps:=["block","around"]) fun _ _ _ _ _ _ us hl=>by obtain ⟨_,_,rfl⟩:=us2 hl;rfl
 have H50:=b50.has X G (ps:=["rows"]) fun _ _ _ _ _ _ us hl=>by obtain ⟨_,rfl⟩:=us1 hl;rfl
 have H51:=b51.has X G (ps:=["number","n"]) fun _ _ _ _ _ _ us hl=>by obtain ⟨_,_,rfl⟩:=us2 hl;rfl
 have H52:=b52.has X G (ps:=["number","n"]) fun _ _ _ _ _ _ us hl=>by obtain ⟨_,_,rfl⟩:=us2 hl;rfl
 have H53:=b53.has X G (ps:=["rows"]) fun _ _ _ _ _ _ us hl=>by obtain ⟨_,rfl⟩:=us1 hl;rfl
 have H54:=b54.has X G (ps:=["rows"]) fun _ _ _ _ _ _ us hl=>by obtain ⟨_,rfl⟩:=us1 hl;rfl
 have H55:=b55.has X G (ps:=["rows","number","around"]) fun _ _ _ _ _ _ us hl=>by obtain ⟨_,_,_,rfl⟩:=us3 hl;rfl
 have H56:=b56.has X G (ps:=["rows"]) fun _ _ _ _ _ _ us hl=>by obtain ⟨_,rfl⟩:=us1 hl;rfl
 have H57:=b57.has X G (ps:=["_law_rows"]) fun _ _ _ _ _ _ us hl=>by obtain ⟨_,rfl⟩:=us1 hl;rfl
 have H58:=b58.has X G (ps:=["_law_row_here","_law_deep","_law_within"]) fun _ _ _ _ _ _ us hl=>by obtain ⟨_,_,_,rfl⟩:=us3 hl;rfl
 have H59:=b59.has X G (ps:=["_law_rows","_law_number","_law_deep","_law_within"]) fun _ _ _ _ _ _ us hl=>by obtain ⟨_,_,_,_,rfl⟩:=us4 hl;rfl
 have H60:=b60.has X G (ps:=["_law_row_here","_law_numbers"]) fun _ _ _ _ _ _ us hl=>by obtain ⟨_,_,rfl⟩:=us2 hl;rfl
 have H61:=b61.has X G (ps:=["_law_rows","_law_at","_law_numbers"]) fun _ _ _ _ _ _ us hl=>by obtain ⟨_,_,_,rfl⟩:=us3 hl;rfl
 have F62:=fun_mk (st:=sX) l62 c62 k62
 have lU:=PySem.W.mg_none_of X G z_abs
 have aEL:=PySem.W.mg_none_of X G z_all
 have uR:=PySem.W.mg_none_of X G z_bool
 have iO:=PySem.W.mg_none_of X G z_int
 have bH:=PySem.W.mg_none_of X G z_isinstance
 have dZ:=PySem.W.mg_none_of X G z_len
 have aEj:=PySem.W.mg_none_of X G z_max
 have aEd:=PySem.W.mg_none_of X G z_min
 have jZ:=PySem.W.mg_none_of X G z_range
 have aEX:=PySem.W.mg_none_of X G z_str
 have cY:=PySem.W.mg_none_of X G z_tuple
 have aAk:aHc w K mg "DEEDS" [("go","go_deed"),("skip","skip_deed"),("side","side_deed"),("dot","dot_deed"),("left","left_deed"),("right","right_deed"),("round","round_deed"),("mirror","mirror_deed"),("grow","grow_deed"),("quarter","quarter_deed"),("half","half_deed"),("arc","arc_deed")]:=⟨_,_,_,PySem.W.mg_of X G at_DEEDS,lt_DEEDS,kt_DEEDS,fun k n e=>by
  by_cases c_go:k = "go"
  ·subst c_go;cases e;exact ⟨_,et_DEEDS_go,PySem.W.mg_of X G b20.1⟩
  by_cases c_skip:k = "skip"
  ·subst c_skip;cases e;exact ⟨_,et_DEEDS_skip,PySem.W.mg_of X G b21.1⟩
  by_cases c_side:k = "side"
  ·subst c_side;cases e;exact ⟨_,et_DEEDS_side,PySem.W.mg_of X G b19.1⟩
  by_cases c_dot:k = "dot"
  ·subst c_dot;cases e;exact ⟨_,et_DEEDS_dot,PySem.W.mg_of X G b22.1⟩
  by_cases c_left:k = "left"
  ·subst c_left;cases e;exact ⟨_,et_DEEDS_left,PySem.W.mg_of X G b23.1⟩
  by_cases c_right:k = "right"
  ·subst c_right;cases e;exact ⟨_,et_DEEDS_right,PySem.W.mg_of X G b25.1⟩
  by_cases c_round:k = "round"
  ·subst c_round;cases e;exact ⟨_,et_DEEDS_round,PySem.W.mg_of X G b24.1⟩
  by_cases c_mirror:k = "mirror"
  ·subst c_mirror;cases e;exact ⟨_,et_DEEDS_mirror,PySem.W.mg_of X G b26.1⟩
  by_cases c_grow:k = "grow"
  ·subst c_grow;cases e;exact ⟨_,et_DEEDS_grow,PySem.W.mg_of X G b27.1⟩
  by_cases c_quarter:k = "quarter"
  ·subst c_quarter;cases e;exact ⟨_,et_DEEDS_quarter,PySem.W.mg_of X G b28.1⟩
  by_cases c_half:k = "half"
  ·subst c_half;cases e;exact ⟨_,et_DEEDS_half,PySem.W.mg_of X G b29.1⟩
  by_cases c_arc:k = "arc"
  ·subst c_arc;cases e;exact ⟨_,et_DEEDS_arc,PySem.W.mg_of X G b30.1⟩
  simp only [List.lookup,beq_eq_false_iff_ne.mpr c_go,beq_eq_false_iff_ne.mpr c_skip,beq_eq_false_iff_ne.mpr c_side,beq_eq_false_iff_ne.mpr c_dot,beq_eq_false_iff_ne.mpr c_left,beq_eq_false_iff_ne.mpr c_right,beq_eq_false_iff_ne.mpr c_round,beq_eq_false_iff_ne.mpr c_mirror,beq_eq_false_iff_ne.mpr c_grow,beq_eq_false_iff_ne.mpr c_quarter,beq_eq_false_iff_ne.mpr c_half,beq_eq_false_iff_ne.mpr c_arc] at e;cases e⟩
 have uJ:aDo w K mg "NUMBERS" aES aGS:=by
  refine ⟨_,_,_,PySem.W.mg_of X G at_NUMBERS,am_NUMBERS,lt_NUMBERS,kt_NUMBERS,?_,?_⟩
  ·intro k n e
   unfold aES at e
   by_cases c_go:k = "go"
   ·subst c_go;cases e;exact ⟨_,et_NUMBERS_go⟩
   by_cases c_skip:k = "skip"
   ·subst c_skip;cases e;exact ⟨_,et_NUMBERS_skip⟩
   by_cases c_side:k = "side"
   ·subst c_side;cases e;exact ⟨_,et_NUMBERS_side⟩
   by_cases c_dot:k = "dot"
   ·subst c_dot;cases e;exact ⟨_,et_NUMBERS_dot⟩
   by_cases c_left:k = "left"
   ·subst c_left;cases e;exact ⟨_,et_NUMBERS_left⟩
   by_cases c_right:k = "right"
   ·subst c_right;cases e;exact ⟨_,et_NUMBERS_right⟩
   by_cases c_round:k = "round"
   ·subst c_round;cases e;exact ⟨_,et_NUMBERS_round⟩
   by_cases c_mirror:k = "mirror"
   ·subst c_mirror;cases e;exact ⟨_,et_NUMBERS_mirror⟩
   by_cases c_grow:k = "grow"
   ·subst c_grow;cases e;exact ⟨_,et_NUMBERS_grow⟩
   by_cases c_quarter:k = "quarter"
   ·subst c_quarter;cases e;exact ⟨_,et_NUMBERS_quarter⟩
   by_cases c_half:k = "half"
   ·subst c_half;cases e;exact ⟨_,et_NUMBERS_half⟩
   by_cases c_arc:k = "arc"
   ·subst c_arc;cases e;exact ⟨_,et_NUMBERS_arc⟩
   simp only [List.lookup,beq_eq_false_iff_ne.mpr c_go,beq_eq_false_iff_ne.mpr c_skip,beq_eq_false_iff_ne.mpr c_side,beq_eq_false_iff_ne.mpr c_dot,beq_eq_false_iff_ne.mpr c_left,beq_eq_false_iff_ne.mpr c_right,beq_eq_false_iff_ne.mpr c_round,beq_eq_false_iff_ne.mpr c_mirror,beq_eq_false_iff_ne.mpr c_grow,beq_eq_false_iff_ne.mpr c_quarter,beq_eq_false_iff_ne.mpr c_half,beq_eq_false_iff_ne.mpr c_arc] at e;cases e
  ·intro k hk
   unfold aGS at hk
   simp only [List.mem_cons,List.not_mem_nil,or_false] at hk
   rcases hk with rfl | rfl | rfl | rfl
   ·exact en_NUMBERS_again
   ·exact en_NUMBERS_keep
   ·exact en_NUMBERS_ever
   ·exact en_NUMBERS_none
 have f_NoRow:yP K C_NoRow "row":=⟨fa_NoRow,fc_NoRow,fm_NoRow,fn_NoRow⟩
 have aAM:aCx K C_NoRow:=⟨ex0_NoRow,ex1_NoRow,ex2_NoRow,ex3_NoRow,ex4_NoRow,ex5_NoRow,ex6_NoRow⟩
 have uL:aGL K mg "TooMuch" C_TooMuch:=⟨PySem.W.mg_of X G ac_TooMuch,xc_TooMuch⟩
 have kL:eY K mg "LEAST_CHANGE" (.tup [.int 3,.int 4]):=⟨_,.ref GLEAST_CHANGE,PySem.W.mg_of X G ag_LEAST_CHANGE,rfl,fun H=>(cK (xs:=[.int (3),.int (4)]) (.inr ⟨_,_,_,lGLEAST_CHANGE,rfl,rfl,by show (2:Nat)<=sizeLine;decide,(.cons ⟨_,rfl⟩ (.cons ⟨_,rfl⟩ .nil))⟩) (cJ bL (cJ bL dF)))⟩
 have bB:eY K mg "MIDDLE" sG:=⟨_,.ref GMIDDLE,PySem.W.mg_of X G ag_MIDDLE,rfl,fun H=>(cK (xs:=[.ref GMIDDLE_0,.ref GMIDDLE_1]) (.inr ⟨_,_,_,lGMIDDLE,rfl,rfl,by show (2:Nat)<=sizeLine;decide,(.cons rfl (.cons rfl .nil))⟩) (cJ (cK (xs:=[.int (0),.int (1)]) (.inr ⟨_,_,_,lGMIDDLE_0,rfl,rfl,by show (2:Nat)<=sizeLine;decide,(.cons ⟨_,rfl⟩ (.cons ⟨_,rfl⟩ .nil))⟩) (cJ bL (cJ bL dF))) (cJ (cK (xs:=[.int (0),.int (1)]) (.inr ⟨_,_,_,lGMIDDLE_1,rfl,rfl,by show (2:Nat)<=sizeLine;decide,(.cons ⟨_,rfl⟩ (.cons ⟨_,rfl⟩ .nil))⟩) (cJ bL (cJ bL dF))) dF)))⟩
 have nF:eY K mg "MOST_AGAIN" (.int 12):=⟨_,.int 12,PySem.W.mg_of X G ag_MOST_AGAIN,⟨_,rfl⟩,fun H=>bL⟩
 have lQ:eY K mg "MOST_BLOCKS" (.int 4):=⟨_,.int 4,PySem.W.mg_of X G ag_MOST_BLOCKS,⟨_,rfl⟩,fun H=>bL⟩
 have iJ:eY K mg "MOST_IN_A_ROUND" (.int 300):=⟨_,.int 300,PySem.W.mg_of X G ag_MOST_IN_A_ROUND,⟨_,rfl⟩,fun H=>bL⟩
 have iF:eY K mg "MOST_IN_GROW" (.int 12):=⟨_,.int 12,PySem.W.mg_of X G ag_MOST_IN_GROW,⟨_,rfl⟩,fun H=>bL⟩
 have gY:eY K mg "MOST_ROWS" (.int 60):=⟨_,.int 60,PySem.W.mg_of X G ag_MOST_ROWS,⟨_,rfl⟩,fun H=>bL⟩
 have dJ:eY K mg "NOTHING" aBU:=⟨_,.ref GNOTHING,PySem.W.mg_of X G ag_NOTHING,rfl,fun H=>(cK (xs:=[.int (0),.int (1)]) (.inr ⟨_,_,_,lGNOTHING,rfl,rfl,by show (2:Nat)<=sizeLine;decide,(.cons ⟨_,rfl⟩ (.cons ⟨_,rfl⟩ .nil))⟩) (cJ bL (cJ bL dF)))⟩
 have kO:eY K mg "ONE" aCn:=⟨_,.ref GONE,PySem.W.mg_of X G ag_ONE,rfl,fun H=>(cK (xs:=[.int (1),.int (1)]) (.inr ⟨_,_,_,lGONE,rfl,rfl,by show (2:Nat)<=sizeLine;decide,(.cons ⟨_,rfl⟩ (.cons ⟨_,rfl⟩ .nil))⟩) (cJ bL (cJ bL dF)))⟩
 refine ⟨PySem.W.fnOf "law" "law" (nE sX) (eR sX) (aI sX) .none kV62 dc62 pm62 an62 cd62 ct62,fun s v=>.of_eq rfl,fun base _ _=>?_⟩
 have iZ:qF l.prog w K mg base "NoRow" C_NoRow "row":=by
  obtain ⟨fI,fdI,i1,i2,FI⟩:=in_NoRow
  exact ⟨PySem.W.mg_of X G ac_NoRow,kc_NoRow,ob_NoRow,fI,fdI,"self","row",i1,i2,aF2 FI zN f_NoRow rfl (by first | exact Or.inl rfl | exact Or.inr (Or.inl rfl) | exact Or.inr (Or.inr rfl)) (by first | exact Or.inl rfl | exact Or.inr (Or.inl rfl) | exact Or.inr (Or.inr rfl)) (by decide) (by decide) (by decide) (by decide) (fun _=>rfl) 0,FI.binds (ps:=["self","row"]) fun _ _ _ _ _ _ us hl=>by obtain ⟨_,_,rfl⟩:=us2 hl;rfl⟩
 have aY:=oO (P:=l.prog) (w:=w) (base:=base) H0 lU
 have aCJ:=aEc (P:=l.prog) (w:=w) (base:=base) H1 aY
 have h_times:=aDs (P:=l.prog) (w:=w) (base:=base) H2 aY
 have w_times:=aDR (P:=l.prog) (w:=w) (base:=base) H2 aY
 have aAO:=aDX (P:=l.prog) (w:=w) (base:=base) H3
 have gI:=tD (P:=l.prog) (w:=w) (base:=base) H4
 have aCz:=aFM (P:=l.prog) (w:=w) (base:=base) H5
 have jX:=wL (P:=l.prog) (w:=w) (base:=base) H6 gI
 have uX:=aBC (P:=l.prog) (w:=w) (base:=base) H7 jX aCz
 have aAn:=aDw (P:=l.prog) (w:=w) (base:=base) H8 bB kO
 have bG:=yN (P:=l.prog) (w:=w) (base:=base) H9 lU
 have w_law_ratio:=yQ (P:=l.prog) (w:=w) (base:=base) H9 lU
 have iR:=aAW (P:=l.prog) (w:=w) (base:=base) H10 bG
 have bZ:=zK (P:=l.prog) (w:=w) (base:=base) H11 bG
 have w_law_times:=yR (P:=l.prog) (w:=w) (base:=base) H11 w_law_ratio
 have eW:=zC (P:=l.prog) (w:=w) (base:=base) H12 bG
 have cQ:=aBf (P:=l.prog) (w:=w) (base:=base) H13
 have dE:=zM (P:=l.prog) (w:=w) (base:=base) H14
 have fE:=aA9 (P:=l.prog) (w:=w) (base:=base) H15 jZ bZ
 have w_law_size:=aAD (P:=l.prog) (w:=w) (base:=base) H15 jZ w_law_times
 have dW:=qS (P:=l.prog) (w:=w) (base:=base) H16 cQ fE dE
 have w_law_is_endless:=rG (P:=l.prog) (w:=w) (base:=base) H16 cQ w_law_size dE
 have lA:=yT (P:=l.prog) (w:=w) (base:=base) H17 iO cY cQ dW dE
 have bE:=aBg (P:=l.prog) (w:=w) (base:=base) H18 kO
 have hG:=zA (P:=l.prog) (w:=w) (base:=base) H19 bB bE
 have uN:=aBl (P:=l.prog) (w:=w) (base:=base) H20 dJ hG
 have oM:=zF (P:=l.prog) (w:=w) (base:=base) H21 dJ bE
 have rS:=aAi (P:=l.prog) (w:=w) (base:=base) H22 bB aAn
 have oP:=zD (P:=l.prog) (w:=w) (base:=base) H23 bB bE
 have nG:=wH (P:=l.prog) (w:=w) (base:=base) H24 bB bE
 have nB:=yB (P:=l.prog) (w:=w) (base:=base) H25 bB bE
 have lM:=vP (P:=l.prog) (w:=w) (base:=base) H26 bB kO
 have pP:=yY (P:=l.prog) (w:=w) (base:=base) H27 bB
 have kG:=uI (P:=l.prog) (w:=w) (base:=base) H28 bB dJ bE
 have oJ:=yU (P:=l.prog) (w:=w) (base:=base) H29 bB dJ aCJ bE
 have rO:=aAN (P:=l.prog) (w:=w) (base:=base) H30 bB bE
 have tU:=aBX (P:=l.prog) (w:=w) (base:=base) H31 aAk uN hG oM rS oP nG nB lM pP kG oJ rO
 have bS:=vT (P:=l.prog) (w:=w) (base:=base) H32
 have w_rows_within:=vM (P:=l.prog) (w:=w) (base:=base) H32
 have fH:=sZ (P:=l.prog) (w:=w) (base:=base) H33 bS
 have kC:=aBs (P:=l.prog) (w:=w) (base:=base) H34 lU jZ
 have tZ:=aCa (P:=l.prog) (w:=w) (base:=base) H35 eW bG iR bZ aEd
 have oQ:=zB (P:=l.prog) (w:=w) (base:=base) H36 iO eW bG tZ
 have lE:=vQ (P:=l.prog) (w:=w) (base:=base) H37 dZ cY kC oQ lA cQ
 have cX:=tL (P:=l.prog) (w:=w) (base:=base) H38 dZ bS
 have eV:=tT (P:=l.prog) (w:=w) (base:=base) H39 gY cX
 have x_not_too_long:=uG (P:=l.prog) (w:=w) (base:=base) H39 uL gY cX
 have qU:=aA1 (P:=l.prog) (w:=w) (base:=base) H40 iF
 have gM:=aAP (P:=l.prog) (w:=w) (base:=base) H41 bH iO uR
 have mS:=wQ (P:=l.prog) (w:=w) (base:=base) H42 aY
 have lR:=vV (P:=l.prog) (w:=w) (base:=base) H43 bH cY dZ gM mS
 have iV:=rP (P:=l.prog) (w:=w) (base:=base) H44 uJ
 have gZ:=zG (P:=l.prog) (w:=w) (base:=base) H45 bH cY aEX dZ
 have uH:=aB2 (P:=l.prog) (w:=w) (base:=base) H46 bB uX
 have eB:=tN (P:=l.prog) (w:=w) (base:=base) H47 dZ aEL gZ iV lR qU uH
 have gO:=aA6 (P:=l.prog) (w:=w) (base:=base) H48 bH cY dZ nF gZ gM
 have gP:=aAQ (P:=l.prog) (w:=w) (base:=base) H49 dZ lQ
 have sM:=aD7 (P:=l.prog) (w:=w) (base:=base) H50 bS tU
 have eT:=uS (P:=l.prog) (w:=w) (base:=base) H51
 have wN:=aCu (P:=l.prog) (w:=w) (base:=base) H52 eT
 have jG:=yV (P:=l.prog) (w:=w) (base:=base) H53 kO w_times wN
 have fV:=yX (P:=l.prog) (w:=w) (base:=base) H54 iJ kO kL fH sM jG aAO
 have cL:=lW (P:=l.prog) (w:=w) (base:=base) H55 eB gO gP w_rows_within fV 8 (by decide)
 have fR:=tR (P:=l.prog) (w:=w) (base:=base) H55 iZ eB gO gP w_rows_within fV 8 (by decide)
 have mM:=yK (P:=l.prog) (w:=w) (base:=base) H56 cL eV
 have mT:=xI (P:=l.prog) (w:=w) (base:=base) H56 iZ fR cL eV
 have mX:=aAC (P:=l.prog) (w:=w) (base:=base) H57 iZ aAM f_NoRow sO mM mT
 have kJ:=uD (P:=l.prog) (w:=w) (base:=base) H58 bH cY dZ iO uR
 have gQ:=zE (P:=l.prog) (w:=w) (base:=base) H59 dZ kJ w_law_is_endless 8 (by decide)
 have rQ:=aBh (P:=l.prog) (w:=w) (base:=base) H60 bG
 have lT:=aBn (P:=l.prog) (w:=w) (base:=base) H61 cY rQ
 exact aF8 (P:=l.prog) (w:=w) (base:=base) F62 aEj iO kC lE lT gQ mX
end Lw
def PySem.W.Fast.tw17541054840178461152:Unit:=()
def PySem.W.Fast.tw14920549153132772450:Unit:=()
def PySem.W.Fast.tw9591866969308689603:Unit:=()
def PySem.W.Fast.tw49650144521370631:Unit:=()
def PySem.W.Fast.tw13812648848044482343:Unit:=()
def PySem.W.Fast.tw9907477755894759560:Unit:=()
def PySem.W.Fast.tw1860320260846140264:Unit:=()
def PySem.W.Fast.tw11452613907377153353:Unit:=()
def PySem.W.Fast.tw6338227854487011402:Unit:=()
def PySem.W.Fast.tw8375905560130324778:Unit:=()
def PySem.W.Fast.tw6679098315801495914:Unit:=()
def PySem.W.Fast.tw18039555370358984523:Unit:=()
def PySem.W.Fast.tw12452434235394216110:Unit:=()
def PySem.W.Fast.tw7106156146505353582:Unit:=()
def PySem.W.Fast.tw15767809168159930543:Unit:=()
def PySem.W.Fast.tw1170611619245571951:Unit:=()
def PySem.W.Fast.tw8713932856975102035:Unit:=()
def PySem.W.Fast.tw13191776237280719379:Unit:=()
def PySem.W.Fast.tw648824977012565268:Unit:=()
def PySem.W.Fast.tw4459332086696163480:Unit:=()
def PySem.W.Fast.tw10553689766729455288:Unit:=()
def PySem.W.Fast.tw2090360307569480793:Unit:=()
def PySem.W.Fast.tw9211870729260177980:Unit:=()
def PySem.W.Fast.tw9647117025326787581:Unit:=()
def PySem.W.Fast.tw4606532645200045726:Unit:=()
def PySem.W.Fast.tw6183516027549542530:Unit:=()
def PySem.W.Fast.tw5038435078371579264:Unit:=()
def PySem.W.Fast.tw16102240992521291505:Unit:=()
def PySem.W.Fast.tw16166190727496614060:Unit:=()
def PySem.W.Fast.tw13061823343468952483:Unit:=()
def PySem.W.Fast.tw17972541377884838615:Unit:=()
def PySem.W.Fast.tw3352775946653760558:Unit:=()
def PySem.W.Fast.tw15370843018595842937:Unit:=()
def PySem.W.Fast.tw3242426103102463493:Unit:=()
def PySem.W.Fast.tw16752953536546412552:Unit:=()
def PySem.W.Fast.tw16993999656849680728:Unit:=()
def PySem.W.Fast.tw6593792491310777297:Unit:=()
def PySem.W.Fast.tw12231338614948161817:Unit:=()
def PySem.W.Fast.tw13578631792702076251:Unit:=()
def PySem.W.Fast.tw17378263377917762558:Unit:=()
def PySem.W.Fast.tw3406534923403284517:Unit:=()
def PySem.W.Fast.tw2209320649065680689:Unit:=()
def PySem.W.Fast.tw15644743540208069440:Unit:=()
def PySem.W.Fast.tw11070820533883295039:Unit:=()
def PySem.W.Fast.tw15210072699424294622:Unit:=()
def PySem.W.Fast.tw13301543332346497350:Unit:=()
def PySem.W.Fast.tw6794048996696869235:Unit:=()
def PySem.W.Fast.tw13455984486122158465:Unit:=()
def PySem.W.Fast.tw2108913686183759347:Unit:=()
def PySem.W.Fast.tw7076387669962028922:Unit:=()
def PySem.W.Fast.tw14369410098167436763:Unit:=()
def PySem.W.Fast.tw3150695829689113334:Unit:=()
def PySem.W.Fast.tw4749502077417300149:Unit:=()
def PySem.W.Fast.tw13755778532744657929:Unit:=()
def PySem.W.Fast.tw1587103615178437491:Unit:=()
def PySem.W.Fast.tw1149894742237312373:Unit:=()
def PySem.W.Fast.tw2084235775962747411:Unit:=()
def PySem.W.Fast.tw10059336055303629702:Unit:=()
def PySem.W.Fast.tw12854610744728551072:Unit:=()
def PySem.W.Fast.tw14003177233242076147:Unit:=()
def PySem.W.Fast.tw8153783803688691718:Unit:=()
def PySem.W.Fast.tw1644062751263821708:Unit:=()
def PySem.W.Fast.tw10265949850376752016:Unit:=()
def PySem.W.Fast.tw2351490554939071376:Unit:=()
def PySem.W.Fast.tw17149148030663584271:Unit:=()
def PySem.W.Fast.tw6134791692889865426:Unit:=()
def PySem.W.Fast.tw14567023900705725816:Unit:=()
def PySem.W.Fast.tw4160468993167402090:Unit:=()
def PySem.W.Fast.tw11741815157476807932:Unit:=()
def PySem.W.Fast.tw9374675345342748141:Unit:=()
def PySem.W.Fast.tw17340027422961640981:Unit:=()
def PySem.W.Fast.tw16437138758602173362:Unit:=()
def PySem.W.Fast.tw9409002378206271707:Unit:=()
def PySem.W.Fast.tw15125253446861750526:Unit:=()
def PySem.W.Fast.tw2157612972286551074:Unit:=()
def PySem.W.Fast.tw6058180465703530982:Unit:=()
def PySem.W.Fast.tw553393966041136877:Unit:=()
def PySem.W.Fast.tw7143068549533056131:Unit:=()
def PySem.W.Fast.tw2908728015451991687:Unit:=()
def PySem.W.Fast.tw626447307222342057:Unit:=()
open PySem PySem.W PyProof.Rows
set_option maxRecDepth 100000 in
set_option maxHeartbeats 0 in
theorem PySem.Challenge.cw_arcmill_k21_programs_by_form_holds : PySem.Challenge.rw_arcmill_k21_programs_by_form.Holds := by
 w_on;o_law;k_head;(case hw=>w_witness2)
 k_fill
 refine Dd.walk_ofD (l:=PySem.Challenge.rw_arcmill_k21_programs_by_form) (n:=63) (k:=151) (x:="_law_script") (sp:=Lw.sp_law) rfl (by decide) rfl ⟨rfl,by decide,by decide⟩ (fun w h Y=>PySem.W.kIn_of Y) ?F Lw.law_here
 case F =>
  intro w mg fa h KX G hmg
  refine' Lw.all_mk KX G hmg ?b0 ?b1 ?b2 ?b3 ?b4 ?b5 ?b6 ?b7 ?b8 ?b9 ?b10 ?b11 ?b12 ?b13 ?b14 ?b15 ?b16 ?b17 ?b18 ?b19 ?b20 ?b21 ?b22 ?b23 ?b24 ?b25 ?b26 ?b27 ?b28 ?b29 ?b30 ?b31 ?b32 ?b33 ?b34 ?b35 ?b36 ?b37 ?b38 ?b39 ?b40 ?b41 ?b42 ?b43 ?b44 ?b45 ?b46 ?b47 ?b48 ?b49 ?b50 ?b51 ?b52 ?b53 ?b54 ?b55 ?b56 ?b57 ?b58 ?b59 ?b60 ?b61 ?a62 ?l62 ?c62 ?k62 ?z_abs ?z_all ?z_bool ?z_int ?z_isinstance ?z_len ?z_max ?z_min ?z_range ?z_str ?z_tuple ?at_NUMBERS ?am_NUMBERS ?lt_NUMBERS ?kt_NUMBERS ?et_NUMBERS_go ?et_NUMBERS_skip ?et_NUMBERS_side ?et_NUMBERS_dot ?et_NUMBERS_left ?et_NUMBERS_right ?et_NUMBERS_round ?et_NUMBERS_mirror ?et_NUMBERS_grow ?et_NUMBERS_quarter ?et_NUMBERS_half ?et_NUMBERS_arc ?en_NUMBERS_again ?en_NUMBERS_keep ?en_NUMBERS_ever ?en_NUMBERS_none ?at_DEEDS ?lt_DEEDS ?kt_DEEDS ?et_DEEDS_go ?et_DEEDS_skip ?et_DEEDS_side ?et_DEEDS_dot ?et_DEEDS_left ?et_DEEDS_right ?et_DEEDS_round ?et_DEEDS_mirror ?et_DEEDS_grow ?et_DEEDS_quarter ?et_DEEDS_half ?et_DEEDS_arc ?ag_LEAST_CHANGE ?lGLEAST_CHANGE ?ag_MIDDLE ?lGMIDDLE ?lGMIDDLE_0 ?lGMIDDLE_1 ?ag_MOST_AGAIN ?ag_MOST_BLOCKS ?ag_MOST_IN_A_ROUND ?ag_MOST_IN_GROW ?ag_MOST_ROWS ?ag_NOTHING ?lGNOTHING ?ag_ONE ?lGONE ?ac_NoRow ?kc_NoRow ?ob_NoRow ?in_NoRow ?fa_NoRow ?fc_NoRow ?fm_NoRow ?fn_NoRow ?ac_TooMuch ?xc_TooMuch ?ex0_NoRow ?ex1_NoRow ?ex2_NoRow ?ex3_NoRow ?ex4_NoRow ?ex5_NoRow ?ex6_NoRow ?sO
  (case b0 | b1 | b2 | b3 | b4 | b5 | b6 | b7 | b8 | b9 | b10 | b11 | b12 | b13 | b14 | b15 | b16 | b17 | b18 | b19 | b20 | b21 | b22 | b23 | b24 | b25 | b26 | b27 | b28 | b29 | b30 | b31 | b32 | b33 | b34 | b35 | b36 | b37 | b38 | b39 | b40 | b41 | b42 | b43 | b44 | b45 | b46 | b47 | b48 | b49 | b50 | b51 | b52 | b53 | b54 | b55 | b56 | b57 | b58 | b59 | b60 | b61 =>exact ⟨by k_is,_,L2.fun_mk (by k_is) (by k_is) (by k_is)⟩)
  (case a62 | l62 | c62 | k62 | z_abs | z_all | z_bool | z_int | z_isinstance | z_len | z_max | z_min | z_range | z_str | z_tuple | at_NUMBERS =>k_is)
  (case am_NUMBERS=>decide)
  (case lt_NUMBERS=>k_is)
  (case kt_NUMBERS=>k_keys)
  (case et_NUMBERS_go | et_NUMBERS_skip | et_NUMBERS_side | et_NUMBERS_dot | et_NUMBERS_left | et_NUMBERS_right | et_NUMBERS_round | et_NUMBERS_mirror | et_NUMBERS_grow | et_NUMBERS_quarter | et_NUMBERS_half | et_NUMBERS_arc | en_NUMBERS_again | en_NUMBERS_keep | en_NUMBERS_ever | en_NUMBERS_none | at_DEEDS | lt_DEEDS =>k_is)
  (case kt_DEEDS=>k_keys)
  (case et_DEEDS_go | et_DEEDS_skip | et_DEEDS_side | et_DEEDS_dot | et_DEEDS_left | et_DEEDS_right | et_DEEDS_round | et_DEEDS_mirror | et_DEEDS_grow | et_DEEDS_quarter | et_DEEDS_half | et_DEEDS_arc | ag_LEAST_CHANGE | lGLEAST_CHANGE | ag_MIDDLE | lGMIDDLE | lGMIDDLE_0 | lGMIDDLE_1 | ag_MOST_AGAIN | ag_MOST_BLOCKS | ag_MOST_IN_A_ROUND | ag_MOST_IN_GROW | ag_MOST_ROWS | ag_NOTHING | lGNOTHING | ag_ONE | lGONE | ac_NoRow | kc_NoRow =>k_is)
  (case ob_NoRow=>exact ⟨_,_,_,_,_,_,_,_,_,_,_,_,_,_,_,_,by k_is,by (unfold Dd.bmV;k_exc),_,by k_is,rfl⟩)
  (case in_NoRow=>exact ⟨_,_,by k_is,by k_is,L2.fun_mk (by k_is) (by k_is) (by k_is)⟩)
  (case fa_NoRow=>k_is)
  (case fc_NoRow=>exact ⟨_,by k_is,rfl,rfl⟩)
  (case fm_NoRow | fn_NoRow | ac_TooMuch =>k_is)
  (case xc_TooMuch=>unfold Dd.bmV;k_exc)
  (case ex0_NoRow | ex1_NoRow | ex2_NoRow | ex3_NoRow | ex4_NoRow | ex5_NoRow | ex6_NoRow =>k_is)
  (case sO=>kts_exm)
