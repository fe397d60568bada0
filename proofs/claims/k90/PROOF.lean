import PyProof.Rows.All
import Wide.All
import OpenK.AllK
import Wide.FinOn
import Lean
import PyProof.EqAt
import PyProof.EqKinds
import PyProof.TupleCall
import PyProof.NeKinds
import PyProof.IsRules
import PyProof.CompFree
import KE.LcSums
import PyProof.FactsAll.range_1
import PyProof.SeqRoads2
import KE.KRevSl
import PyProof.ZipIter
import PyProof.TupleIter
import PyProof.FitsBits
import PyProof.NoPylong
import KE.IntBitsLaws
import PyProof.CompMap
import PyProof.AutoSeq1
import PyProof.SeqInW
import KE.KDictList
import PyProof.Rows.TupDisplay
import KE.KSortTup
import PyProof.ListMulRoad
import PyProof.Rows.SumAny
import PySem.Challenge.RW_arcmill_k90_agains_opened
set_option Elab.async false
set_option linter.all false
set_option bootstrap.genMatcherCode false
set_option maxRecDepth 100000
namespace L2
open PySem PySem.Spec PyProof.Rows
noncomputable abbrev Key:=Sum Int Str
noncomputable def aHA:Key->Value->Bool
 | .inl k,v=>Value.isInt k v
 | .inr x,v=>Value.isStrOf x v
noncomputable def aLJ (w:World):Key->Int
 | .inl k=>hashInt k
 | .inr x=>hashStr w x
theorem dS:∀ {k:Key} {v:Value},aHA k v = true->(∃ i t,k = Sum.inl i/\v = Value.int i t) ∨ (∃ x t,k = Sum.inr x/\v = Value.str x t)
 | .inl i,v,h=>by
  obtain ⟨t,e⟩:=Value.isInt_shape (k:=i) (v:=v) h
  exact .inl ⟨i,t,rfl,e⟩
 | .inr x,v,h=>by
  obtain ⟨t,e⟩:=Value.isStrOf_shape (x:=x) (v:=v) h
  exact .inr ⟨x,t,rfl,e⟩
theorem aI3 (a b:Int):decide ((Sum.inl a:Key) = Sum.inl b) = (a == b):=by
 by_cases e:a = b
 ·subst e;simp
 ·have h:¬ (Sum.inl a:Key) = Sum.inl b:=fun q=>e (Sum.inl.inj q)
  rw [decide_eq_false h]
  exact (beq_eq_false_iff_ne.mpr e).symm
theorem aHL (a b:Str):decide ((Sum.inr a:Key) = Sum.inr b) = decide (a = b):=by
 by_cases e:a = b
 ·subst e;simp
 ·have h:¬ (Sum.inr a:Key) = Sum.inr b:=fun q=>e (Sum.inr.inj q)
  rw [decide_eq_false h,decide_eq_false e]
theorem aJA (a:Int) (b:Str):decide ((Sum.inl a:Key) = Sum.inr b) = false:=decide_eq_false (fun q=>nomatch q)
theorem aIp (a:Str) (b:Int):decide ((Sum.inr a:Key) = Sum.inl b) = false:=decide_eq_false (fun q=>nomatch q)
noncomputable def aCo (prog:Program) (w:World):PySem.KeyKind prog w Key where
 is:=aHA
 hash:=aLJ w
 inj:=fun v a b ha hb=>by
  rcases dS ha with ⟨i,t,rfl,rfl⟩ | ⟨x,t,rfl,rfl⟩
  ·rcases dS hb with ⟨j,u,rfl,e⟩ | ⟨y,u,rfl,e⟩
   ·injection e with e1 _;rw [e1]
   ·exact nomatch e
  ·rcases dS hb with ⟨j,u,rfl,e⟩ | ⟨y,u,rfl,e⟩
   ·exact nomatch e
   ·injection e with e1 _;rw [e1]
 byValue:=fun k v h=>by
  rcases dS h with ⟨i,t,rfl,rfl⟩ | ⟨x,t,rfl,rfl⟩<;>rfl
 pyHash:=fun hv h=>by
  rcases dS hv with ⟨i,t,rfl,rfl⟩ | ⟨x,t,rfl,rfl⟩
  ·exact wpAny_pyHash_int h
  ·exact wpAny_pyHash_str h
 eqBool:=fun hu hv h=>by
  rcases dS hu with ⟨i,t,rfl,rfl⟩ | ⟨x,t,rfl,rfl⟩
  ·rcases dS hv with ⟨j,u,rfl,rfl⟩ | ⟨y,u,rfl,rfl⟩
   ·rw [aI3] at h;exact wpAny_eqBool_int h
   ·rw [aJA] at h;exact SeqAt.EqAt.int_str i t y u _ _ _ _ h
  ·rcases dS hv with ⟨j,u,rfl,rfl⟩ | ⟨y,u,rfl,rfl⟩
   ·rw [aIp] at h;exact SeqAt.EqAt.str_int x t j u _ _ _ _ h
   ·rw [aHL] at h;exact wpAny_eqBool_str h
 «strs»:=fun k x t v h=>by
  rcases dS h with ⟨i,u,rfl,e⟩ | ⟨y,u,rfl,e⟩
  ·exact nomatch e
  ·injection e with e1 _
   subst e1
   cases v<;>rfl
end L2
namespace L2
open PySem PySem.Spec PyProof.Rows
inductive V where
 | non | bl (b:Bool) | int (i:Int) | str (x:Str) | byt (b:Array UInt8) | flt (b:UInt64) | ref (a:Addr) | ty (n:String)
 deriving DecidableEq
noncomputable def bW:V->Value->Prop
 | .non,u=>u = Value.none
 | .bl b,u=>u = Value.bool b
 | .int i,u=>∃ t,u = Value.int i t
 | .str x,u=>∃ t,u = Value.str x t
 | .byt b,u=>∃ t,u = Value.bytes b t
 | .flt b,u=>∃ t,u = Value.float b t
 | .ref a,u=>u = Value.ref a
 | .ty n,u=>u = Value.type n
noncomputable abbrev bR:List V->List Value->Prop:=Paired bW
theorem bR.length {xs:List V} {us:List Value} (r:bR xs us):xs.length = us.length:=Paired.length r
theorem bR.get:∀ {xs:List V} {us:List Value} {i:Nat} {x:V},bR xs us->xs[i]? = some x->∃ u,us[i]? = some u/\bW x u
 | _,_,_,_,.nil,e=>by simp at e
 | _,_,0,_,.cons r _,e=>by simp at e;subst e;exact ⟨_,rfl,r⟩
 | _,_,i + 1,x,.cons _ t,e=>by
  obtain ⟨u,h1,h2⟩:=bR.get (i:=i) (x:=x) t (by simpa using e)
  exact ⟨u,by simpa using h1,h2⟩
theorem bR.append:∀ {xs ys:List V} {us ws:List Value},bR xs us->bR ys ws->bR (xs ++ ys) (us ++ ws)
 | _,_,_,_,.nil,s=>s
 | _,_,_,_,.cons r t,s=>.cons r (bR.append t s)
theorem bR.take:∀ {xs:List V} {us:List Value} (n:Nat),bR xs us->bR (xs.take n) (us.take n)
 | _,_,0,_=>.nil
 | _,_,_ + 1,.nil=>.nil
 | _,_,n + 1,.cons r t=>.cons r (bR.take n t)
theorem bR.drop:∀ {xs:List V} {us:List Value} (n:Nat),bR xs us->bR (xs.drop n) (us.drop n)
 | _,_,0,r=>r
 | _,_,_ + 1,.nil=>.nil
 | _,_,n + 1,.cons _ t=>bR.drop n t
noncomputable def aLc:Option V->Option Value->Prop
 | some v,some u=>bW v u
 | none,none=>True
 | _,_=>False
noncomputable def KV {κ:Type}:List (κ × V)->List (κ × Value)->Prop:=Paired fun (p:κ × V) (q:κ × Value)=>p.1 = q.1/\bW p.2 q.2
noncomputable def kV:Key->V
 | .inl i=>.int i
 | .inr x=>.str x
inductive HO where
  | lst (xs:List V)
  | tup (xs:List V)
  | dK (kvs:List (Key × V)) | dT (kvs:List (List Key × V))
  | set (S:Int->Bool) (n:Nat)
  | ins (C dx:Addr) (fs:List (Str × V))
  | own (x:Addr)
  | xd (fs:List (Str × V))
  | met (f x:Addr)
  | rng (lo hi:Int)
  | frz (o:Obj) (u:HO)
  | tbl (ps:Array Value)
  | ext (φ:Heap->Prop)
noncomputable abbrev Hp:=Addr->Option HO
noncomputable def upd (H:Hp) (a:Addr) (o:HO):Hp:=fun b=>if b = a then some o else H b
theorem eJ {H:Hp} {a:Addr} {o:HO}:upd H a o a = some o:=by unfold upd;rw [if_pos rfl]
theorem bU {H:Hp} {a b:Addr} {o:HO} (h:b ≠ a):upd H a o b = H b:=by unfold upd;rw [if_neg h]
theorem aFi {H:Hp} {a b:Addr} {o u:HO} (h:H a = some o) (h':H b = some u) (d:o ≠ u):a ≠ b:=by
 intro e;subst e;rw [h] at h';exact d (Option.some.inj h')
theorem cA {H:Hp} {a b:Addr} {o:HO} (h:H a = some o) (h':H b = none):a ≠ b:=by
 intro e;subst e;rw [h] at h';cases h'
section
variable (P:Program) (w:World)
noncomputable def gJ (H:Hp) (h:Heap) (a:Addr):HO->Prop
 | .lst xs=>xs.length<=sizeLine/\∃ (its:List Value) (n:Nat),bR xs its/\h.get? a = some { cls:=.type "list",data:=.seq its.toArray n }
 | .tup xs=>xs.length<=sizeLine/\∃ its:List Value,bR xs its/\IsTup h a its.toArray
 | .dK kvs=>kvs.length<=sizeLine/\(a == sysModules) = false/\∃ vs,KV kvs vs/\h.DictOf (aCo P w) a vs
 | .dT kvs=>kvs.length<=sizeLine/\(a == sysModules) = false/\∃ xs:List (List Key × Addr × Value),
   Paired (fun (p:List Key × V) (q:List Key × Addr × Value)=>p.1 = q.1/\H q.2.1 = some (.tup (p.1.map kV))/\bW p.2 q.2.2) kvs xs /\
   ∃ o es ep,h.get? a = some o/\o.ExactDict/\o.data = .dict es ep/\es.toList = xs.map (entryOfKey (tupleKind (aCo P w)))/\(xs.map (·.1)).Nodup
 | .set S n=>h.SetOf (intKind P w) a S n
 | .ins C dx fs=>H dx = some (.own a)/\fs.length<=1000/\dx ≠ a/\h.get? a = some (PySem.W.instObj C dx) /\
   ∃ mA,h.Ns1 dx mA/\(∀ f,aLc (fs.lookup f) (mA f))/\PySem.Within mA (fs.map (·.1))
 | .own _=>∃ o,h.get? a = some o
 | .xd fs=>∃ mA,h.Ns1 a mA/\∀ f,aLc (fs.lookup f) (mA f)
 | .rng lo hi=>∃ t u v,h.get? a = some { cls:=.type "range",data:=.fields #[.int lo t,.int hi u,.int 1 v] }
 | .frz o u=>h.get? a = some o/\gJ H h a u
 | .tbl ps=>h.get? a = some { cls:=.none,data:=.fields ps }
 | .met f x=>h.get? a = some (PySem.W.methodObj (.ref f) (.ref x))
 | .ext φ=>φ h/\(∃ o,h.get? a = some o)/\∀ h1 h2:Heap,φ h1->(∀ o,h1.get? a = some o->h2.get? a = some o)->φ h2
noncomputable def HOk (H:Hp) (h:Heap):Prop:=∀ a o,H a = some o->gJ P w H h a o
end
section
variable {P:Program} {w:World} {H H':Hp} {h h':Heap} {a:Addr} {o:HO}
theorem gJ.lt (x:gJ P w H h a o):a < h.objs.size:=by
 cases o with
 | lst xs=>obtain ⟨_,_,_,_,e⟩:=x;exact Heap.lt_size e
 | tup xs=>obtain ⟨_,_,_,p⟩:=x;exact p.lt
 | dK kvs=>obtain ⟨_,_,_,_,o,_,_,e,_⟩:=x;exact Heap.lt_size e
 | dT kvs=>obtain ⟨_,_,_,_,o,_,_,e,_⟩:=x;exact Heap.lt_size e
 | set S n=>obtain ⟨o,_,_,_,e,_⟩:=x;exact Heap.lt_size e
 | ins C dx fs=>obtain ⟨_,_,_,e,_⟩:=x;exact Heap.lt_size e
 | own y=>obtain ⟨_,e⟩:=x;exact Heap.lt_size e
 | xd fs=>obtain ⟨_,⟨_,_,_,e,_⟩,_⟩:=x;exact Heap.lt_size e
 | rng lo hi=>obtain ⟨_,_,_,e⟩:=x;exact Heap.lt_size e
 | frz ob u=>obtain ⟨e,_⟩:=x;exact Heap.lt_size e
 | tbl ps=>exact Heap.lt_size (show h.get? a = some _ from x)
 | met f y=>exact Heap.lt_size (show h.get? a = some _ from x)
 | ext φ=>obtain ⟨_,⟨_,e⟩,_⟩:=x;exact Heap.lt_size e
theorem Paired.mapP {α β:Type} {F G:α->β->Prop}:∀ {l₁:List α} {l₂:List β},Paired F l₁ l₂->(∀ a b,F a b->G a b)->Paired G l₁ l₂
 | _,_,.nil,_=>.nil
 | _,_,.cons r t,f=>.cons (f _ _ r) (Paired.mapP t f)
theorem gJ.stay (x:gJ P w H h a o) (k:∀ b u,(b = a ∨ H b = some (.own a))->h.get? b = some u->h'.get? b = some u)
  (ho:∀ b,H b = some (.own a)->H' b = some (.own a)) (ht:∀ b xs,H b = some (.tup xs)->H' b = some (.tup xs)):gJ P w H' h' a o:=by
 induction o with
 | lst xs=>obtain ⟨z,its,n,r,e⟩:=x;exact ⟨z,its,n,r,k _ _ (.inl rfl) e⟩
 | tup xs=>obtain ⟨z,its,r,ob,e,c⟩:=x;exact ⟨z,its,r,ob,k _ _ (.inl rfl) e,c⟩
 | dK kvs=>obtain ⟨z,y,vs,r,ob,es,ep,e,c⟩:=x;exact ⟨z,y,vs,r,ob,es,ep,k _ _ (.inl rfl) e,c⟩
 | dT kvs =>
  obtain ⟨z,y,xs,r,ob,es,ep,e,c⟩:=x
  exact ⟨z,y,xs,Paired.mapP r fun p q z=>⟨z.1,ht _ _ z.2.1,z.2.2⟩,ob,es,ep,k _ _ (.inl rfl) e,c⟩
 | set S n=>obtain ⟨ob,es,ep,t,e,c⟩:=x;exact ⟨ob,es,ep,t,k _ _ (.inl rfl) e,c⟩
 | ins C dx fs =>
  obtain ⟨d,z,ne,e,mA,⟨od,es,ep,e2,c⟩,r⟩:=x
  exact ⟨ho _ d,z,ne,k _ _ (.inl rfl) e,mA,⟨od,es,ep,k _ _ (.inr d) e2,c⟩,r⟩
 | own y=>obtain ⟨ob,e⟩:=x;exact ⟨ob,k _ _ (.inl rfl) e⟩
 | xd fs=>obtain ⟨mA,⟨od,es,ep,e,c⟩,r⟩:=x;exact ⟨mA,⟨od,es,ep,k _ _ (.inl rfl) e,c⟩,r⟩
 | rng lo hi=>obtain ⟨t,u,v,e⟩:=x;exact ⟨t,u,v,k _ _ (.inl rfl) e⟩
 | frz ob u ih=>obtain ⟨e,q⟩:=x;exact ⟨k _ _ (.inl rfl) e,ih q⟩
 | tbl ps =>
  have e:h.get? a = some { cls:=.none,data:=.fields ps }:=x
  show h'.get? a = some { cls:=.none,data:=.fields ps }
  exact k a _ (.inl rfl) e
 | met f y =>
  have e:h.get? a = some (PySem.W.methodObj (.ref f) (.ref y)):=x
  show h'.get? a = some (PySem.W.methodObj (.ref f) (.ref y))
  exact k a _ (.inl rfl) e
 | ext φ=>obtain ⟨p,⟨o,e⟩,st⟩:=x;exact ⟨st _ _ p fun o q=>k _ _ (.inl rfl) q,⟨o,k _ _ (.inl rfl) e⟩,st⟩
theorem HOk.lt (x:HOk P w H h) (e:H a = some o):a < h.objs.size:=(x a o e).lt
theorem HOk.fresh (x:HOk P w H h) (e:h.objs.size<=a):H a = none:=by
 cases q:H a with
 | none=>rfl
 | some u=>exact absurd (Nat.lt_of_lt_of_le (x.lt q) e) (Nat.lt_irrefl _)
theorem HOk.kept (x:HOk P w H h) (k:∀ b u,h.get? b = some u->h'.get? b = some u):HOk P w H h':=fun a o e =>
 (x a o e).stay (fun b u _ q=>k b u q) (fun _ q=>q) fun _ _ q=>q
theorem HOk.laid (x:HOk P w H h) (k:∀ b u,h.get? b = some u->h'.get? b = some u) (hp:h.objs.size<=a) (new:gJ P w (upd H a o) h' a o):HOk P w (upd H a o) h':=fun b u e=>by
 have hn:=x.fresh hp
 by_cases hb:b = a
 ·subst hb;rw [eJ] at e;cases e;exact new
 ·rw [bU hb] at e
  exact (x b u e).stay (fun c v _ q=>k c v q) (fun c q=>by rw [bU (cA q hn)];exact q) fun c xs q=>by rw [bU (cA q hn)];exact q
end
noncomputable def Rd (H:Hp) (a:Addr) (u:HO):Prop:=H a = some u ∨ ∃ o,H a = some (.frz o u)
theorem Rd.ok {P:Program} {w:World} {H:Hp} {h:Heap} {a:Addr} {u:HO} (r:Rd H a u) (x:HOk P w H h):gJ P w H h a u:=by
 rcases r with r | ⟨o,r⟩
 ·exact x a u r
 ·obtain ⟨_,q⟩:=x a _ r
  exact q
noncomputable def Mut:Option HO->Prop
 | some (.lst _)=>True
 | some (.dK _)=>True
 | some (.dT _)=>True
 | some (.set _ _)=>True
 | some (.ins _ _ _)=>True
 | some (.ext _)=>True
 | _=>False
section
variable {P:Program} {w:World} {H:Hp} {h h':Heap} {x e:Addr} {o':HO}
theorem HOk.write (ok:HOk P w H h) (mu:Mut (H x)) (he:e = x ∨ H e = some (.own x)) (k:∀ b u,b ≠ e->h.get? b = some u->h'.get? b = some u) (heo:∃ u,h'.get? e = some u)
  (new:gJ P w (upd H x o') h' x o'):HOk P w (upd H x o') h':=fun b u q=>by
 have nown:∀ c y,H c = some (.own y)->c ≠ x:=fun c y r z=>by subst z;rw [r] at mu;exact mu
 have ntup:∀ c xs,H c = some (.tup xs)->c ≠ x:=fun c xs r z=>by subst z;rw [r] at mu;exact mu
 by_cases hb:b = x
 ·subst hb;rw [eJ] at q;cases q;exact new
 ·rw [bU hb] at q
  by_cases hbe:b = e
  ·have q':H b = some (.own x):=by
    rcases he with z | z
    ·exact absurd (hbe.trans z) hb
    ·rw [hbe];exact z
   rw [q] at q';cases q'
   obtain ⟨v,hv⟩:=heo
   exact ⟨v,by rw [hbe];exact hv⟩
  ·refine (ok b u q).stay (fun c v hc r=>k c v ?_ r) (fun c r=>by rw [bU (nown c b r)];exact r) fun c xs r=>by rw [bU (ntup c xs r)];exact r
   rcases hc with rfl | hc
   ·exact hbe
   ·rintro rfl
    rcases he with z | z
    ·exact nown c b hc z
    ·rw [hc] at z;cases z;exact hb rfl
end
structure Un (fs ex:List Addr) (H H':Hp) (h h':Heap):Prop where
 keep:∀ b o,h.get? b = some o->H b = none->b ∉ fs->b ∉ ex->h'.get? b = some o
 slot:∀ b o,h.get? b = some o->H b = none->b ∈ fs->b ∉ ex->∃ sl,h'.get? b = some { o with slots:=sl }
 free:∀ b o,h.get? b = some o->H b = none->b ∉ ex->H' b = none
 there:∀ b o,h.get? b = some o->b ∉ ex->∃ o',h'.get? b = some o'
 tups:∀ b xs,H b = some (.tup xs)->H' b = some (.tup xs)
 frzs:∀ b o u,H b = some (.frz o u)->H' b = some (.frz o u)
 tbls:∀ b ps,H b = some (.tbl ps)->∃ more,H' b = some (.tbl (ps ++ more))
section
variable {fs fs' ex ex':List Addr} {H H1 H2:Hp} {h h1 h2 h':Heap} {a x e:Addr} {o:HO}
theorem Un.any (u:Un fs ex H H1 h h1) {b:Addr} {ob:Obj} (q:h.get? b = some ob) (n:H b = none) (hx:b ∉ ex):∃ sl,h1.get? b = some { ob with slots:=sl }:=by
 by_cases hb:b ∈ fs
 ·exact u.slot b ob q n hb hx
 ·exact ⟨ob.slots,u.keep b ob q n hb hx⟩
theorem Un.trans (a:Un fs ex H H1 h h1) (b:Un fs ex H1 H2 h1 h2):Un fs ex H H2 h h2 where
 keep:=fun c ob q n hc hx=>b.keep c ob (a.keep c ob q n hc hx) (a.free c ob q n hx) hc hx
 slot:=fun c ob q n hc hx=>by
  obtain ⟨sl,e1⟩:=a.slot c ob q n hc hx
  obtain ⟨sl',e2⟩:=b.slot c _ e1 (a.free c ob q n hx) hc hx
  exact ⟨sl',e2⟩
 free:=fun c ob q n hx=>by
  obtain ⟨o',e1⟩:=a.there c ob q hx
  exact b.free c o' e1 (a.free c ob q n hx) hx
 there:=fun c ob q hx=>by
  obtain ⟨o',e1⟩:=a.there c ob q hx
  exact b.there c o' e1 hx
 tups:=fun c xs q=>b.tups c xs (a.tups c xs q)
 frzs:=fun c ob xs q=>b.frzs c ob xs (a.frzs c ob xs q)
 tbls:=fun c ps q=>by
  obtain ⟨m1,e1⟩:=a.tbls c ps q
  obtain ⟨m2,e2⟩:=b.tbls c _ e1
  exact ⟨m1 ++ m2,by rw [e2,Array.append_assoc]⟩
theorem Un.kept (k:∀ b u,h.get? b = some u->h'.get? b = some u):Un fs ex H H h h' :=
 ⟨fun b ob q _ _ _=>k b ob q,fun b ob q _ _ _=>⟨ob.slots,k b ob q⟩,fun _ _ _ n _=>n,fun b ob q _=>⟨ob,k b ob q⟩,fun _ _ q=>q,fun _ _ _ q=>q,fun _ ps q=>⟨#[],by rw [q];simp⟩⟩
theorem Un.refl:Un fs ex H H h h:=Un.kept fun _ _ q=>q
theorem Un.laid (k:∀ b u,h.get? b = some u->h'.get? b = some u) (hp:h.objs.size<=a) (hn:H a = none):Un fs ex H (upd H a o) h h' where
 keep:=fun b u q _ _ _=>k b u q
 slot:=fun b u q _ _ _=>⟨u.slots,k b u q⟩
 free:=fun b u q n _=>by rw [bU (Nat.ne_of_lt (Nat.lt_of_lt_of_le (Heap.lt_size q) hp))];exact n
 there:=fun b u q _=>⟨u,k b u q⟩
 tups:=fun b xs q=>by rw [bU (cA q hn)];exact q
 frzs:=fun b u xs q=>by rw [bU (cA q hn)];exact q
 tbls:=fun b ps q=>⟨#[],by rw [bU (cA q hn),q];simp⟩
theorem Un.write (mu:Mut (H x)) (he:e = x ∨ H e = some (.own x)) (k:∀ b u,b ≠ e->h.get? b = some u->h'.get? b = some u) (heo:∃ u,h'.get? e = some u):Un fs ex H (upd H x o) h h':=by
 have hx:∀ b,H b = none->b ≠ x:=fun b n z=>by subst z;rw [n] at mu;exact mu
 have hb:∀ b,H b = none->b ≠ e:=fun b n z=>by
  subst z
  rcases he with r | r
  ·exact hx b n r
  ·rw [n] at r;cases r
 have hm:∀ b u,H b = some u->¬ Mut (some u)->b ≠ x:=fun b u q nm z=>by subst z;rw [q] at mu;exact nm mu
 refine ⟨fun b u q n _ _=>k b u (hb b n) q,fun b u q n _ _=>⟨u.slots,k b u (hb b n) q⟩,fun b u q n _=>by rw [bU (hx b n)];exact n,fun b u q _=>?_,
  fun b xs q=>by rw [bU (hm b _ q fun z=>z)];exact q,fun b u xs q=>by rw [bU (hm b _ q fun z=>z)];exact q,fun b ps q=>⟨#[],by rw [bU (hm b _ q fun z=>z),q];simp⟩⟩
 by_cases hbe:b = e
 ·subst hbe;exact heo
 ·exact ⟨u,k b u hbe q⟩
end
noncomputable def trk (h:Heap) (H:Hp):List Addr:=(List.range h.objs.size).filter fun a=>(H a).isSome
noncomputable def aAJ (h:Heap) (H:Hp):Heap:=PySem.W.hideAll h (trk h H)
theorem aDs (h:Heap) (H:Hp):(aAJ h H).objs.size = h.objs.size:=PySem.W.hideAll_size _ _
theorem aFJ {h:Heap} {H:Hp} {b:Addr} {o:Obj} (e:h.get? b = some o) (n:H b = none):(aAJ h H).get? b = some o :=
 PySem.W.hideAll_get _ e fun hm=>by
  have q:(H b).isSome = true:=(List.mem_filter.mp hm).2
  rw [n] at q;simp at q
theorem aFZ {h:Heap} {H:Hp} {b:Addr} {o:Obj} (e:(aAJ h H).get? b = some o):h.get? b = some o/\H b = none:=by
 have e':h.get? b = some o:=PySem.W.of_hideAll (trk h H) e
 refine ⟨e',?_⟩
 cases q:H b with
 | none=>rfl
 | some x =>
  have hm:b ∈ trk h H:=List.mem_filter.mpr ⟨List.mem_range.mpr (Heap.lt_size e'),by simp [q]⟩
  have z:(aAJ h H).get? b = none:=PySem.W.hideAll_none (trk h H) hm
  rw [z] at e;cases e
noncomputable def aGS (g h:Heap) (L:Addr):List (Addr × Obj):=(List.range h.objs.size).filterMap fun a=>if a = L ∨ (g.get? a).isSome = true then none else (h.get? a).map fun o=>(a,o)
noncomputable def cE (g h:Heap) (L d:Addr):List (Addr × Obj):=(aGS g h L).filter fun p=>decide (p.1 ≠ d)
end L2
namespace L2
open PySem PySem.Spec PyProof.Rows
structure Mod (K:PySem.W.Frag) (mg:Str->Option Value) (base:Heap):Prop where
 kin:K.In base
 glob:base.Ns mainGlobals mg
 blt:∃ mb,base.Ns builtinsNs mb/\∀ x:Str,x ≠ "__name__"->mb x = bootBuiltins x
 nolimit:base.NoLimit
structure Cx where
 prog:Program
 w:World
 K:PySem.W.Frag
 mg:Str->Option Value
 base:Heap
 A:Around
 N:List Str
 s₀:Shared
 H₀:Hp
 env:Env
 outer:List Env
 stack:List Env
 ex:List Addr
 fn:Str->Bool
 calm:Bool
 pn:List (Addr × Obj)
 xe:Value->Shared->Prop
noncomputable def frs (l:List Env):List Addr:=l.filterMap (·.frame)
noncomputable abbrev Cx.fs (X:Cx):List Addr:=frs X.outer
noncomputable def Vis (sc:Scope) (x:Str):Prop:=sc.names.lookup x = some .local ∨ sc.names.lookup x = some .cell ∨ sc.names.lookup x = some .free
noncomputable def Loc (sc:Scope) (x:Str):Prop:=sc.names.lookup x = some .local ∨ sc.names.lookup x = some .cell
noncomputable def aKw (env:Env) (h:Heap) (m:Str->Option Value) (x:Str) (u:Value):Prop :=
 (env.kindOf x = some .local/\m x = some u) ∨ ((env.kindOf x = some .cell ∨ env.kindOf x = some .free)/\∃ c,env.cells.lookup x = some c/\h.IsCell c (some u))
structure Cx.Ok (X:Cx):Prop where
 mod:Mod X.K X.mg X.base
 kind:X.env.scope.kind = .function
 glob:X.env.globals = mainGlobals
 blt:X.env.builtins = builtinsNs
 above:X.s₀.heap.objs.size<=X.env.locals
 inj:∀ x y c,X.env.cells.lookup x = some c->X.env.cells.lookup y = some c->x = y
 has:∀ x,(X.env.kindOf x = some .cell ∨ X.env.kindOf x = some .free)->∃ c,X.env.cells.lookup x = some c
 cab:∀ x c,X.fn x = true->X.env.cells.lookup x = some c->X.s₀.heap.objs.size<=c
 hd:X.calm = true->X.A.handled = none
 frames:X.A.frames = some X.stack
 stk:X.stack = X.outer ∨ (X.stack = X.env :: X.outer/\X.env.frame = some X.env.locals)
 exf:∀ b ∈ X.ex,b ≠ X.env.locals/\∀ x c,X.env.cells.lookup x = some c->c ≠ b
 bs:∀ b o,X.base.get? b = some o->X.s₀.heap.get? b = some o/\X.H₀ b = none
 bsz:X.base.objs.size<=X.s₀.heap.objs.size
 noex:∀ b o,X.base.get? b = some o->b ∉ X.ex
 exfs:∀ b ∈ X.ex,b ∉ X.fs
 funs:X.s₀.heap.FunFrames X.base X.outer
 frf:∀ b ∈ X.fs,X.H₀ b = none
structure Inv (X:Cx) (pins:List (Addr × Obj)) (σ:List (Option V)) (H:Hp) (s:Shared):Prop where
 ok:X.Ok
 os:s.os = X.s₀.os
 bare:AllBare s.gens
 base:Un X.fs X.ex X.H₀ H X.s₀.heap s.heap
 loc:∃ m,s.heap.Ns X.env.locals m/\∀ (i:Nat) (x:Str) (v:V),X.N[i]? = some x->σ[i]? = some (some v)->Vis X.env.scope x->∃ u,bW v u/\aKw X.env s.heap m x u
 cell:∀ x c,X.env.cells.lookup x = some c->∃ v,s.heap.IsCell c v
 free:H X.env.locals = none
 freeC:∀ x c,X.env.cells.lookup x = some c->H c = none
 pin:∀ p ∈ X.pn ++ pins,s.heap.get? p.1 = some p.2/\H p.1 = none/\p.1 ≠ X.env.locals/\p.1 ∉ X.fs/\∀ v,p.2.data ≠ .cell v
 hok:HOk X.prog X.w H s.heap
 len:σ.length = X.N.length
section
variable {X:Cx} {pins:List (Addr × Obj)} {σ:List (Option V)} {H H':Hp} {s:Shared} {h':Heap}
theorem Cx.Ok.nofr (ok:X.Ok) {b:Addr} {o:Obj} (e:X.base.get? b = some o):b ∉ X.fs:=fun hb=>by
 have:=(ok.funs.mem hb).1
 rw [e] at this;cases this
theorem Inv.bs (I:Inv X pins σ H s):∀ b o,X.base.get? b = some o->s.heap.get? b = some o/\H b = none:=fun b o e =>
 ⟨I.base.keep b o (I.ok.bs b o e).1 (I.ok.bs b o e).2 (I.ok.nofr e) (I.ok.noex b o e),I.base.free b o (I.ok.bs b o e).1 (I.ok.bs b o e).2 (I.ok.noex b o e)⟩
theorem Inv.bk (I:Inv X pins σ H s):∀ b o,X.base.get? b = some o->s.heap.get? b = some o:=fun b o e=>(I.bs b o e).1
theorem Inv.mod (I:Inv X pins σ H s):Mod X.K X.mg X.base:=I.ok.mod
theorem Inv.kIn (I:Inv X pins σ H s):X.K.In s.heap:=I.ok.mod.kin.keeps I.bk
theorem Inv.lt (I:Inv X pins σ H s):X.env.locals < s.heap.objs.size:=let ⟨_,hn,_⟩:=I.loc;hn.lt
theorem Inv.sz (I:Inv X pins σ H s):X.s₀.heap.objs.size<=s.heap.objs.size:=Nat.le_trans I.ok.above (Nat.le_of_lt I.lt)
theorem Inv.nofs (I:Inv X pins σ H s) {a:Addr} (h:s.heap.objs.size<=a):a ∉ X.fs:=fun hb=>by
 obtain ⟨_,o,ho,_⟩:=I.ok.funs.mem hb
 exact absurd (Nat.lt_of_lt_of_le (Heap.lt_size ho) (Nat.le_trans I.sz h)) (Nat.lt_irrefl _)
theorem Inv.cne (I:Inv X pins σ H s):∀ x c,X.env.cells.lookup x = some c->c ≠ X.env.locals:=fun x c e z=>by
 obtain ⟨v,o,ho,hd⟩:=I.cell x c e
 obtain ⟨m,⟨o',es,ep,ho',hd',_⟩,_⟩:=I.loc
 rw [z,ho'] at ho;cases ho;rw [hd'] at hd;cases hd
theorem Inv.funs (I:Inv X pins σ H s):s.heap.FunFrames X.base X.outer:=by
 have all:∀ (l:List Env),(∀ b ∈ frs l,b ∈ X.fs)->X.s₀.heap.FunFrames X.base l->s.heap.FunFrames X.base l:=by
  intro l
  induction l with
  | nil=>intro _ _;trivial
  | cons env r ih =>
   intro hs hl
   obtain ⟨hk,⟨L,o,hf,hn,ho,hd⟩,hr⟩:=hl
   have hL:L ∈ X.fs:=hs L (by unfold frs;rw [List.filterMap_cons,hf];exact List.mem_cons_self)
   obtain ⟨sl,e⟩:=I.base.slot L o ho (I.ok.frf L hL) hL fun z=>I.ok.exfs L z hL
   exact ⟨hk,⟨L,_,hf,hn,e,hd⟩,ih (fun b hb=>hs b (by unfold frs;rw [List.filterMap_cons,hf];exact List.mem_cons_of_mem _ hb)) hr⟩
 exact all X.outer (fun _ hb=>hb) I.ok.funs
theorem Inv.stack (I:Inv X pins σ H s):s.heap.FunFrames X.base X.stack:=by
 rcases I.ok.stk with e | ⟨e,hf⟩
 ·rw [e];exact I.funs
 ·rw [e]
  obtain ⟨m,hn,_⟩:=I.loc
  refine .cons (by rw [I.ok.kind];decide) hf hn ?_ I.funs
  exact Heap.get?_none_of_le (Nat.le_trans I.ok.bsz I.ok.above)
theorem Inv.stkSub (I:Inv X pins σ H s):∀ b ∈ frs X.stack,b ∈ X.env.locals :: X.fs:=fun b hb=>by
 rcases I.ok.stk with e | ⟨e,hf⟩
 ·rw [e] at hb;exact List.mem_cons_of_mem _ hb
 ·rw [e] at hb
  unfold frs at hb
  rw [List.filterMap_cons,hf] at hb
  exact hb
theorem Inv.stkFree (I:Inv X pins σ H s):∀ b ∈ frs X.stack,H b = none:=fun b hb=>by
 rcases List.mem_cons.mp (I.stkSub b hb) with e | hb
 ·rw [e];exact I.free
 ·obtain ⟨_,o,ho,_⟩:=I.ok.funs.mem hb
  exact I.base.free b o ho (I.ok.frf b hb) fun z=>I.ok.exfs b z hb
theorem Inv.step {g':Array GenState} {t':Nat} {d':Drawn} {ch:List Addr} (I:Inv X pins σ H s)
  (hch:∀ b ∈ ch,(b ∈ X.ex ∨ X.s₀.heap.objs.size<=b)/\b ≠ X.env.locals/\(∀ x c,X.env.cells.lookup x = some c->c ≠ b)/\∀ p ∈ X.pn ++ pins,p.1 ≠ b)
  (keep:∀ b o,b ≠ X.env.locals->b ∉ X.fs->b ∉ ch->s.heap.get? b = some o->H b = none->h'.get? b = some o)
  (slot:∀ b o,b ≠ X.env.locals->b ∈ X.fs->b ∉ ch->s.heap.get? b = some o->H b = none->∃ sl,h'.get? b = some { o with slots:=sl }) (free:∀ b o,b ∉ ch->s.heap.get? b = some o->H b = none->H' b = none)
  (there:∀ b o,b ∉ ch->s.heap.get? b = some o->∃ o',h'.get? b = some o')
  (tups:∀ b xs,H b = some (.tup xs)->H' b = some (.tup xs)) (frzs:∀ b o u,H b = some (.frz o u)->H' b = some (.frz o u)) (tbls:∀ b ps,H b = some (.tbl ps)->∃ more,H' b = some (.tbl (ps ++ more)))
  (ns:∀ m,s.heap.Ns X.env.locals m->h'.Ns X.env.locals m) (hok:HOk X.prog X.w H' h') (hg:AllBare g') :
  Inv X pins σ H' { s with heap:=h',gens:=g',drawn:=d',toks:=t' }:=by
 have neL:∀ b o,X.s₀.heap.get? b = some o->b ≠ X.env.locals:=fun b o e=>Nat.ne_of_lt (Nat.lt_of_lt_of_le (Heap.lt_size e) I.ok.above)
 have neC:∀ b o,X.s₀.heap.get? b = some o->b ∉ X.ex->b ∉ ch:=fun b o e hx hb=>by
  rcases (hch b hb).1 with z | z
  ·exact hx z
  ·exact absurd (Nat.lt_of_lt_of_le (Heap.lt_size e) z) (Nat.lt_irrefl _)
 have cellK:∀ x c,X.env.cells.lookup x = some c->∀ v,s.heap.IsCell c v->h'.IsCell c v:=fun x c e v ⟨o,ho,hd⟩=>by
  have nch:c ∉ ch:=fun z=>(hch c z).2.2.1 x c e rfl
  by_cases hc:c ∈ X.fs
  ·obtain ⟨sl,q⟩:=slot c o (I.cne x c e) hc nch ho (I.freeC x c e)
   exact ⟨_,q,hd⟩
  ·exact ⟨o,keep c o (I.cne x c e) hc nch ho (I.freeC x c e),hd⟩
 refine ⟨I.ok,I.os,hg,⟨fun b o e n hb hx=>?_,fun b o e n hb hx=>?_,fun b o e n hx=>?_,fun b o e hx=>?_,fun b xs e=>tups b xs (I.base.tups b xs e),fun b o xs e=>frzs b o xs (I.base.frzs b o xs e),fun b ps e=>?_⟩,?_,fun x c e=>?_,?_,fun x c e=>?_,fun p hp=>?_,hok,I.len⟩
 ·exact keep b o (neL b o e) hb (neC b o e hx) (I.base.keep b o e n hb hx) (I.base.free b o e n hx)
 ·obtain ⟨sl,e1⟩:=I.base.slot b o e n hb hx
  obtain ⟨sl',e2⟩:=slot b _ (neL b o e) hb (neC b o e hx) e1 (I.base.free b o e n hx)
  exact ⟨sl',e2⟩
 ·obtain ⟨o',e1⟩:=I.base.there b o e hx
  exact free b o' (neC b o e hx) e1 (I.base.free b o e n hx)
 ·obtain ⟨o',e1⟩:=I.base.there b o e hx
  exact there b o' (neC b o e hx) e1
 ·obtain ⟨m1,e1⟩:=I.base.tbls b ps e
  obtain ⟨m2,e2⟩:=tbls b _ e1
  exact ⟨m1 ++ m2,by rw [e2,Array.append_assoc]⟩
 ·obtain ⟨m,hn,hl⟩:=I.loc
  refine ⟨m,ns m hn,fun i x v e1 e2 e3=>?_⟩
  obtain ⟨u,r,l⟩:=hl i x v e1 e2 e3
  refine ⟨u,r,?_⟩
  rcases l with l | ⟨k,c,e,z⟩
  ·exact .inl l
  ·exact .inr ⟨k,c,e,cellK x c e _ z⟩
 ·obtain ⟨v,z⟩:=I.cell x c e
  exact ⟨v,cellK x c e v z⟩
 ·obtain ⟨m,⟨o,_,_,ho,_⟩,_⟩:=I.loc
  exact free _ o (fun z=>(hch _ z).2.1 rfl) ho I.free
 ·obtain ⟨v,o,ho,hd⟩:=I.cell x c e
  exact free c o (fun z=>(hch c z).2.2.1 x c e rfl) ho (I.freeC x c e)
 ·obtain ⟨e,n,ne,nf,d⟩:=I.pin p hp
  have nch:p.1 ∉ ch:=fun z=>(hch p.1 z).2.2.2 p hp rfl
  exact ⟨keep p.1 p.2 ne nf nch e n,free p.1 p.2 nch e n,ne,nf,d⟩
theorem Inv.un {t':Nat} (I:Inv X pins σ H s) (u:Un X.fs [] H H' s.heap h') (hok:HOk X.prog X.w H' h'):Inv X pins σ H' { s with heap:=h',toks:=t' }:=by
 obtain ⟨m,⟨o,es,ep,ho,r⟩,_⟩:=id I.loc
 obtain ⟨sl,hL⟩:=u.any ho I.free (by simp)
 exact I.step (g':=s.gens) (d':=s.drawn) (ch:=[]) (fun _ z=>nomatch z) (fun b o _ hb _ e n=>u.keep b o e n hb (by simp)) (fun b o _ hb _ e n=>u.slot b o e n hb (by simp)) (fun b o _ e n=>u.free b o e n (by simp)) (fun b o _ e=>u.there b o e (by simp)) u.tups u.frzs u.tbls (fun m' hm=>by
  obtain ⟨o',es',ep',ho',r'⟩:=hm
  rw [ho] at ho';cases ho'
  exact ⟨_,es',ep',hL,r'⟩) hok I.bare
theorem Inv.call {g':Array GenState} {t':Nat} {d':Drawn} {ch:List Addr} (I:Inv X pins σ H s) (u:Un (frs X.stack) ch H H' s.heap h') (hok:HOk X.prog X.w H' h') (hg:AllBare g')
  (hch:∀ b ∈ ch,(b ∈ X.ex ∨ X.s₀.heap.objs.size<=b)/\b ≠ X.env.locals/\(∀ x c,X.env.cells.lookup x = some c->c ≠ b)/\∀ p ∈ X.pn ++ pins,p.1 ≠ b) :
  Inv X pins σ H' { s with heap:=h',gens:=g',drawn:=d',toks:=t' }:=by
 obtain ⟨m,⟨o,es,ep,ho,r⟩,_⟩:=id I.loc
 obtain ⟨sl,hL⟩:=u.any ho I.free fun z=>(hch _ z).2.1 rfl
 exact I.step (ch:=ch) hch (fun b o hL hb hc e n=>u.keep b o e n (fun z=>(List.mem_cons.mp (I.stkSub b z)).elim hL hb) hc) (fun b o _ _ hc e n=>u.any e n hc) (fun b o hc e n=>u.free b o e n hc) (fun b o hc e=>u.there b o e hc) u.tups u.frzs u.tbls (fun m' hm=>by
  obtain ⟨o',es',ep',ho',r'⟩:=hm
  rw [ho] at ho';cases ho'
  exact ⟨_,es',ep',hL,r'⟩) hok hg
theorem Inv.turned {t':Nat} {it:Addr} (I:Inv X pins σ H s) (k:∀ b o,b ≠ it->s.heap.get? b = some o->h'.get? b = some o) (hn:H it = none) (hL:it ≠ X.env.locals)
  (h1:it ∈ X.ex ∨ X.s₀.heap.objs.size<=it) (h2:∀ x c,X.env.cells.lookup x = some c->c ≠ it) (h3:∀ p ∈ X.pn ++ pins,p.1 ≠ it):Inv X pins σ H { s with heap:=h',toks:=t' }:=by
 have nit:∀ b u,H b = some u->b ≠ it:=fun b u e z=>by rw [z,hn] at e;cases e
 refine I.step (g':=s.gens) (d':=s.drawn) (ch:=[it]) (fun b hb=>?_) (fun b o _ _ hc e _=>k b o (fun z=>hc (by simp [z])) e) (fun b o _ _ hc e _=>⟨o.slots,k b o (fun z=>hc (by simp [z])) e⟩) (fun _ _ _ _ n=>n)
  (fun b o hc e=>⟨o,k b o (fun z=>hc (by simp [z])) e⟩) (fun _ _ e=>e) (fun _ _ _ e=>e) (fun b ps e=>⟨#[],by rw [e];simp⟩) (fun m hm=>?_) (fun b u e=>?_) I.bare
 ·have e:b = it:=by simpa using hb
  subst e
  exact ⟨h1,hL,h2,h3⟩
 ·obtain ⟨o,es,ep,ho,r⟩:=hm
  exact ⟨o,es,ep,k _ o (Ne.symm hL) ho,r⟩
 ·refine (I.hok b u e).stay (fun c v hc q=>k c v ?_ q) (fun _ q=>q) fun _ _ q=>q
  rcases hc with z | z
  ·rw [z];exact nit b u e
  ·exact nit c _ z
theorem Inv.tok (I:Inv X pins σ H s) (t:Nat):Inv X pins σ H { s with toks:=t }:=I.un (h':=s.heap) (t':=t) Un.refl I.hok
theorem Inv.kept {t':Nat} (I:Inv X pins σ H s) (k:∀ b u,s.heap.get? b = some u->h'.get? b = some u):Inv X pins σ H { s with heap:=h',toks:=t' }:=I.un (Un.kept k) (I.hok.kept k)
theorem Inv.laid {a:Addr} {o:HO} {t':Nat} (I:Inv X pins σ H s) (k:∀ b u,s.heap.get? b = some u->h'.get? b = some u) (hp:s.heap.objs.size<=a) (new:gJ X.prog X.w (upd H a o) h' a o) :
  Inv X pins σ (upd H a o) { s with heap:=h',toks:=t' }:=I.un (Un.laid k hp (I.hok.fresh hp)) (I.hok.laid k hp new)
theorem Inv.write {x e:Addr} {o:HO} {t':Nat} (I:Inv X pins σ H s) (mu:Mut (H x)) (he:e = x ∨ H e = some (.own x)) (k:∀ b u,b ≠ e->s.heap.get? b = some u->h'.get? b = some u) (heo:∃ u,h'.get? e = some u)
  (new:gJ X.prog X.w (upd H x o) h' x o):Inv X pins σ (upd H x o) { s with heap:=h',toks:=t' }:=I.un (Un.write mu he k heo) (I.hok.write mu he k heo new)
theorem Inv.pins_of {pins':List (Addr × Obj)} (I:Inv X pins σ H s) (h:∀ p ∈ pins',s.heap.get? p.1 = some p.2/\H p.1 = none/\p.1 ≠ X.env.locals/\p.1 ∉ X.fs/\∀ v,p.2.data ≠ .cell v):Inv X pins' σ H s :=
 ⟨I.ok,I.os,I.bare,I.base,I.loc,I.cell,I.free,I.freeC,fun p hp=>(List.mem_append.mp hp).elim (fun z=>I.pin p (List.mem_append_left _ z)) (h p),I.hok,I.len⟩
theorem xK {N:List Str} (hN:N.Nodup) {i j:Nat} {x:Str} (a:N[i]? = some x) (b:N[j]? = some x):i = j:=by
 obtain ⟨h1,e1⟩:=List.getElem?_eq_some_iff.mp a
 obtain ⟨h2,e2⟩:=List.getElem?_eq_some_iff.mp b
 exact (List.getElem_inj hN).mp (e1.trans e2.symm)
theorem yW {M:Model} {A:Around} {E:Value->Shared->Prop} {i:Nat} {x:Str} {v:V} {u:Value} {Q:Unit->Shared->Prop} (I:Inv X pins σ H s) (hN:X.N.Nodup) (hi:X.N[i]? = some x) (hx:Loc X.env.scope x) (r:bW v u)
  (h:∀ s',Inv X pins (σ.set i (some v)) H s'->(∃ a,Heap.SameBut a s.heap s'.heap/\(a = X.env.locals ∨ X.env.cells.lookup x = some a))->Q () s') (hf:X.fn x = true ∨ X.env.scope.names.lookup x = some .local:=by first | exact .inl rfl | exact .inr rfl | assumption):wpAny M A (storeName X.env x u) Q E s:=by
 obtain ⟨m,hn,hl⟩:=id I.loc
 have hcls:(X.env.scope.kind == .class || (X.env.scope.kind == .module && X.env.locals != X.env.globals)) = false:=by rw [I.ok.kind];rfl
 have hiσ:i < σ.length:=by rw [I.len];exact (List.getElem?_eq_some_iff.mp hi).1
 have cne:=I.cne
 have tracked:∀ {a:Addr} {h':Heap},(∃ o,s.heap.get? a = some o/\H a = none)->Heap.SameBut a s.heap h'->HOk X.prog X.w H h':=fun {a h'} ha hs b ob e=>by
  obtain ⟨_,_,hfree⟩:=ha
  refine (I.hok b ob e).stay (fun c w' hc q=>(hs.2 c ?_).trans q) (fun _ q=>q) fun _ _ q=>q
  rintro rfl
  rcases hc with rfl | hc
  ·rw [hfree] at e;cases e
  ·rw [hfree] at hc;cases hc
 rcases hx with hk | hk
 ·refine wpAny_storeName_local hk hn (fun h' hn' hs=>?_) hcls
  obtain ⟨oL,_,_,hoL,_⟩:=id hn
  refine h _ ⟨I.ok,I.os,I.bare,⟨fun b o e n hb hx=>?_,fun b o e n hb hx=>?_,I.base.free,fun b o e hx=>?_,I.base.tups,I.base.frzs,I.base.tbls⟩,⟨_,hn',fun j y v' e1 e2 e3=>?_⟩,fun y c e=>?_,I.free,I.freeC,fun p hp=>?_,tracked ⟨oL,hoL,I.free⟩ hs,by simpa using I.len⟩ ⟨_,hs,.inl rfl⟩
  ·exact (hs.2 b (Nat.ne_of_lt (Nat.lt_of_lt_of_le (Heap.lt_size e) I.ok.above))).trans (I.base.keep b o e n hb hx)
  ·obtain ⟨sl,e1⟩:=I.base.slot b o e n hb hx
   exact ⟨sl,(hs.2 b (Nat.ne_of_lt (Nat.lt_of_lt_of_le (Heap.lt_size e) I.ok.above))).trans e1⟩
  ·obtain ⟨o',e1⟩:=I.base.there b o e hx
   exact ⟨o',(hs.2 b (Nat.ne_of_lt (Nat.lt_of_lt_of_le (Heap.lt_size e) I.ok.above))).trans e1⟩
  ·by_cases hj:j = i
   ·subst hj
    rw [hi] at e1;cases e1
    rw [List.getElem?_set_self hiσ] at e2
    cases e2
    exact ⟨u,r,.inl ⟨hk,by simp⟩⟩
   ·rw [List.getElem?_set_ne (Ne.symm hj)] at e2
    obtain ⟨u',r',q⟩:=hl j y v' e1 e2 e3
    refine ⟨u',r',?_⟩
    rcases q with ⟨k,e⟩ | ⟨k,c,e,z⟩
    ·refine .inl ⟨k,?_⟩
     have:y ≠ x:=fun e=>hj (xK hN e1 (e ▸ hi))
     simp [this,e]
    ·exact .inr ⟨k,c,e,z.sameBut hs (cne y c e)⟩
  ·obtain ⟨w',z⟩:=I.cell y c e
   exact ⟨w',z.sameBut hs (cne y c e)⟩
  ·obtain ⟨e,n,ne,nf,d⟩:=I.pin p hp
   exact ⟨(hs.2 p.1 ne).trans e,n,ne,nf,d⟩
 ·have hfn:X.fn x = true:=by
   rcases hf with z | z
   ·exact z
   ·rw [z] at hk;cases hk
  obtain ⟨c,hc⟩:=I.ok.has x (.inl hk)
  obtain ⟨w',z⟩:=I.cell x c hc
  refine wpAny_storeName_cell I.ok.kind hk hc z (fun h' hc' hs=>?_)
  obtain ⟨oc,hoc,hocd⟩:=id z
  refine h { s with heap:=h' } ⟨I.ok,I.os,I.bare,⟨fun b o e n hb hx=>?_,fun b o e n hb hx=>?_,I.base.free,fun b o e hx=>?_,I.base.tups,I.base.frzs,I.base.tbls⟩,⟨m,hn.sameBut hs (Ne.symm (cne x c hc)),fun j y v' e1 e2 e3=>?_⟩,fun y c' e=>?_,I.free,I.freeC,fun p hp=>?_,tracked ⟨oc,hoc,I.freeC x c hc⟩ hs,by simpa using I.len⟩ ⟨c,hs,.inr hc⟩
  ·exact (hs.2 b (Nat.ne_of_lt (Nat.lt_of_lt_of_le (Heap.lt_size e) (I.ok.cab x c hfn hc)))).trans (I.base.keep b o e n hb hx)
  ·obtain ⟨sl,e1⟩:=I.base.slot b o e n hb hx
   exact ⟨sl,(hs.2 b (Nat.ne_of_lt (Nat.lt_of_lt_of_le (Heap.lt_size e) (I.ok.cab x c hfn hc)))).trans e1⟩
  ·obtain ⟨o',e1⟩:=I.base.there b o e hx
   exact ⟨o',(hs.2 b (Nat.ne_of_lt (Nat.lt_of_lt_of_le (Heap.lt_size e) (I.ok.cab x c hfn hc)))).trans e1⟩
  ·by_cases hj:j = i
   ·subst hj
    rw [hi] at e1;cases e1
    rw [List.getElem?_set_self hiσ] at e2
    cases e2
    exact ⟨u,r,.inr ⟨.inl hk,c,hc,hc'⟩⟩
   ·rw [List.getElem?_set_ne (Ne.symm hj)] at e2
    obtain ⟨u',r',q⟩:=hl j y v' e1 e2 e3
    refine ⟨u',r',?_⟩
    rcases q with q | ⟨k,c',e,z'⟩
    ·exact .inl q
    ·refine .inr ⟨k,c',e,z'.sameBut hs ?_⟩
     rintro rfl
     exact hj (xK hN e1 (I.ok.inj _ _ _ e hc ▸ hi))
  ·by_cases hcc:c' = c
   ·subst hcc;exact ⟨_,hc'⟩
   ·obtain ⟨w2,z2⟩:=I.cell y c' e
    exact ⟨w2,z2.sameBut hs hcc⟩
  ·obtain ⟨e,n,ne,nf,d⟩:=I.pin p hp
   refine ⟨(hs.2 p.1 ?_).trans e,n,ne,nf,d⟩
   intro q
   rw [q,hoc] at e
   have q':oc = p.2:=Option.some.inj e
   exact d w' (by rw [<- q'];exact hocd)
theorem mE {M:Model} {A:Around} {E:Value->Shared->Prop} {i:Nat} {x:Str} {v:V} {u:Value} {Q:Unit->Shared->Prop} (I:Inv X pins σ H s) (hN:X.N.Nodup) (hi:X.N[i]? = some x) (hx:Loc X.env.scope x) (r:bW v u)
  (h:∀ s',Inv X pins (σ.set i (some v)) H s'->Q () s') (hf:X.fn x = true ∨ X.env.scope.names.lookup x = some .local:=by first | exact .inl rfl | exact .inr rfl | assumption):wpAny M A (storeName X.env x u) Q E s :=
 yW I hN hi hx r (fun s' I' _=>h s' I') hf
theorem Inv.call' {s':Shared} {ch:List Addr} (I:Inv X pins σ H s) (ho:s'.os = s.os) (u:Un (frs X.stack) ch H H' s.heap s'.heap) (hok:HOk X.prog X.w H' s'.heap) (hg:AllBare s'.gens)
  (hch:∀ b ∈ ch,(b ∈ X.ex ∨ X.s₀.heap.objs.size<=b)/\b ≠ X.env.locals/\(∀ x c,X.env.cells.lookup x = some c->c ≠ b)/\∀ p ∈ X.pn ++ pins,p.1 ≠ b):Inv X pins σ H' s':=by
 obtain ⟨h',g',d',t',o'⟩:=s'
 have e:o' = s.os:=ho
 subst e
 exact I.call (g':=g') (t':=t') (d':=d') u hok hg hch
end
noncomputable abbrev XK:=Value->Option Addr->Hp->Prop
noncomputable abbrev St:=List (Option V)
noncomputable abbrev VK:=V->Hp->Prop
noncomputable abbrev TE:=St->Hp->VK->Prop
noncomputable abbrev TT:=St->Hp->(Bool->Hp->Prop)->Prop
noncomputable abbrev TA:=St->Hp->(List V->Hp->Prop)->Prop
structure qH where
 nx:St->Hp->Prop
 rt:VK
 bk:St->Hp->Prop:=fun _ _=>False
 ct:St->Hp->Prop:=fun _ _=>False
noncomputable abbrev TS:=qH->St->Hp->Prop
noncomputable def EP (X:Cx) (pins:List (Addr × Obj)) (σ:St) (Q:VK) (u:Value) (s':Shared):Prop:=∃ v H',Inv X pins σ H' s'/\bW v u/\Q v H'
noncomputable def TP (X:Cx) (pins:List (Addr × Obj)) (σ:St) (Q:Bool->Hp->Prop) (b:Bool) (s':Shared):Prop:=∃ H',Inv X pins σ H' s'/\Q b H'
noncomputable def AP (X:Cx) (pins:List (Addr × Obj)) (σ:St) (Q:List V->Hp->Prop) (us:List Value) (s':Shared):Prop:=∃ vs H',Inv X pins σ H' s'/\bR vs us/\Q vs H'
noncomputable def SP (X:Cx) (pins:List (Addr × Obj)) (D:qH) (f:Flow) (s':Shared):Prop :=
 match f with
 | .next=>∃ σ' H',Inv X pins σ' H' s'/\D.nx σ' H'
 | .brk=>∃ σ' H',Inv X pins σ' H' s'/\D.bk σ' H'
 | .cont=>∃ σ' H',Inv X pins σ' H' s'/\D.ct σ' H'
 | .ret u=>∃ v σ' H',Inv X pins σ' H' s'/\bW v u/\D.rt v H'
noncomputable def PE (X:Cx) (e:Expr) (t:TE):Prop :=
 ∀ (pins:List (Addr × Obj)) (s:Shared) (σ:St) (H:Hp) (Q:VK),Inv X pins σ H s->t σ H Q->wpAny (model X.prog X.w) X.A (eval e X.env) (EP X pins σ Q) X.xe s
noncomputable def PT (X:Cx) (e:Expr) (t:TT):Prop :=
 ∀ (pins:List (Addr × Obj)) (s:Shared) (σ:St) (H:Hp) (Q:Bool->Hp->Prop),Inv X pins σ H s->t σ H Q->wpAny (model X.prog X.w) X.A (isTrue e X.env (eval e X.env)) (TP X pins σ Q) X.xe s
noncomputable def PW (X:Cx) (e:Expr) (t:TT):Prop :=
 ∀ (whole:Sem Value) (pins:List (Addr × Obj)) (s:Shared) (σ:St) (H:Hp) (Q:Bool->Hp->Prop),Inv X pins σ H s->t σ H Q->wpAny (model X.prog X.w) X.A (isTrue e X.env whole) (TP X pins σ Q) X.xe s
theorem PW.pt {X:Cx} {e:Expr} {t:TT} (h:PW X e t):PT X e t:=h _
noncomputable def PA (X:Cx) (es:List Expr) (t:TA):Prop :=
 ∀ (pos:Pos) (pins:List (Addr × Obj)) (s:Shared) (σ:St) (H:Hp) (Q:List V->Hp->Prop),Inv X pins σ H s->t σ H Q->wpAny (model X.prog X.w) X.A (spliced (backTo pos (starEach es X.env))) (AP X pins σ Q) X.xe s
noncomputable def PS (X:Cx) (st:Stmt) (t:TS):Prop :=
 ∀ (pins:List (Addr × Obj)) (s:Shared) (σ:St) (H:Hp) (D:qH),Inv X pins σ H s->t D σ H->wpAny (model X.prog X.w) X.A (exec st X.env) (SP X pins D) X.xe s
noncomputable def PSs (X:Cx) (st:List Stmt) (t:TS):Prop :=
 ∀ (pins:List (Addr × Obj)) (s:Shared) (σ:St) (H:Hp) (D:qH),Inv X pins σ H s->t D σ H->wpAny (model X.prog X.w) X.A (execs st X.env) (SP X pins D) X.xe s
theorem thn {α:Type} {t:Sem α} {Q Q':α->Shared->Prop} {M:Model} {A:Around} {E:Value->Shared->Prop} {s:Shared} (h:wpAny M A t Q E s) (hQ:∀ a s,Q a s->Q' a s):wpAny M A t Q' E s:=wpAny_mono h hQ fun _ _ x=>x
end L2
namespace L2
open PySem PySem.Spec PyProof.Rows
section
variable {X:Cx}
noncomputable def aLP (i:Nat):TE:=fun σ H Q=>∃ v,σ[i]? = some (some v)/\Q v H
noncomputable def tC (v:V):TE:=fun _ H Q=>Q v H
theorem aB7 {i:Nat} {x:Str} {pos:Pos} (hN:X.N[i]? = some x) (hv:Vis X.env.scope x) (hd:(x == ("__debug__":Str)) = false:=by decide) (hcd:(x == ("__classdict__":Str)) = false:=by decide):PE X (.Name x pos) (aLP i):=by
 intro pins s σ H Q I h
 obtain ⟨v,e,h⟩:=h
 obtain ⟨m,hn,hl⟩:=I.loc
 obtain ⟨u,r,l⟩:=hl i x v hN e hv
 have fin:EP X pins σ Q u s:=⟨v,H,I,r,h⟩
 rcases l with ⟨hk,hm⟩ | ⟨hk,c,hc,hcell⟩
 ·exact wpAny_Name (wpAny_loadName_local I.ok.kind hk hn hm fin) hd
 ·rcases hk with hk | hk
  ·exact wpAny_Name (wpAny_loadName_cell I.ok.kind hk hc hcell fin) hd
  ·exact wpAny_Name (wpAny_loadName_free I.ok.kind hk hc hcell fin hcd) hd
theorem aId {i j pos}:PE X (.Constant (.int i) j pos) (tC (.int i)):=fun _ _ _ H _ I h=>wpAny_Constant_int ⟨.int i,H,I.tok _,⟨_,rfl⟩,h⟩
theorem aLA {b j pos}:PE X (.Constant (.bool b) j pos) (tC (.bl b)):=fun _ _ _ H _ I h=>Constant_bool ⟨.bl b,H,I,rfl,h⟩
theorem aIN {j pos}:PE X (.Constant .none j pos) (tC .non):=fun _ _ _ H _ I h=>Constant_none ⟨.non,H,I,rfl,h⟩
theorem aIm {x j pos}:PE X (.Constant (.str x) j pos) (tC (.str x)):=fun _ _ _ H _ I h=>Calls.Constant_str ⟨.str x,H,I.tok _,⟨_,rfl⟩,h⟩
noncomputable def Gl (X:Cx) (x:Str):Prop:=X.env.kindOf x = some .globalImplicit
theorem lT {E:Value->Shared->Prop} {pins:List (Addr × Obj)} {s:Shared} {σ:St} {H:Hp} {x:Str} {u:Value} {pos:Pos} {Q:Value->Shared->Prop} (I:Inv X pins σ H s) (hg:Gl X x) (hm:X.mg x = some u) (h:Q u s)
  (hd:(x == ("__debug__":Str)) = false:=by decide):wpAny (model X.prog X.w) X.A (eval (.Name x pos) X.env) Q E s :=
 Calls.Name_function_global I.ok.kind hg (Calls.loadGlobal_global (by rw [I.ok.glob];exact I.mod.glob.keeps I.bk) hm h) hd
theorem aAw {E:Value->Shared->Prop} {pins:List (Addr × Obj)} {s:Shared} {σ:St} {H:Hp} {x:Str} {u:Value} {pos:Pos} {Q:Value->Shared->Prop} (I:Inv X pins σ H s) (hg:Gl X x) (hm:X.mg x = none) (hv:bootBuiltins x = some u) (h:Q u s)
  (hn:x ≠ "__name__":=by decide) (hd:(x == ("__debug__":Str)) = false:=by decide):wpAny (model X.prog X.w) X.A (eval (.Name x pos) X.env) Q E s:=by
 obtain ⟨mb,h1,h2⟩:=I.mod.blt
 exact Calls.Name_function_global I.ok.kind hg (Calls.loadGlobal_builtin (by rw [I.ok.glob];exact I.mod.glob.keeps I.bk) hm (by rw [I.ok.blt];exact h1.keeps I.bk) ((h2 x hn).trans hv) h) hd
theorem aC5 {x:Str} {v:V} {u:Value} {pos:Pos} (hg:Gl X x) (hm:X.mg x = some u) (r:bW v u) (hd:(x == ("__debug__":Str)) = false:=by decide):PE X (.Name x pos) (tC v) :=
 fun _ _ _ H _ I h=>lT I hg hm ⟨v,H,I,r,h⟩ hd
theorem aG2 {x:Str} {v:V} {u:Value} {pos:Pos} (hg:Gl X x) (hm:X.mg x = none) (hv:bootBuiltins x = some u) (r:bW v u) (hn:x ≠ "__name__":=by decide) (hd:(x == ("__debug__":Str)) = false:=by decide):PE X (.Name x pos) (tC v) :=
 fun _ _ _ H _ I h=>aAw I hg hm hv ⟨v,H,I,r,h⟩ hn hd
variable {a b:Expr} {ta tb:TE} {pos:Pos}
noncomputable def tB (t:TE):TT:=fun σ H Q=>t σ H fun x H1=>∃ c,x = .bl c/\Q c H1
theorem aIu {e:Expr} {t:TE} (h:PE X e t) (he:∀ whole,isTrue e X.env whole = (do let v <- whole;standAt e.pos;holding [v] (truthy v)):=by intro _;rfl):PT X e (tB t):=by
 intro pins s σ H Q I hw
 refine isTrue_plain (thn (h pins s σ H _ I hw) fun v s1 ⟨x,H1,I1,r1,q1⟩=>?_) (he _)
 obtain ⟨d,rfl,q⟩:=q1
 cases r1
 exact wpAny_truthy_bool ⟨H1,I1,q⟩
variable {tA tB':TT} {cE:List Expr}
noncomputable def aL6 (t u:TT):TT:=fun σ H Q=>t σ H fun c H1=>if c = true then u σ H1 Q else Q false H1
noncomputable def tOr (t u:TT):TT:=fun σ H Q=>t σ H fun c H1=>if c = true then Q true H1 else u σ H1 Q
theorem aFP (ha:PT X a tA):PW X (.BoolOp .And [a] pos) tA:=by
 intro wh pins s σ H Q I h
 refine isTrue_and (thn (ha pins s σ H Q I h) fun c s1 e=>?_)
 cases c with
 | true=>exact isTrue_and_nil e
 | false=>exact e
theorem aJs (ha:PT X a tA):PW X (.BoolOp .Or [a] pos) tA:=by
 intro wh pins s σ H Q I h
 refine isTrue_or (thn (ha pins s σ H Q I h) fun c s1 e=>?_)
 cases c with
 | false=>exact isTrue_or_nil e
 | true=>exact e
theorem aJN (ha:PT X a tA) (hb:PW X (.BoolOp .And (b :: cE) pos) tB'):PW X (.BoolOp .And (a :: b :: cE) pos) (aL6 tA tB'):=by
 intro wh pins s σ H Q I h
 refine isTrue_and (thn (ha pins s σ H _ I h) fun c s1 ⟨H1,I1,q1⟩=>?_)
 cases c with
 | true=>exact hb wh pins s1 σ H1 Q I1 q1
 | false=>exact ⟨H1,I1,q1⟩
theorem aK4 (ha:PT X a tA) (hb:PW X (.BoolOp .Or (b :: cE) pos) tB'):PW X (.BoolOp .Or (a :: b :: cE) pos) (tOr tA tB'):=by
 intro wh pins s σ H Q I h
 refine isTrue_or (thn (ha pins s σ H _ I h) fun c s1 ⟨H1,I1,q1⟩=>?_)
 cases c with
 | true=>exact ⟨H1,I1,q1⟩
 | false=>exact hb wh pins s1 σ H1 Q I1 q1
noncomputable def aKO (ta tb:TE):TE:=fun σ H Q=>ta σ H fun x H1=>∃ c,x = .bl c/\if c = true then tb σ H1 Q else Q (.bl false) H1
noncomputable def aLQ (ta tb:TE):TE:=fun σ H Q=>ta σ H fun x H1=>∃ c,x = .bl c/\if c = true then Q (.bl true) H1 else tb σ H1 Q
noncomputable def aLj (ta:TE):TE:=fun σ H Q=>ta σ H fun x H1=>∃ c,x = .bl c/\Q (.bl (!c)) H1
theorem aH9 {op} {t:TE} (h:PE X a t):PE X (.BoolOp op [a] pos) t:=fun pins s σ H Q I hw=>BoolOp_one (h pins s σ H Q I hw)
theorem aIx (ha:PE X a ta) (hb:PE X (.BoolOp .And (b :: cE) pos) tb):PE X (.BoolOp .And (a :: b :: cE) pos) (aKO ta tb):=by
 intro pins s σ H Q I h
 refine BoolOp_and (thn (ha pins s σ H _ I h) fun v s1 ⟨x,H1,I1,r1,q1⟩=>?_)
 obtain ⟨c,rfl,q1⟩:=q1
 cases r1
 refine wpAny_truthy_bool ?_
 cases c with
 | true=>exact hb pins s1 σ H1 Q I1 q1
 | false=>exact ⟨.bl false,H1,I1,rfl,q1⟩
theorem aK8 (ha:PE X a ta) (hb:PE X (.BoolOp .Or (b :: cE) pos) tb):PE X (.BoolOp .Or (a :: b :: cE) pos) (aLQ ta tb):=by
 intro pins s σ H Q I h
 refine BoolOp_or (thn (ha pins s σ H _ I h) fun v s1 ⟨x,H1,I1,r1,q1⟩=>?_)
 obtain ⟨c,rfl,q1⟩:=q1
 cases r1
 refine wpAny_truthy_bool ?_
 cases c with
 | false=>exact hb pins s1 σ H1 Q I1 q1
 | true=>exact ⟨.bl true,H1,I1,rfl,q1⟩
theorem aIt (ha:PE X a ta):PE X (.UnaryOp .Not a pos) (aLj ta):=by
 intro pins s σ H Q I h
 refine UnaryOp_ (thn (ha pins s σ H _ I h) fun v s1 ⟨x,H1,I1,r1,q1⟩=>?_)
 obtain ⟨c,rfl,q1⟩:=q1
 cases r1
 exact not_of (wpAny_truthy_bool ⟨.bl (!c),H1,I1,rfl,q1⟩)
noncomputable def tIf (t:TT) (ta tb:TE):TE:=fun σ H Q=>t σ H fun c H1=>if c = true then ta σ H1 Q else tb σ H1 Q
theorem aFG {c:Expr} (hc:PT X c tA) (ha:PE X a ta) (hb:PE X b tb):PE X (.IfExp c a b pos) (tIf tA ta tb):=by
 intro pins s σ H Q I h
 refine wpAny_IfExp (thn (hc pins s σ H _ I h) fun d s1 ⟨H1,I1,q1⟩=>?_)
 cases d with
 | true=>exact ha pins s1 σ H1 Q I1 q1
 | false=>exact hb pins s1 σ H1 Q I1 q1
end
end L2
namespace L2
open PySem PySem.Spec PyProof.Rows
noncomputable def SqL (K:PySem.W.Frag) (H:Hp) (a:Addr) (xs:List V):Prop :=
 Rd H a (.lst xs) ∨
  ∃ (o:Obj) (its:Array Value) (n:Nat),K.lookup a = some o/\o.cls = .type "list"/\o.dict = none/\o.data = .seq its n/\its.size<=sizeLine/\bR xs its.toList
noncomputable def SqT (K:PySem.W.Frag) (H:Hp) (a:Addr) (xs:List V):Prop :=
 Rd H a (.tup xs) ∨
  ∃ (o:Obj) (its:Array Value) (n:Nat),K.lookup a = some o/\o.cls = .type "tuple"/\o.data = .seq its n/\its.size<=sizeLine/\bR xs its.toList
noncomputable def aLL:Value->Option V
 | .none=>some .non
 | .bool b=>some (.bl b)
 | .int i _=>some (.int i)
 | .str x _=>some (.str x)
 | .bytes b _=>some (.byt b)
 | .float b _=>some (.flt b)
 | .ref a=>some (.ref a)
 | .type n=>some (.ty n)
 | _=>none
theorem bW.abs {x:V} {u:Value} (r:bW x u):aLL u = some x:=by
 cases x with
 | non=>cases r;rfl
 | bl _=>cases r;rfl
 | int _=>obtain ⟨t,rfl⟩:=r;rfl
 | str _=>obtain ⟨t,rfl⟩:=r;rfl
 | byt _=>obtain ⟨t,rfl⟩:=r;rfl
 | flt _=>obtain ⟨t,rfl⟩:=r;rfl
 | ref _=>cases r;rfl
 | ty _=>cases r;rfl
theorem bW.inj {x y:V} {u:Value} (r:bW x u) (q:bW y u):x = y:=Option.some.inj (r.abs.symm.trans q.abs)
theorem bR.inj:∀ {xs ys:List V} {us:List Value},bR xs us->bR ys us->xs = ys
 | _,_,_,.nil,.nil=>rfl
 | _,_,_,.cons r t,.cons r' t'=>by rw [r.inj r',bR.inj t t']
section
variable {X:Cx} {pins:List (Addr × Obj)} {σ:St} {H:Hp} {s:Shared} {a:Addr} {xs ys:List V}
theorem SqL.of {K:PySem.W.Frag} (h:H a = some (.lst xs)):SqL K H a xs:=.inl (.inl h)
theorem SqT.of {K:PySem.W.Frag} (h:H a = some (.tup xs)):SqT K H a xs:=.inl (.inl h)
theorem Inv.list (I:Inv X pins σ H s) (h:SqL X.K H a xs):∃ its:List Value,bR xs its/\PlainL s.heap a its.toArray/\xs.length<=sizeLine:=by
 rcases h with h | ⟨o,its,n,hk,hc,hd,hs,hz,r⟩
 ·obtain ⟨z,its,n,r,e⟩:=h.ok I.hok
  exact ⟨its,r,⟨_,n,e,rfl,rfl,rfl⟩,z⟩
 ·refine ⟨its.toList,r,⟨o,n,I.kIn a o hk,hc,hd,by simpa using hs⟩,?_⟩
  have e:=r.length
  simp only [Array.length_toList] at e
  omega
theorem Inv.tuple (I:Inv X pins σ H s) (h:SqT X.K H a xs):∃ its:List Value,bR xs its/\IsTup s.heap a its.toArray/\xs.length<=sizeLine:=by
 rcases h with h | ⟨o,its,n,hk,hc,hs,hz,r⟩
 ·obtain ⟨z,its,r,p⟩:=h.ok I.hok
  exact ⟨its,r,p,z⟩
 ·refine ⟨its.toList,r,⟨o,I.kIn a o hk,hc,n,by simpa using hs⟩,?_⟩
  have e:=r.length
  simp only [Array.length_toList] at e
  omega
theorem Inv.list_inj (I:Inv X pins σ H s) (h:SqL X.K H a xs) (h':SqL X.K H a ys):xs = ys:=by
 obtain ⟨its,r,⟨o,n,e,_,_,d⟩,_⟩:=I.list h
 obtain ⟨its',r',⟨o',n',e',_,_,d'⟩,_⟩:=I.list h'
 rw [e] at e';cases e'
 rw [d] at d'
 injection d' with d1 _
 have:its = its':=by simpa using congrArg Array.toList d1
 subst this
 exact r.inj r'
theorem Inv.tuple_inj (I:Inv X pins σ H s) (h:SqT X.K H a xs) (h':SqT X.K H a ys):xs = ys:=by
 obtain ⟨its,r,⟨o,e,_,n,d⟩,_⟩:=I.tuple h
 obtain ⟨its',r',⟨o',e',_,n',d'⟩,_⟩:=I.tuple h'
 rw [e] at e';cases e'
 rw [d] at d'
 injection d' with d1 _
 have:its = its':=by simpa using congrArg Array.toList d1
 subst this
 exact r.inj r'
end
noncomputable abbrev Cx.wish (X:Cx) (E:Value->Shared->Prop):Cx:={ X with xe:=E }
noncomputable abbrev Cx.nox (X:Cx):Cx:=X.wish fun _ _=>False
theorem Cx.Ok.wish {X:Cx} (ok:X.Ok) (E:Value->Shared->Prop):(X.wish E).Ok :=
 ⟨ok.mod,ok.kind,ok.glob,ok.blt,ok.above,ok.inj,ok.has,ok.cab,ok.hd,ok.frames,ok.stk,ok.exf,ok.bs,ok.bsz,ok.noex,ok.exfs,ok.funs,ok.frf⟩
theorem Cx.Ok.unwish {X:Cx} {E:Value->Shared->Prop} (ok:(X.wish E).Ok):X.Ok :=
 ⟨ok.mod,ok.kind,ok.glob,ok.blt,ok.above,ok.inj,ok.has,ok.cab,ok.hd,ok.frames,ok.stk,ok.exf,ok.bs,ok.bsz,ok.noex,ok.exfs,ok.funs,ok.frf⟩
section
variable {X:Cx} {pins:List (Addr × Obj)} {σ:St} {H:Hp} {s:Shared} {E:Value->Shared->Prop}
theorem Inv.wish (I:Inv X pins σ H s) (E:Value->Shared->Prop):Inv (X.wish E) pins σ H s:=⟨I.ok.wish E,I.os,I.bare,I.base,I.loc,I.cell,I.free,I.freeC,I.pin,I.hok,I.len⟩
theorem Inv.unwish (I:Inv (X.wish E) pins σ H s):Inv X pins σ H s:=⟨I.ok.unwish,I.os,I.bare,I.base,I.loc,I.cell,I.free,I.freeC,I.pin,I.hok,I.len⟩
theorem SP.unwish {D:qH} {f:Flow} {s':Shared} (h:SP (X.wish E) pins D f s'):SP X pins D f s':=by
 cases f with
 | next=>obtain ⟨σ',H',I,q⟩:=h;exact ⟨σ',H',I.unwish,q⟩
 | brk=>obtain ⟨σ',H',I,q⟩:=h;exact ⟨σ',H',I.unwish,q⟩
 | cont=>obtain ⟨σ',H',I,q⟩:=h;exact ⟨σ',H',I.unwish,q⟩
 | ret u=>obtain ⟨v,σ',H',I,r,q⟩:=h;exact ⟨v,σ',H',I.unwish,r,q⟩
theorem PSs.nox {st:List Stmt} {t:TS} (h:PSs X.nox st t):PSs X st t:=fun pins s σ H D I hw =>
 wpAny_mono (h pins s σ H D (I.wish _) hw) (fun _ _ q=>q.unwish) fun _ _ z=>False.elim z
end
section
variable {X:Cx} {st:Stmt} {cE:List Stmt} {t u:TS} {e:Expr} {te:TE} {pos:Pos}
noncomputable def aLs:TS:=fun D σ H=>D.nx σ H
noncomputable def aLT (t u:TS):TS:=fun D σ H=>t { D with nx:=u D } σ H
theorem aFQ:PSs X [] aLs:=fun _ _ σ H _ I h=>wpAny_execs_nil ⟨σ,H,I,h⟩
theorem aA8 (h1:PS X st t) (h2:PSs X cE u):PSs X (st :: cE) (aLT t u):=by
 intro pins s σ H D I h
 refine wpAny_execs_cons (thn (h1 pins s σ H { D with nx:=u D } I h) fun f s1 q=>?_)
 cases f with
 | next =>
  obtain ⟨σ',H',I',q⟩:=q
  exact h2 pins s1 σ' H' D I' q
 | ret v=>exact q
 | brk=>exact q
 | cont=>exact q
theorem aF7 (h1:PS X st t):PSs X [st] t:=by
 intro pins s σ H D I h
 refine wpAny_execs_cons (thn (h1 pins s σ H D I h) fun f s1 q=>?_)
 cases f with
 | next=>exact wpAny_execs_nil q
 | ret v=>exact q
 | brk=>exact q
 | cont=>exact q
theorem Inv.quiet {pins:List (Addr × Obj)} {σ:St} {H:Hp} {s:Shared} (I:Inv X pins σ H s):interactive X.env = false:=by simp [interactive,I.ok.kind]
noncomputable def aKK (te:TE):TS:=fun D σ H=>te σ H fun _ H1=>D.nx σ H1
theorem aGl (he:PE X e te) (hs:swapsWith e none pos.line X.env = pure false:=by rfl):PS X (.Expr e pos) (aKK te):=by
 intro pins s σ H D I h
 exact wpAny_Expr_any (thn (he pins s σ H _ I h) fun v s1 ⟨x,H1,I1,r1,q1⟩=>⟨σ,H1,I1,q1⟩) I.quiet hs
noncomputable def aMb (te:TE):TS:=fun D σ H=>te σ H D.rt
theorem aIi (he:PE X e te):PS X (.Return (some e) pos) (aMb te):=by
 intro pins s σ H D I h
 exact wpAny_Return_some (thn (he pins s σ H _ I h) fun v s1 ⟨x,H1,I1,r1,q1⟩=>⟨x,σ,H1,I1,r1,q1⟩)
noncomputable def aLV (c:TT) (t u:TS):TS:=fun D σ H=>c σ H fun b H1=>if b = true then t D σ H1 else u D σ H1
theorem aKJ {c:Expr} {a b:List Stmt} {tc:TT} (hc:PT X c tc) (ha:PSs X a t) (hb:PSs X b u):PS X (.If c a b pos) (aLV tc t u):=by
 intro pins s σ H D I h
 refine wpAny_If (thn (hc pins s σ H _ I h) fun d s1 ⟨H1,I1,q1⟩=>?_)
 cases d with
 | true=>exact ha pins s1 σ H1 D I1 q1
 | false=>exact hb pins s1 σ H1 D I1 q1
end
noncomputable abbrev TG:=V->St->Hp->(St->Hp->Prop)->Prop
noncomputable abbrev TGs:=List V->St->Hp->(St->Hp->Prop)->Prop
noncomputable def PG (X:Cx) (target:Expr) (t:TG):Prop :=
 ∀ (pins:List (Addr × Obj)) (s:Shared) (σ:St) (H:Hp) (v:V) (u:Value) (Q:St->Hp->Prop),Inv X pins σ H s->bW v u->t v σ H Q ->
  wpAny (model X.prog X.w) X.A (assign target X.env u) (fun _ s'=>∃ σ' H',Inv X pins σ' H' s'/\Q σ' H') X.xe s
noncomputable def PGs (X:Cx) (ts:List Expr) (t:TGs):Prop :=
 ∀ (pins:List (Addr × Obj)) (s:Shared) (σ:St) (H:Hp) (vs:List V) (us:List Value) (Q:St->Hp->Prop),Inv X pins σ H s->bR vs us->t vs σ H Q ->
  wpAny (model X.prog X.w) X.A (assignInOrder ((assignEach ts X.env).map (·.2)) us) (fun _ s'=>∃ σ' H',Inv X pins σ' H' s'/\Q σ' H') X.xe s
noncomputable abbrev TIp:=V->V->Hp->VK->Prop
noncomputable def PIp (X:Cx) (op:Operator) (t:TIp):Prop :=
 ∀ (pins:List (Addr × Obj)) (s:Shared) (σ:St) (H:Hp) (x y:V) (v u:Value) (Q:VK),Inv X pins σ H s->bW x v->bW y u->t x y H Q ->
  wpAny (model X.prog X.w) X.A (inplaceOp op v u) (EP X pins σ Q) X.xe s
section
variable {X:Cx} {pos:Pos}
noncomputable def aHB (i:Nat):TG:=fun v σ H Q=>Q (σ.set i (some v)) H
theorem aF2 {i:Nat} {x:Str} (hN:X.N.Nodup) (hi:X.N[i]? = some x) (hx:Loc X.env.scope x) (hf:X.fn x = true ∨ X.env.scope.names.lookup x = some .local:=by first | exact .inl rfl | exact .inr rfl | assumption):PG X (.Name x pos) (aHB i):=by
 intro pins s σ H v u Q I r h
 exact wpAny_assign_Name (mE I hN hi hx r (fun s' I'=>⟨_,H,I',h⟩) hf)
noncomputable def aMa:TGs:=fun vs σ H Q=>vs = []/\Q σ H
noncomputable def aKX (t:TG) (u:TGs):TGs:=fun vs σ H Q=>∃ v r,vs = v :: r/\t v σ H fun σ' H'=>u r σ' H' Q
theorem aGj:PGs X [] aMa:=by
 intro pins s σ H vs us Q I r h
 obtain ⟨e,h⟩:=h
 subst e
 cases r
 exact assignInOrder_nil ⟨σ,H,I,h⟩
theorem aEK {e:Expr} {es:List Expr} {t:TG} {u:TGs} (h1:PG X e t) (h2:PGs X es u)
  (hs:(assignEach (e :: es) X.env).map (·.2) = assign e X.env :: (assignEach es X.env).map (·.2):=by rfl):PGs X (e :: es) (aKX t u):=by
 intro pins s σ H vs us Q I r h
 obtain ⟨v,vr,e1,h⟩:=h
 subst e1
 cases r with
 | cons r rr =>
  rw [hs]
  refine assignInOrder_cons (thn (h1 pins s σ H _ _ _ I r h) fun _ s1 ⟨σ1,H1,I1,q1⟩=>?_)
  exact h2 pins s1 σ1 H1 _ _ Q I1 rr q1
noncomputable def aL1 (K:PySem.W.Frag) (n:Nat) (t:TGs):TG:=fun v σ H Q=>∃ a xs,v = .ref a/\SqT K H a xs/\xs.length = n/\t xs σ H Q
theorem aJm {es:List Expr} {k:Nat} {t:TGs} {n:Nat} (hc:X.calm = true) (h:PGs X es t)
  (hn:(assignEach es X.env).length = n:=by rfl) (hst:(assignEach es X.env).findIdx? (·.1) = none:=by rfl):PG X (.Tuple es k pos) (aL1 X.K n t):=by
 intro pins s σ H v u Q I r hw
 obtain ⟨a,xs,e1,hq,hl,hw⟩:=hw
 subst e1
 cases r
 obtain ⟨its,rv,ht,hz⟩:=I.tuple hq
 refine assign_Tuple_tuple (I.ok.hd hc) ht (by simp [hn,<- hl,rv.length]) hst fun h' hx=>?_
 have I1:Inv X pins σ H { s with heap:=h' }:=I.kept (t':=s.toks) fun b o e=>hx b o (Nat.ne_of_lt (Heap.lt_size e)) e
 exact h pins _ σ H xs _ Q I1 (by simpa using rv) hw
noncomputable def aLg (te:TE) (g:TG):TS:=fun D σ H=>te σ H fun x H1=>g x σ H1 D.nx
theorem aJV {tg e:Expr} {te:TE} {g:TG} (he:PE X e te) (hg:PG X tg g) (hs:swapsWithSole [tg] e pos.line X.env = pure false:=by rfl) (hw:swappedStores [tg] e X.env = pure none:=by rfl)
  (h1:(assignEach [tg] X.env).map (·.2) = [assign tg X.env]:=by rfl):PS X (.Assign [tg] e pos) (aLg te g):=by
 intro pins s σ H D I h
 refine wpAny_Assign_stores (thn (he pins s σ H _ I h) fun v s1 ⟨x,H1,I1,r1,q1⟩=>?_) hs hw
 rw [h1]
 exact thn (hg pins s1 σ H1 x v _ I1 r1 q1) fun _ s2 q=>q
theorem aHY {i:Nat} {x:Str} {e:Expr} {te:TE} {pos':Pos} (hN:X.N.Nodup) (hi:X.N[i]? = some x) (hx:Loc X.env.scope x) (he:PE X e te) (hs:swapsWith e (some (.Name x pos')) pos.line X.env = pure false:=by rfl) (hf:X.fn x = true ∨ X.env.scope.names.lookup x = some .local:=by first | exact .inl rfl | exact .inr rfl | assumption) :
  PS X (.Assign [.Name x pos'] e pos) (aLg te (aHB i)):=by
 intro pins s σ H D I h
 refine wpAny_Assign_Name (thn (he pins s σ H _ I h) fun v s1 ⟨y,H1,I1,r1,q1⟩=>?_) hs
 exact mE I1 hN hi hx r1 (fun s2 I2=>⟨_,H1,I2,q1⟩) hf
noncomputable def aMc (i j:Nat) (ta:TA):TS:=fun D σ H=>ta σ H fun vs H1=>∃ v w,vs = [v,w]/\D.nx ((σ.set i (some v)).set j (some w)) H1
theorem aJ5 {i j:Nat} {x y:Str} {a b:Expr} {ta:TA} {px py pt:Pos} {kt k2 pt2} (hc:X.calm = true) (hN:X.N.Nodup) (hi:X.N[i]? = some x) (hj:X.N[j]? = some y) (hij:i ≠ j)
  (hx:X.env.scope.names.lookup x = some .local) (hy:X.env.scope.names.lookup y = some .local) (ha:PA X [a,b] ta)
  (hw:swappedStores [.Tuple [.Name x px,.Name y py] kt pt] (.Tuple [a,b] k2 pt2) X.env = pure (some [x,y]))
  (hs:swapsWithSole [.Tuple [.Name x px,.Name y py] kt pt] (.Tuple [a,b] k2 pt2) pos.line X.env = pure false:=by rfl) :
  PS X (.Assign [.Tuple [.Name x px,.Name y py] kt pt] (.Tuple [a,b] k2 pt2) pos) (aMc i j ta):=by
 intro pins s σ H D I h
 rw [exec_Assign_arm]
 refine wpAny_bind (wpAny_standAt ?_)
 rw [hs]
 refine wpAny_bind (wpAny_pure ?_)
 rw [if_neg (by decide)]
 refine wpAny_bind (Tuple_ (thn (ha _ pins s σ H _ I h) fun us s1 ⟨vs,H1,I1,r1,q1⟩=>?_))
 obtain ⟨v,w,e1,q1⟩:=q1
 subst e1
 obtain ⟨u1,u2,rfl,rv,rw'⟩:∃ u1 u2,us = [u1,u2]/\bW v u1/\bW w u2:=by
  cases r1 with
  | cons p q =>
   cases q with
   | cons p' q' =>
    cases q'
    exact ⟨_,_,rfl,p,p'⟩
 refine wpAny_newObj_type ?_ (by show 2<=sizeLine;decide)
 have I2:Inv X pins σ H1 { s1 with heap:=s1.heap.push { cls:=.type "tuple",data:=.seq [u1,u2].toArray } }:=I1.kept (t':=s1.toks) fun b o e=>Heap.get?_push_of_some _ e
 rw [hw]
 refine wpAny_bind (wpAny_pure ?_)
 show wpAny (model X.prog X.w) X.A (do rule "assign.swapped-stores";let items <- unpackItems (.ref s1.heap.objs.size) 2 none;assignInOrder [fun v=>bindName X.env y v,fun v=>bindName X.env x v] items.reverse;pure Flow.next) _ _ _
 refine wpAny_bind (wpAny_rule (wpAny_bind (unpackItems_tuple (items:=#[u1,u2]) (I.ok.hd hc) (IsTup.new s1.heap _) fun h' hx'=>?_)))
 have I3:=I2.kept (h':=h') (t':=s1.toks) fun b o e=>hx' b o (Nat.ne_of_lt (Heap.lt_size e)) e
 show wpAny _ _ (assignInOrder [fun v=>bindName X.env y v,fun v=>bindName X.env x v] [u2,u1] >>= fun _=>pure Flow.next) _ _ _
 refine wpAny_bind (assignInOrder_cons (wpAny_bindName (mE I3 hN hj (.inl hy) rw' (fun s2 I4=>?_) (.inr hy))))
 refine assignInOrder_cons (wpAny_bindName (mE I4 hN hi (.inl hx) rv (fun s3 I5=>assignInOrder_nil (wpAny_pure ?_)) (.inr hx)))
 rw [List.set_comm _ _ (Ne.symm hij)] at I5
 exact ⟨_,H1,I5,q1⟩
noncomputable def aL3 (i:Nat) (te:TE) (ti:TIp):TS:=fun D σ H=>∃ x,σ[i]? = some (some x)/\te σ H fun y H1=>ti x y H1 fun z H2=>D.nx (σ.set i (some z)) H2
theorem aEo {i:Nat} {x:Str} {e:Expr} {te:TE} {op:Operator} {ti:TIp} {pos':Pos} (hN:X.N.Nodup) (hi:X.N[i]? = some x) (hx:Loc X.env.scope x) (he:PE X e te) (ho:PIp X op ti) (hf:X.fn x = true ∨ X.env.scope.names.lookup x = some .local:=by first | exact .inl rfl | exact .inr rfl | assumption) :
  PS X (.AugAssign (.Name x pos') op e pos) (aL3 i te ti):=by
 intro pins s σ H D I h
 obtain ⟨v,e1,h⟩:=h
 obtain ⟨m,hn,hl⟩:=I.loc
 have vis:Vis X.env.scope x:=by rcases hx with k | k;exact .inl k;exact .inr (.inl k)
 obtain ⟨u,r,l⟩:=hl i x v hi e1 vis
 refine wpAny_AugAssign_Name ?_
 have go:wpAny (model X.prog X.w) X.A (eval e X.env) (fun w s₂=>wpAny (model X.prog X.w) X.A (inplaceOp op u w) (fun r s₃=>wpAny (model X.prog X.w) X.A (storeName X.env x r) (fun _=>SP X pins D .next) X.xe s₃) X.xe s₂) X.xe s:=by
  refine thn (he pins s σ H _ I h) fun w s1 ⟨y,H1,I1,r1,q1⟩=>?_
  refine thn (ho pins s1 σ H1 v y u w _ I1 r r1 q1) fun z s2 ⟨zv,H2,I2,r2,q2⟩=>?_
  exact mE I2 hN hi hx r2 (fun s3 I3=>⟨_,H2,I3,q2⟩) hf
 rcases l with ⟨hk,hm⟩ | ⟨hk,c,hc,hcell⟩
 ·exact wpAny_loadName_local I.ok.kind hk hn hm go
 ·rcases hk with hk | hk
  ·exact wpAny_loadName_cell I.ok.kind hk hc hcell go
  ·rcases hx with k | k
   ·have:X.env.scope.names.lookup x = some .free:=hk
    rw [k] at this;cases this
   ·have:X.env.scope.names.lookup x = some .free:=hk
    rw [k] at this;cases this
noncomputable def ipI (f:Int->Int->Int):TIp:=fun x y H Q=>∃ i j,x = .int i/\y = .int j/\Q (.int (f i j)) H
theorem vR:PIp X .Add (ipI fun i j=>i + j):=by
 intro pins s σ H x y v u Q I r1 r2 h
 obtain ⟨i,j,e1,e2,q⟩:=h
 subst e1;subst e2
 obtain ⟨t,rfl⟩:=r1
 obtain ⟨t',rfl⟩:=r2
 exact iadd_int ⟨.int _,H,I.tok _,⟨_,rfl⟩,q⟩
theorem aJb:PIp X .Sub (ipI fun i j=>i - j):=by
 intro pins s σ H x y v u Q I r1 r2 h
 obtain ⟨i,j,e1,e2,q⟩:=h
 subst e1;subst e2
 obtain ⟨t,rfl⟩:=r1
 obtain ⟨t',rfl⟩:=r2
 exact isub_int ⟨.int _,H,I.tok _,⟨_,rfl⟩,q⟩
end
section
variable {X:Cx} {pos:Pos}
noncomputable def aH4 (c:TT) (tb:TS):TS:=fun D σ H=>∃ W:Nat->St->Hp->Prop,(∃ m,W m σ H)/\∀ m σ H,W m σ H ->
 c σ H fun b H1=>if b = true then ∃ N:St->Hp->Prop,(∀ σ' H',N σ' H'->∃ m',m' < m/\W m' σ' H')/\tb { D with nx:=N,ct:=N,bk:=D.nx } σ H1 else D.nx σ H1
theorem aEn {c:Expr} {body:List Stmt} {tc:TT} {tb:TS} (hp:PassesOwn (model X.prog X.w) X.A X.env X.xe) (hc:PT X c tc) (hb:PSs X body tb):PS X (.While c body [] pos) (aH4 tc tb):=by
 intro pins s σ H D I h
 obtain ⟨W,⟨m0,w0⟩,turn⟩:=h
 refine wpAny_While (codeAny_whileLoop (fun n s'=>∃ σ' H',Inv X pins σ' H' s'/\W n σ' H') ?_ m0 ⟨σ,H,I,w0⟩)
 rintro n s1 ⟨σ1,H1,I1,w1⟩
 refine wpAny_passesOwn hp (thn (hc pins s1 σ1 H1 _ I1 (turn n σ1 H1 w1)) fun b s2 ⟨H2,I2,q2⟩=>?_)
 cases b with
 | true =>
  obtain ⟨N,hN,q2⟩:=q2
  rw [if_pos rfl]
  refine wpAny_passesOwn hp (thn (hb pins s2 σ1 H2 _ I2 q2) fun f s3 q3=>?_)
  cases f with
  | next =>
   obtain ⟨σ3,H3,I3,n3⟩:=q3
   obtain ⟨m',hm,w3⟩:=hN σ3 H3 n3
   exact ⟨m',hm,σ3,H3,I3,w3⟩
  | cont =>
   obtain ⟨σ3,H3,I3,n3⟩:=q3
   obtain ⟨m',hm,w3⟩:=hN σ3 H3 n3
   exact ⟨m',hm,σ3,H3,I3,w3⟩
  | brk=>exact q3
  | ret v=>exact q3
 | false =>
  rw [if_neg Bool.false_ne_true]
  exact wpAny_execs_nil ⟨σ1,H2,I2,q2⟩
end
structure It where
 go:Nat->Hp->Prop
 yld:Nat->Hp->V->Hp->Prop
 stop:Nat->Hp->Prop
noncomputable def aBs (X:Cx) (pins:List (Addr × Obj)) (H:Hp) (b:Addr):Prop :=
 H b = none/\b ≠ X.env.locals/\b ∉ X.fs/\(b ∈ X.ex ∨ X.s₀.heap.objs.size<=b)/\(∀ x c,X.env.cells.lookup x = some c->c ≠ b)/\∀ p ∈ X.pn ++ pins,p.1 ≠ b
theorem Inv.fpOk {X:Cx} {pins:List (Addr × Obj)} {σ:St} {H H':Hp} {s:Shared} {b:Addr} (I:Inv X pins σ H s) (hb:s.heap.objs.size<=b) (hn:H' b = none):aBs X pins H' b:=by
 refine ⟨hn,Nat.ne_of_gt (Nat.lt_of_lt_of_le I.lt hb),I.nofs hb,.inr (Nat.le_trans I.sz hb),fun x c e z=>?_,fun p hp z=>?_⟩
 ·obtain ⟨v,q⟩:=I.cell x c e
  exact absurd (Nat.lt_of_lt_of_le q.lt (by rw [z];exact hb)) (Nat.lt_irrefl _)
 ·exact absurd (Nat.lt_of_lt_of_le (Heap.lt_size (I.pin p hp).1) (by rw [z];exact hb)) (Nat.lt_irrefl _)
structure aGb (P:Program) (w:World) (K:PySem.W.Frag) (tg:Expr) (J:It) (fp:List Addr) (it:Addr) (tn:Nat->Heap->Prop):Prop where
 mem:it ∈ fp
 obj:∀ i h,tn i h->∀ b ∈ fp,∃ o,h.get? b = some o/\∀ v,o.data ≠ .cell v
 keep:∀ i h h',tn i h->(∀ b ∈ fp,∀ o,h.get? b = some o->h'.get? b = some o)->tn i h'
 item:∀ (X:Cx),X.prog = P->X.w = w->X.K = K->X.calm = true->∀ (i:Nat) (pins:List (Addr × Obj)) (s:Shared) (σ:St) (H:Hp) (E:Value->Shared->Prop),Inv X pins σ H s->(∀ b ∈ fp,aBs X pins H b)->tn i s.heap->J.go i H ->
  wpAny (model P w) X.A (pyNext (.ref it)) (fun r s1=>∃ u,r = some u /\
   wpAny (model P w) X.A (letOwnedTupleGo tg (.ref it) u) (fun _ s2=>∃ x H',Inv X pins σ H' s2/\bW x u/\J.yld i H x H'/\tn (i + 1) s2.heap/\∀ b ∈ fp,H' b = none) E s1) E s
 done:∀ (X:Cx),X.prog = P->X.w = w->X.K = K->X.calm = true->∀ (i:Nat) (pins:List (Addr × Obj)) (s:Shared) (σ:St) (H:Hp) (E:Value->Shared->Prop),Inv X pins σ H s->(∀ b ∈ fp,aBs X pins H b)->tn i s.heap->J.stop i H ->
  wpAny (model P w) X.A (pyNext (.ref it)) (fun r s1=>r = none/\Inv X pins σ H s1) E s
 self:∀ (A:Around) (i:Nat) (s:Shared) (Q:Value->Shared->Prop) (E:Value->Shared->Prop),tn i s.heap->Q (.ref it) s->wpAny (model P w) A (pyIter (.ref it)) Q E s
noncomputable abbrev TI:=St->Hp->(It->Hp->Prop)->Prop
noncomputable def PIE (X:Cx) (pins:List (Addr × Obj)) (σ:St) (tg:Expr) (R:It->Hp->Prop) (itv:Value) (s2:Shared):Prop :=
 ∃ (it:Addr) (fp:List Addr) (tn:Nat->Heap->Prop) (J:It) (H':Hp),itv = .ref it/\Inv X pins σ H' s2/\aGb X.prog X.w X.K tg J fp it tn/\tn 0 s2.heap/\(∀ b ∈ fp,aBs X pins H' b)/\R J H'
noncomputable def PI (X:Cx) (tg iter:Expr) (wi:TI):Prop :=
 ∀ (pins:List (Addr × Obj)) (s:Shared) (σ:St) (H:Hp) (R:It->Hp->Prop),Inv X pins σ H s->wi σ H R ->
  wpAny (model X.prog X.w) X.A (eval iter X.env) (fun v s1=>wpAny (model X.prog X.w) X.A (pyIter v) (PIE X pins σ tg R) X.xe s1) X.xe s
theorem aFp {M:Model} {A:Around} {E:Value->Shared->Prop} {s:Shared} {tg:Expr} {it:Addr} {u:Value} {o:Obj} {n:String} {vs:Array Value} {Q:Unit->Shared->Prop} (ho:s.heap.get? it = some o) (hc:o.cls = .type n) (hd:o.data = .fields vs)
  (hn:["enumerate","zip","dict_itemiterator","dict_reverseitemiterator","odict_iterator","itertools.zip_longest","itertools.pairwise"].contains n = false) (hQ:Q () s):wpAny M A (letOwnedTupleGo tg (.ref it) u) Q E s:=by
 unfold letOwnedTupleGo
 cases tg<;>first
  | exact wpAny_pure hQ
  | (cases u<;>first
    | exact wpAny_pure hQ
    | (
      refine wpAny_bind (wpAny_load ho ?_)
      rw [hc,hd]
      show wpAny M A (if (["enumerate","zip","dict_itemiterator","dict_reverseitemiterator","odict_iterator","itertools.zip_longest","itertools.pairwise"].contains n && vs[0]? == some (rawInt _)) = true then _ else _) Q E s
      rw [if_neg (by intro h;rw [hn,Bool.false_and] at h;cases h)]
      exact wpAny_pure hQ))
noncomputable def Itl (K:PySem.W.Frag) (a:Addr):It :=
 ⟨fun i H=>∃ xs x,SqL K H a xs/\xs[i]? = some x,fun i H x H'=>H' = H/\∀ xs,SqL K H a xs->xs[i]? = some x,fun i H=>∃ xs,SqL K H a xs/\xs.length<=i⟩
noncomputable def Itt (K:PySem.W.Frag) (a:Addr):It :=
 ⟨fun i H=>∃ xs x,SqT K H a xs/\xs[i]? = some x,fun i H x H'=>H' = H/\∀ xs,SqT K H a xs->xs[i]? = some x,fun i H=>∃ xs,SqT K H a xs/\xs.length<=i⟩
noncomputable def Itr (lo:Int) (n:Nat):It:=⟨fun i _=>i < n,fun i H x H'=>H' = H/\x = .int (lo + i),fun i _=>n<=i⟩
theorem aDg {P:Program} {w:World} {K:PySem.W.Frag} {tg:Expr} (a it:Addr):aGb P w K tg (Itl K a) [it] it (fun i h=>h.IsListIter it a i) where
 mem:=by simp
 obj:=fun i h st b hb=>by
  have e:b = it:=by simpa using hb
  subst e
  obtain ⟨o,e,c,d⟩:=st
  exact ⟨o,e,fun v z=>by rw [d] at z;cases z⟩
 keep:=fun i h h' st k=>st.at fun o e=>k it (by simp) o e
 item:=by
  intro X hP hw hK hc i pins s σ H E I hf st hg
  subst hP hw hK
  obtain ⟨xs,x,hq,hx⟩:=hg
  obtain ⟨its,rv,p,hz⟩:=I.list hq
  obtain ⟨u,hu,ru⟩:=rv.get hx
  obtain ⟨f0,f1,f2,f3,f4,f5⟩:=hf it (by simp)
  refine wpAny_pyNext_list_item st p.isList (x:=u) (by simpa using hu) fun h' st' sb=>?_
  have I1:Inv X pins σ H { s with heap:=h' }:=I.turned (t':=s.toks) (fun b o hb e=>(sb.2 b hb).trans e) f0 f1 f3 f4 f5
  obtain ⟨o,e,c,d⟩:=id st'
  exact ⟨u,rfl,aFp (s:={ s with heap:=h' }) e c d (by decide) ⟨x,H,I1,ru,⟨rfl,fun ys hy=>by rw [I.list_inj hy hq];exact hx⟩,st',fun b hb=>(hf b hb).1⟩⟩
 done:=by
  intro X hP hw hK hc i pins s σ H E I hf st hg
  subst hP hw hK
  obtain ⟨xs,hq,hx⟩:=hg
  obtain ⟨its,rv,p,hz⟩:=I.list hq
  obtain ⟨f0,f1,f2,f3,f4,f5⟩:=hf it (by simp)
  have hl:=rv.length
  exact wpAny_pyNext_list_end (I.ok.hd hc) st p.isList (by simp;omega) fun h' eb=>⟨rfl,I.turned (t':=s.toks) (fun b o hb e=>eb b o hb e) f0 f1 f3 f4 f5⟩
 self:=fun _ _ _ _ _ st h=>wpAny_pyIter_listiter st h
theorem aBQ {P:Program} {w:World} {K:PySem.W.Frag} {tg:Expr} (a it:Addr):aGb P w K tg (Itt K a) [it] it (fun i h=>h.IsTupleIter it a i) where
 mem:=by simp
 obj:=fun i h st b hb=>by
  have e:b = it:=by simpa using hb
  subst e
  obtain ⟨o,e,c,d⟩:=st
  exact ⟨o,e,fun v z=>by rw [d] at z;cases z⟩
 keep:=fun i h h' st k=>st.at fun o e=>k it (by simp) o e
 item:=by
  intro X hP hw hK hc i pins s σ H E I hf st hg
  subst hP hw hK
  obtain ⟨xs,x,hq,hx⟩:=hg
  obtain ⟨its,rv,p,hz⟩:=I.tuple hq
  obtain ⟨u,hu,ru⟩:=rv.get hx
  obtain ⟨f0,f1,f2,f3,f4,f5⟩:=hf it (by simp)
  refine wpAny_pyNext_tuple_item st (show s.heap.IsTuple a its.toArray from p) (x:=u) (by simpa using hu) fun h' st' sb=>?_
  have I1:Inv X pins σ H { s with heap:=h' }:=I.turned (t':=s.toks) (fun b o hb e=>(sb.2 b hb).trans e) f0 f1 f3 f4 f5
  obtain ⟨o,e,c,d⟩:=id st'
  exact ⟨u,rfl,aFp (s:={ s with heap:=h' }) e c d (by decide) ⟨x,H,I1,ru,⟨rfl,fun ys hy=>by rw [I.tuple_inj hy hq];exact hx⟩,st',fun b hb=>(hf b hb).1⟩⟩
 done:=by
  intro X hP hw hK hc i pins s σ H E I hf st hg
  subst hP hw hK
  obtain ⟨xs,hq,hx⟩:=hg
  obtain ⟨its,rv,p,hz⟩:=I.tuple hq
  obtain ⟨f0,f1,f2,f3,f4,f5⟩:=hf it (by simp)
  have hl:=rv.length
  exact wpAny_pyNext_tuple_end (I.ok.hd hc) st (show s.heap.IsTuple a its.toArray from p) (by simp;omega) fun h' eb=>⟨rfl,I.turned (t':=s.toks) (fun b o hb e=>eb b o hb e) f0 f1 f3 f4 f5⟩
 self:=fun _ _ _ _ _ st h=>wpAny_pyIter_tupleiter st h
theorem aBZ {P:Program} {w:World} {K:PySem.W.Frag} {tg:Expr} (it:Addr) (lo:Int) (n:Nat):aGb P w K tg (Itr lo n) [it] it (fun i h=>IsRangeIter h it (lo + (i:Nat) * 1) ((n:Int) - (i:Nat)) 1) where
 mem:=by simp
 obj:=fun i h st b hb=>by
  have e:b = it:=by simpa using hb
  subst e
  exact ⟨_,st,fun v z=>by
   have z':Data.fields _ = Data.cell v:=z
   cases z'⟩
 keep:=fun i h h' st k=>k it (by simp) _ st
 item:=by
  intro X hP hw hK hc i pins s σ H E I hf st hg
  subst hP hw hK
  obtain ⟨f0,f1,f2,f3,f4,f5⟩:=hf it (by simp)
  have W:=Walks.range (prog:=X.prog) (w:=X.w) (I.ok.hd hc) it lo 1 n
  refine W.item i s _ _ hg st fun v h' tk hv st' kk=>?_
  obtain ⟨t,rfl⟩:=hv
  have I1:Inv X pins σ H { s with heap:=h',toks:=tk }:=I.turned (fun b o hb e=>kk b o (by simpa using hb) e) f0 f1 f3 f4 f5
  refine ⟨_,rfl,aFp (s:={ s with heap:=h',toks:=tk }) (n:="range_iterator") st' rfl rfl (by decide) ⟨.int (lo + i),H,I1,⟨t,?_⟩,⟨rfl,rfl⟩,st',fun b hb=>(hf b hb).1⟩⟩
  rw [Int.mul_one]
 done:=by
  intro X hP hw hK hc i pins s σ H E I hf st hg
  subst hP hw hK
  obtain ⟨f0,f1,f2,f3,f4,f5⟩:=hf it (by simp)
  exact wpAny_pyNext_range_end (I.ok.hd hc) st (by have:n<=i:=hg;omega) fun h' eb=>⟨rfl,I.turned (t':=s.toks) (fun b o hb e=>eb b o hb e) f0 f1 f3 f4 f5⟩
 self:=fun _ _ _ _ _ st h=>wpAny_pyIter_rangeiter st h
end L2
namespace L2
open PySem PySem.Spec PyProof.Rows
section
variable {X:Cx} {tg:Expr}
noncomputable def aKG (K:PySem.W.Frag) (tl:TE):TI:=fun σ H R=>tl σ H fun x H1=>∃ a,x = .ref a/\(∃ xs,SqL K H1 a xs)/\R (Itl K a) H1
noncomputable def aL9 (K:PySem.W.Frag) (tl:TE):TI:=fun σ H R=>tl σ H fun x H1=>∃ a,x = .ref a/\(∃ xs,SqT K H1 a xs)/\R (Itt K a) H1
theorem aDa {l:Expr} {tl:TE} (hl:PE X l tl):PI X tg l (aKG X.K tl):=by
 intro pins s σ H R I h
 refine thn (hl pins s σ H _ I h) fun v s1 ⟨x,H1,I1,r1,q1⟩=>?_
 obtain ⟨a,e,⟨xs,hq⟩,q⟩:=q1
 subst e
 cases r1
 obtain ⟨its,rv,p,hz⟩:=I1.list hq
 refine wpAny_pyIter_list p.isList ?_
 refine ⟨s1.heap.objs.size,[s1.heap.objs.size],_,_,H1,rfl,I1.kept (t':=s1.toks) fun b o e=>Heap.get?_push_of_some _ e,aDg a _,⟨_,Heap.get?_push_size _ rfl,rfl,rfl⟩,fun b hb=>?_,q⟩
 have e:b = s1.heap.objs.size:=by simpa using hb
 subst e
 exact I1.fpOk (Nat.le_refl _) (I1.hok.fresh (Nat.le_refl _))
theorem aDO {l:Expr} {tl:TE} (hl:PE X l tl):PI X tg l (aL9 X.K tl):=by
 intro pins s σ H R I h
 refine thn (hl pins s σ H _ I h) fun v s1 ⟨x,H1,I1,r1,q1⟩=>?_
 obtain ⟨a,e,⟨xs,hq⟩,q⟩:=q1
 subst e
 cases r1
 obtain ⟨its,rv,p,hz⟩:=I1.tuple hq
 refine wpAny_pyIter_tuple (show s1.heap.IsTuple a its.toArray from p) ?_
 refine ⟨s1.heap.objs.size,[s1.heap.objs.size],_,_,H1,rfl,I1.kept (t':=s1.toks) fun b o e=>Heap.get?_push_of_some _ e,aBQ a _,⟨_,Heap.get?_push_size _ rfl,rfl,rfl⟩,fun b hb=>?_,q⟩
 have e:b = s1.heap.objs.size:=by simpa using hb
 subst e
 exact I1.fpOk (Nat.le_refl _) (I1.hok.fresh (Nat.le_refl _))
theorem aD5 {pins:List (Addr × Obj)} {σ:St} {H:Hp} {s:Shared} {R:It->Hp->Prop} {E:Value->Shared->Prop} {lo hi:Int} {t u v:Tok} {tk:Nat} (I:Inv X pins σ H s) (h1:-(2 ^ 62)<=lo) (h2:lo < 2 ^ 62) (h3:-(2 ^ 62)<=hi) (h4:hi < 2 ^ 62)
  (q:R (Itr lo (hi - lo).toNat) H):wpAny (model X.prog X.w) X.A (pyIter (.ref s.heap.objs.size)) (PIE X pins σ tg R) E { s with heap:=s.heap.push { cls:=.type "range",data:=.fields #[.int lo t,.int hi u,.int 1 v] },toks:=tk }:=by
 refine wpAny_pyIter_range (IsRange.new ..) (small_one h1 h2 h3 h4) ?_
 have I1:Inv X pins σ H { s with heap:=s.heap.push { cls:=.type "range",data:=.fields #[.int lo t,.int hi u,.int 1 v] },toks:=tk }:=I.kept fun b o e=>Heap.get?_push_of_some _ e
 refine ⟨(s.heap.push { cls:=.type "range",data:=.fields #[.int lo t,.int hi u,.int 1 v] }).objs.size,[(s.heap.push { cls:=.type "range",data:=.fields #[.int lo t,.int hi u,.int 1 v] }).objs.size],_,_,H,rfl,
  I1.kept (t':=tk) fun b o e=>Heap.get?_push_of_some _ e,aBZ _ lo (hi - lo).toNat,?_,fun b hb=>?_,q⟩
 ·have e1:lo + ((0:Nat):Int) * 1 = lo:=by simp
  have e2:(((hi - lo).toNat:Nat):Int) - ((0:Nat):Int) = Builtin.Range.rangeSize lo hi 1:=by rw [rangeSize_one];split<;>omega
  show IsRangeIter _ _ (lo + ((0:Nat):Int) * 1) ((((hi - lo).toNat:Nat):Int) - ((0:Nat):Int)) 1
  rw [e1,e2]
  exact Heap.get?_push_size _ rfl
 ·have e:b = (s.heap.push { cls:=.type "range",data:=.fields #[.int lo t,.int hi u,.int 1 v] }).objs.size:=by simpa using hb
  subst e
  exact I1.fpOk (Nat.le_refl _) (I1.hok.fresh (Nat.le_refl _))
noncomputable def aLp (ta:TA):TI:=fun σ H R=>ta σ H fun vs H1=>∃ j:Int,vs = [.int j]/\-(2 ^ 62)<=j/\j < 2 ^ 62/\R (Itr 0 j.toNat) H1
theorem aDh {a:Expr} {ta:TA} {p pos:Pos} (hg:Gl X "range") (hm:X.mg "range" = none) (ha:PA X [a] ta) (hs:starEach [a] X.env = [(false,eval a X.env)]:=by rfl):PI X tg (.Call (.Name "range" p) [a] [] pos) (aLp ta):=by
 intro pins s σ H R I h
 refine Call_ (aAw I hg hm boot_range (PyProof.Rows.callWith_type1 (thn (ha pos pins s σ H _ I h) fun us s1 ⟨vs,H1,I1,r1,q1⟩=>?_) hs rfl))
 obtain ⟨j,e,q1,q2,q⟩:=q1
 subst e
 cases r1 with
 | cons r rr =>
  cases rr
  obtain ⟨t,rfl⟩:=r
  exact call_range_1 (aD5 I1 (by omega) (by omega) q1 q2 (by simpa using q))
noncomputable def aL0 (wi:TI) (g:TG) (tb:TS):TS:=fun D σ H=>wi σ H fun J H1=>∃ W:Nat->Nat->St->Hp->Prop,(∃ m,W 0 m σ H1)/\∀ i m σ H,W i m σ H ->
 (J.stop i H/\D.nx σ H) ∨ (J.go i H/\∃ N:St->Hp->Prop,(∀ σ' H',N σ' H'->∃ m',m' < m/\W (i + 1) m' σ' H')/\∀ x H',J.yld i H x H'->g x σ H' fun σ2 H2=>tb { D with nx:=N,ct:=N,bk:=D.nx } σ2 H2)
noncomputable def aAE (fp:List Addr) (h:Heap):List (Addr × Obj):=fp.filterMap fun b=>(h.get? b).map fun o=>(b,o)
theorem lA {fp:List Addr} {h:Heap} {b:Addr} {o:Obj} (hb:b ∈ fp) (e:h.get? b = some o):(b,o) ∈ aAE fp h:=List.mem_filterMap.mpr ⟨b,hb,by rw [e];rfl⟩
theorem aDq {fp:List Addr} {h:Heap} {p:Addr × Obj} (hp:p ∈ aAE fp h):p.1 ∈ fp/\h.get? p.1 = some p.2:=by
 obtain ⟨b,hb,e⟩:=List.mem_filterMap.mp hp
 cases q:h.get? b with
 | none=>rw [q] at e;cases e
 | some o =>
  rw [q] at e
  have e':(b,o) = p:=Option.some.inj e
  subst e'
  exact ⟨hb,q⟩
theorem Inv.pinned {pins:List (Addr × Obj)} {σ:St} {H:Hp} {s:Shared} {fp:List Addr} (I:Inv X pins σ H s) (hf:∀ b ∈ fp,aBs X pins H b) (ho:∀ b ∈ fp,∃ o,s.heap.get? b = some o/\∀ v,o.data ≠ .cell v):Inv X (pins ++ aAE fp s.heap) σ H s :=
 I.pins_of fun p hp=>(List.mem_append.mp hp).elim (fun z=>I.pin p (List.mem_append_right _ z)) fun z=>by
  obtain ⟨hb,e⟩:=aDq z
  obtain ⟨f0,f1,f2,_⟩:=hf p.1 hb
  obtain ⟨o,e',d⟩:=ho p.1 hb
  rw [e] at e';cases e'
  exact ⟨e,f0,f1,f2,d⟩
theorem Inv.unpinned {pins pl:List (Addr × Obj)} {σ:St} {H:Hp} {s:Shared} (I:Inv X (pins ++ pl) σ H s):Inv X pins σ H s:=I.pins_of fun p hp=>I.pin p (List.mem_append_right _ (List.mem_append_left _ hp))
theorem aCf {iter:Expr} {body:List Stmt} {wi:TI} {g:TG} {tb:TS} {pos:Pos} (hp:PassesOwn (model X.prog X.w) X.A X.env X.xe) (hc:X.calm = true) (hi:PI X tg iter wi) (hg:PG X tg g) (hb:PSs X body tb)
  (hs:∀ x,foldedSetIterable iter X.env x = pure x:=by intro _;rfl):PS X (.For tg iter body [] pos) (aL0 wi g tb):=by
 intro pins s σ H D I h
 refine wpAny_For (thn (hi pins s σ H _ I h) fun v s1 h1=>thn h1 fun itv s2 h2=>?_) hs
 obtain ⟨it,fp,tn,J,H2,e,I2,T,st2,f2,W,⟨m0,w0⟩,turn⟩:=h2
 subst e
 have stat:∀ {H':Hp},(∀ b ∈ fp,H' b = none)->∀ b ∈ fp,aBs X pins H' b:=fun hn b hb=>⟨hn b hb,(f2 b hb).2⟩
 refine codeAny_forLoop_any (fun n s'=>∃ i σ' H',Inv X pins σ' H' s'/\tn i s'.heap/\(∀ b ∈ fp,H' b = none)/\W i n σ' H') ?_ m0 ⟨0,σ,H2,I2,st2,fun b hb=>(f2 b hb).1,w0⟩
 rintro n s3 ⟨i,σ3,H3,I3,st3,fr3,w3⟩
 rcases turn i n σ3 H3 w3 with ⟨stop,qn⟩ | ⟨go,N,hN,step⟩
 ·refine wpAny_passesOwn hp (thn (T.done X rfl rfl rfl hc i pins s3 σ3 H3 X.xe I3 (stat fr3) st3 stop) fun r s4 ⟨hr,I4⟩=>?_)
  subst hr
  exact wpAny_execs_nil ⟨σ3,H3,I4,qn⟩
 ·refine wpAny_passesOwn hp (thn (T.item X rfl rfl rfl hc i pins s3 σ3 H3 X.xe I3 (stat fr3) st3 go) fun r s4 ⟨u,hr,h4⟩=>?_)
  subst hr
  refine wpAny_passesOwn hp (thn h4 fun _ s5 ⟨x,H5,I5,r5,y5,st5,fr5⟩=>?_)
  have I5':=I5.pinned (stat fr5) (T.obj _ _ st5)
  refine wpAny_passesOwn hp (thn (hg _ s5 σ3 H5 x u _ I5' r5 (step x H5 y5)) fun _ s6 ⟨σ6,H6,I6,q6⟩=>?_)
  refine wpAny_passesOwn hp (thn (hb _ s6 σ6 H6 _ I6 q6) fun f s7 q7=>?_)
  have again:∀ {σ7:St} {H7:Hp},Inv X (pins ++ aAE fp s5.heap) σ7 H7 s7->N σ7 H7->∃ m,m < n/\∃ i σ' H',Inv X pins σ' H' s7/\tn i s7.heap/\(∀ b ∈ fp,H' b = none)/\W i m σ' H':=fun {σ7 H7} I7 n7=>by
   obtain ⟨m',hm,w7⟩:=hN σ7 H7 n7
   refine ⟨m',hm,i + 1,σ7,H7,I7.unpinned,T.keep _ _ _ st5 fun b hb o e=>(I7.pin (b,o) (List.mem_append_right _ (List.mem_append_right _ (lA hb e)))).1,fun b hb=>?_,w7⟩
   obtain ⟨o,e,d⟩:=T.obj _ _ st5 b hb
   exact (I7.pin (b,o) (List.mem_append_right _ (List.mem_append_right _ (lA hb e)))).2.1
  cases f with
  | next=>obtain ⟨σ7,H7,I7,n7⟩:=q7;exact again I7 n7
  | cont=>obtain ⟨σ7,H7,I7,n7⟩:=q7;exact again I7 n7
  | brk=>obtain ⟨σ7,H7,I7,q7⟩:=q7;exact ⟨σ7,H7,I7.unpinned,q7⟩
  | ret v=>obtain ⟨x7,σ7,H7,I7,r7,q7⟩:=q7;exact ⟨x7,σ7,H7,I7.unpinned,r7,q7⟩
end
end L2
namespace L2
open PySem PySem.Spec PyProof.Rows
noncomputable abbrev R2:=V->V->Hp->VK->Prop
noncomputable def OpR (X:Cx) (f:Value->Value->Sem Value) (r:R2):Prop :=
 ∀ (pins:List (Addr × Obj)) (s:Shared) (σ:St) (H:Hp) (x y:V) (v u:Value) (Q:VK),Inv X pins σ H s->bW x v->bW y u->r x y H Q ->
  wpAny (model X.prog X.w) X.A (f v u) (EP X pins σ Q) X.xe s
noncomputable def UnR (X:Cx) (f:Value->Sem Value) (r:V->Hp->VK->Prop):Prop :=
 ∀ (pins:List (Addr × Obj)) (s:Shared) (σ:St) (H:Hp) (x:V) (v:Value) (Q:VK),Inv X pins σ H s->bW x v->r x H Q ->
  wpAny (model X.prog X.w) X.A (f v) (EP X pins σ Q) X.xe s
noncomputable def lX (X:Cx) (f:Value) (r:List V->Hp->VK->Prop):Prop :=
 ∀ (pins:List (Addr × Obj)) (s:Shared) (σ:St) (H:Hp) (xs:List V) (us:List Value) (Q:VK),Inv X pins σ H s->bR xs us->r xs H Q ->
  wpAny (model X.prog X.w) X.A (call f us) (EP X pins σ Q) X.xe s
noncomputable def tOp (r:R2) (ta tb:TE):TE:=fun σ H Q=>ta σ H fun x H1=>tb σ H1 fun y H2=>r x y H2 Q
noncomputable def tUn (r:V->Hp->VK->Prop) (ta:TE):TE:=fun σ H Q=>ta σ H fun x H1=>r x H1 Q
noncomputable def rI (C:Int->Int->Prop) (g:Int->Int->V):R2:=fun x y H Q=>∃ i j,x = .int i/\y = .int j/\C i j/\Q (g i j) H
noncomputable def rI0 (g:Int->Int->V):R2:=fun x y H Q=>∃ i j,x = .int i/\y = .int j/\Q (g i j) H
noncomputable def rU (g:Int->V):V->Hp->VK->Prop:=fun x H Q=>∃ i,x = .int i/\Q (g i) H
section
variable {X:Cx} {a b c:Expr} {ta tb tc:TE} {pos:Pos}
theorem aJO (ha:PE X a ta) (hb:PE X b tb) {pins:List (Addr × Obj)} {s:Shared} {σ:St} {H:Hp} {R:V->V->Hp->Prop} (I:Inv X pins σ H s)
  (h:ta σ H fun x H1=>tb σ H1 fun y H2=>R x y H2) {Q:Value->Shared->Prop} {f:Value->Value->Sem Value}
  (hf:∀ v u s2 x y H2,Inv X pins σ H2 s2->bW x v->bW y u->R x y H2->wpAny (model X.prog X.w) X.A (f v u) Q X.xe s2) :
  wpAny (model X.prog X.w) X.A (eval a X.env) (fun v s₁=>wpAny (model X.prog X.w) X.A (eval b X.env) (fun u s₂=>wpAny (model X.prog X.w) X.A (f v u) Q X.xe s₂) X.xe s₁) X.xe s:=by
 refine thn (ha pins s σ H _ I h) fun v s1 ⟨x,H1,I1,r1,q1⟩=>?_
 refine thn (hb pins s1 σ H1 _ I1 q1) fun u s2 ⟨y,H2,I2,r2,q2⟩=>?_
 exact hf v u s2 x y H2 I2 r1 r2 q2
theorem aKx {op:Operator} {r:R2} (ho:OpR X (binaryOp op) r) (ha:PE X a ta) (hb:PE X b tb):PE X (.BinOp a op b pos) (tOp r ta tb):=by
 intro pins s σ H Q I h
 exact wpAny_BinOp (aJO ha hb I h fun v u s2 x y H2 I2 rx ry q=>ho pins s2 σ H2 x y v u Q I2 rx ry q)
theorem aLm {op:UnaryOp} {r:V->Hp->VK->Prop} (ho:UnR X (unaryOp op) r) (ha:PE X a ta):PE X (.UnaryOp op a pos) (tUn r ta):=by
 intro pins s σ H Q I h
 exact UnaryOp_ (thn (ha pins s σ H _ I h) fun v s1 ⟨x,H1,I1,r1,q1⟩=>ho pins s1 σ H1 x v Q I1 r1 q1)
theorem opI {f:Value->Value->Sem Value} {C:Int->Int->Prop} {g:Int->Int->Int}
  (rule:∀ (i j:Int) (t u:Tok) (s:Shared) (Q:Value->Shared->Prop) (E:Value->Shared->Prop),C i j->Q (.int (g i j) s.toks) { s with toks:=s.toks + 1 }->wpAny (model X.prog X.w) X.A (f (.int i t) (.int j u)) Q E s) :
  OpR X f (rI C fun i j=>.int (g i j)):=by
 intro pins s σ H x y v u Q I rx ry h
 obtain ⟨i,j,rfl,rfl,hc,q⟩:=h
 obtain ⟨t,rfl⟩:=rx
 obtain ⟨t',rfl⟩:=ry
 exact rule i j t t' s _ _ hc ⟨.int (g i j),H,I.tok _,⟨_,rfl⟩,q⟩
theorem aKD {f:Value->Value->Sem Value} {g:Int->Int->Int}
  (rule:∀ (i j:Int) (t u:Tok) (s:Shared) (Q:Value->Shared->Prop) (E:Value->Shared->Prop),Q (.int (g i j) s.toks) { s with toks:=s.toks + 1 }->wpAny (model X.prog X.w) X.A (f (.int i t) (.int j u)) Q E s) :
  OpR X f (rI0 fun i j=>.int (g i j)):=by
 intro pins s σ H x y v u Q I rx ry h
 obtain ⟨i,j,rfl,rfl,q⟩:=h
 obtain ⟨t,rfl⟩:=rx
 obtain ⟨t',rfl⟩:=ry
 exact rule i j t t' s _ _ ⟨.int (g i j),H,I.tok _,⟨_,rfl⟩,q⟩
theorem aJL {f:Value->Value->Sem Value} {g:Int->Int->Bool}
  (rule:∀ (i j:Int) (t u:Tok) (s:Shared) (Q:Value->Shared->Prop) (E:Value->Shared->Prop),Q (.bool (g i j)) s->wpAny (model X.prog X.w) X.A (f (.int i t) (.int j u)) Q E s) :
  OpR X f (rI0 fun i j=>.bl (g i j)):=by
 intro pins s σ H x y v u Q I rx ry h
 obtain ⟨i,j,rfl,rfl,q⟩:=h
 obtain ⟨t,rfl⟩:=rx
 obtain ⟨t',rfl⟩:=ry
 exact rule i j t t' s _ _ ⟨.bl (g i j),H,I,rfl,q⟩
noncomputable def aKn (i j:Int):Prop:=0<=j/\j<=1000000/\i.natAbs < 2 ^ 64
theorem aH3:OpR X (binaryOp .Add) (rI0 fun i j=>.int (i + j)):=aKD fun _ _ _ _ _ _ _ q=>add_int q
theorem aIj:OpR X (binaryOp .Sub) (rI0 fun i j=>.int (i - j)):=aKD fun _ _ _ _ _ _ _ q=>sub_int q
theorem aGM:OpR X (binaryOp .Mod) (rI (fun _ j=>j ≠ 0) fun i j=>.int (i.fmod j)):=opI fun _ _ _ _ _ _ _ hc q=>mod_int' hc q
theorem aIV:OpR X (binaryOp .Pow) (rI aKn fun i j=>.int (i ^ j.toNat)):=opI fun _ _ _ _ _ _ _ hc q=>pow_int_small hc.1 hc.2.1 hc.2.2 q
theorem unI {f:Value->Sem Value} {g:Int->Int}
  (rule:∀ (i:Int) (t:Tok) (s:Shared) (Q:Value->Shared->Prop) (E:Value->Shared->Prop),Q (.int (g i) s.toks) { s with toks:=s.toks + 1 }->wpAny (model X.prog X.w) X.A (f (.int i t)) Q E s) :
  UnR X f (rU fun i=>.int (g i)):=by
 intro pins s σ H x v Q I rx h
 obtain ⟨i,rfl,q⟩:=h
 obtain ⟨t,rfl⟩:=rx
 exact rule i t s _ _ ⟨.int (g i),H,I.tok _,⟨_,rfl⟩,q⟩
theorem aI5:UnR X (unaryOp .USub) (rU fun i=>.int (-i)):=unI fun _ _ _ _ _ q=>neg_int q
end
section
variable {X:Cx} {a b c:Expr} {ta tb tc:TE} {pos:Pos}
theorem aLD:OpR X (compareOp .Lt) (rI0 fun i j=>.bl (decide (i < j))):=aJL fun _ _ _ _ _ _ _ q=>lt_int q
theorem aKM:OpR X (compareOp .LtE) (rI0 fun i j=>.bl (decide (i<=j))):=aJL fun _ _ _ _ _ _ _ q=>le_int q
theorem aLu:OpR X (compareOp .Gt) (rI0 fun i j=>.bl (decide (j < i))):=aJL fun _ _ _ _ _ _ _ q=>gt_int q
theorem aAl (b:Expr) {op:CmpOp} (h:op ≠ .In:=by decide) (h2:op ≠ .NotIn:=by decide):behindInMarks op b = false:=by
 have e1:(op == CmpOp.In) = false:=by cases op<;>first | rfl | exact absurd rfl h
 have e2:(op == CmpOp.NotIn) = false:=by cases op<;>first | rfl | exact absurd rfl h2
 cases b<;>simp [behindInMarks,e1,e2]
theorem aGW {op:CmpOp} {r:R2} (ho:OpR X (compareOp op) r) (ha:PE X a ta) (hb:PE X b tb) (hm:behindInMarks op b = false):PE X (.Compare a [op] [b] pos) (tOp r ta tb):=by
 intro pins s σ H Q I h
 exact wpAny_Compare1 (aJO ha hb I h fun v u s2 x y H2 I2 rx ry q=>ho pins s2 σ H2 x y v u Q I2 rx ry q) hm
noncomputable def aKC (t:TE):TT:=fun σ H Q=>t σ H fun x H'=>∃ k,x = .bl k/\Q k H'
theorem aGs {op:CmpOp} {r:R2} (ho:OpR X (compareOp op) r) (ha:PE X a ta) (hb:PE X b tb) (hm:behindInMarks op b = false):PT X (.Compare a [op] [b] pos) (aKC (tOp r ta tb)):=by
 intro pins s σ H Q I h
 refine wpAny_isTrue_Compare1 (thn (ha pins s σ H _ I h) fun v s1 ⟨x,H1,I1,r1,q1⟩=>thn (hb pins s1 σ H1 _ I1 q1) fun u s2 ⟨y,H2,I2,r2,q2⟩ =>
  thn (ho pins s2 σ H2 x y v u _ I2 r1 r2 q2) fun c s3 ⟨z,H3,I3,r3,k,e,q3⟩=>?_) hm
 subst e
 cases r3
 exact wpAny_truthy_bool ⟨H3,I3,q3⟩
theorem aBH:(sizeLine:Nat) < 2 ^ 63:=by rw [sizeLine_eq];decide
theorem zD {x:V} {us:List Value} (r:bR [x] us):∃ u,us = [u]/\bW x u:=by
 cases r with
 | cons r1 r2=>cases r2;exact ⟨_,rfl,r1⟩
theorem aHx {x y:V} {us:List Value} (r:bR [x,y] us):∃ u w',us = [u,w']/\bW x u/\bW y w':=by
 cases r with
 | cons r1 r2 =>
  cases r2 with
  | cons r3 r4=>cases r4;exact ⟨_,_,rfl,r1,r3⟩
theorem aFl:lX X (.builtin "abs") (fun xs H Q=>∃ i,xs = [.int i]/\Q (.int (if i < 0 then -i else i)) H):=by
 intro pins s σ H xs us Q I r h
 obtain ⟨i,rfl,q⟩:=h
 obtain ⟨u,rfl,t,rfl⟩:=zD r
 exact call_abs_int fun u tk=>⟨.int (if i < 0 then -i else i),H,I.tok _,⟨_,rfl⟩,q⟩
theorem aDF (hc:X.calm = true):lX X (.builtin "min") (fun xs H Q=>∃ i j,xs = [.int i,.int j]/\Q (.int (if j < i then j else i)) H):=by
 intro pins s σ H xs us Q I r h
 obtain ⟨i,j,rfl,q⟩:=h
 obtain ⟨u,w',rfl,⟨t,rfl⟩,⟨t',rfl⟩⟩:=aHx r
 refine min_two_ints (I.ok.hd hc) fun h' tk k=>⟨_,H,I.kept k,?_,q⟩
 by_cases hj:j < i
 ·rw [if_pos hj,if_pos hj];exact ⟨_,rfl⟩
 ·rw [if_neg hj,if_neg hj];exact ⟨_,rfl⟩
theorem aDv:lX X (.type "int") (fun xs H Q=>(∃ i,xs = [.int i]/\Q (.int i) H) ∨ ∃ k,xs = [.bl k]/\Q (.int (if k then 1 else 0)) H):=by
 intro pins s σ H xs us Q I r h
 rcases h with ⟨i,rfl,q⟩ | ⟨k,rfl,q⟩
 ·obtain ⟨u,rfl,t,rfl⟩:=zD r
  exact call_int_int ⟨.int i,H,I,⟨_,rfl⟩,q⟩
 ·obtain ⟨u,rfl,r1⟩:=zD r
  cases r1
  exact call_int_bool ⟨.int (if k then 1 else 0),H,I.tok _,⟨_,rfl⟩,q⟩
end
end L2
namespace L2
open PySem PySem.Spec PyProof.Rows
section
variable {prog:Program} {w:World} {A:Around} {E:Value->Shared->Prop} {s:Shared} {K:PySem.W.Frag} {x dx C f:Addr} {mA:Str->Option Value} {name:Str} {v:Value}
end
section
variable {P:Program} {w:World} {H H':Hp} {h h':Heap} {a C dx:Addr} {fs fs':List (Str × V)}
end
structure Cls (K:PySem.W.Frag) (C:Addr):Prop where
 pg:PySem.W.plainGet K C Str.empty = true
 hd:PySem.W.hasDictIn K C = true
 po:PySem.W.plainOver K C = true
 sa:PySem.W.findIn K (.ref C) "__setattr__" = some (some (.builtin "object.__setattr__"))
section
variable {X:Cx} {pins:List (Addr × Obj)} {σ:St} {H:Hp} {s:Shared} {a C dx:Addr} {fs:List (Str × V)} {f:Str} {v:V} {A:Around} {E:Value->Shared->Prop}
end
section
variable {X:Cx} {o e value:Expr} {f:Str} {pos pos' tpos:Pos} {ta tv:TE}
end
section
variable {X:Cx} {pins:List (Addr × Obj)} {σ:St} {H:Hp} {s:Shared} {A:Around} {E:Value->Shared->Prop} {Q:Value->Shared->Prop} {c:Value} {b:Bool}
end
end L2
namespace L2
open PySem PySem.Spec PyProof.Rows
structure eQ (k:Nat) (A:Around):Prop where
 hd:A.handled = none
 dp:A.depth + 3 * k + 5 < recursionLimit
 un:A.units + 16 * k + 200 < cLine
theorem eQ.mono {j k:Nat} {A:Around} (r:eQ k A) (h:j<=k):eQ j A:=⟨r.hd,by have:=r.dp;omega,by have:=r.un;omega⟩
theorem eQ.deeper {k:Nat} {A:Around} (r:eQ (k + 1) A) (env:Env):eQ k (A.deeper env) :=
 ⟨r.hd,by have:=r.dp;show A.depth + 1 + 3 * k + 5 < _;omega,by have:=r.un;show A.units + 3 + 16 * k + 200 < _;omega⟩
theorem eQ.depth {k:Nat} {A:Around} (r:eQ k A):A.depth < recursionLimit:=by have:=r.dp;omega
noncomputable def aK1:TA:=fun _ H Q=>Q [] H
noncomputable def aLE (ta:TE) (tr:TA):TA:=fun σ H Q=>ta σ H fun x H1=>tr σ H1 fun xs H2=>Q (x :: xs) H2
section
variable {X:Cx} {e:Expr} {es:List Expr} {te:TE} {t:TA} {pos:Pos}
theorem aB2:PA X [] aK1:=fun _ _ _ _ H Q I h=>Calls.spliced_nil ⟨[],H,I,.nil,h⟩
theorem qW (ha:PE X e te) (hr:PA X es t) (hs:starEach (e :: es) X.env = (false,eval e X.env) :: starEach es X.env:=by rfl):PA X (e :: es) (aLE te t):=by
 intro pos pins s σ H Q I h
 rw [hs]
 show wpAny _ _ (spliced ((false,eval e X.env) :: backTo pos (starEach es X.env))) _ _ s
 refine Calls.spliced_cons (thn (ha pins s σ H _ I h) fun u s1 ⟨x,H1,I1,r1,q1⟩=>?_)
 exact thn (hr pos pins s1 σ H1 _ I1 q1) fun us s2 ⟨xs,H2,I2,r2,q2⟩=>⟨x :: xs,H2,I2,.cons r1 r2,q2⟩
noncomputable def aLF (t:TA):TE:=fun σ H Q=>t σ H fun xs H1=>xs.length<=sizeLine/\∀ p,H1 p = none->Q (.ref p) (upd H1 p (.tup xs))
noncomputable def aL2 (t:TA):TE:=fun σ H Q=>t σ H fun xs H1=>xs.length<=sizeLine/\∀ p,H1 p = none->Q (.ref p) (upd H1 p (.lst xs))
theorem aIO {x1} (h:PA X es t):PE X (.Tuple es x1 pos) (aLF t):=by
 intro pins s σ H Q I hq
 refine wpAny_Tuple_spliced (thn (h pos pins s σ H _ I hq) fun us s1 ⟨xs,H1,I1,r,z,q⟩=>⟨by rw [<- r.length];exact z,?_⟩)
 have hf:H1 s1.heap.objs.size = none:=I1.hok.fresh (Nat.le_refl _)
 refine ⟨.ref s1.heap.objs.size,upd H1 s1.heap.objs.size (.tup xs),I1.laid (t':=s1.toks) (fun b u e=>Heap.get?_push_of_some _ e) (Nat.le_refl _) ?_,rfl,q _ hf⟩
 exact ⟨z,us,r,⟨_,Heap.get?_push_size _ rfl,rfl,_,rfl⟩⟩
theorem aJW (h:PA X es t):PE X (.List es pos) (aL2 t):=by
 intro pins s σ H Q I hq
 refine wpAny_List_spliced (thn (h pos pins s σ H _ I hq) fun us s1 ⟨xs,H1,I1,r,z,q⟩=>⟨by rw [<- r.length];exact z,?_⟩)
 have hf:H1 s1.heap.objs.size = none:=I1.hok.fresh (Nat.le_refl _)
 refine ⟨.ref s1.heap.objs.size,upd H1 s1.heap.objs.size (.lst xs),I1.laid (t':=s1.toks) (fun b u e=>Heap.get?_push_of_some _ e) (Nat.le_refl _) ?_,rfl,q _ hf⟩
 exact ⟨z,us,0,r,Heap.get?_push_size _ rfl⟩
end
noncomputable abbrev Sp:=List V->Hp->VK->XK->Prop
noncomputable abbrev CXT:=List Env->Hp->Shared->XK->Value->Shared->Prop
structure aGr (P:Program) (w:World) (K:PySem.W.Frag) (mg:Str->Option Value) (base:Heap) (A:Around) (outer:List Env) (s:Shared) (H:Hp):Prop where
 frames:A.frames = some outer
 mod:Mod K mg base
 bs:∀ b o,base.get? b = some o->s.heap.get? b = some o/\H b = none
 bsz:base.objs.size<=s.heap.objs.size
 funs:s.heap.FunFrames base outer
 frf:∀ b ∈ frs outer,H b = none
 hok:HOk P w H s.heap
 bare:AllBare s.gens
noncomputable def CE (outer:List Env) (P:Program) (w:World) (H:Hp) (s:Shared) (Q:VK) (u:Value) (s':Shared):Prop :=
 ∃ v H',s'.os = s.os/\AllBare s'.gens/\Un (frs outer) [] H H' s.heap s'.heap/\HOk P w H' s'.heap/\bW v u/\Q v H'
noncomputable def CR (CX:CXT) (outer:List Env) (P:Program) (w:World) (H:Hp) (s:Shared) (Q:VK) (E:XK) (r:Result) (s':Shared):Prop :=
 match r with
 | .ok (.ret u)=>CE outer P w H s Q u s'
 | .ok _=>False
 | .error e=>CX outer H s E e s'
structure jH (P:Program) (w:World) (K:PySem.W.Frag) (mg:Str->Option Value) (base:Heap) (CX:CXT) (k:Nat) (f:Addr) (fd:FuncData) (ps:List Str) (sp:Sp):Prop where
 len:∀ vs H Q E,sp vs H Q E->vs.length = ps.length
 run:∀ (A:Around) (outer:List Env) (s:Shared) (H:Hp) (args:Args) (us:List Value) (vs:List V) (Q:VK) (E:XK),eQ k A->aGr P w K mg base A outer s H->BindsTo s fd args (ps.zip us)->bR vs us->sp vs H Q E ->
  codeAny (model P w) A (.call (.ref f) args) (CR CX outer P w H s Q E) s
theorem jH.mono {P:Program} {w:World} {K:PySem.W.Frag} {mg:Str->Option Value} {base:Heap} {CX:CXT} {j k:Nat} {f:Addr} {fd:FuncData} {ps:List Str} {sp:Sp} (F:jH P w K mg base CX j f fd ps sp) (h:j<=k) :
  jH P w K mg base CX k f fd ps sp:=⟨F.len,fun A outer s H args us vs Q E hr=>F.run A outer s H args us vs Q E (hr.mono h)⟩
theorem jH.imp {P:Program} {w:World} {K:PySem.W.Frag} {mg:Str->Option Value} {base:Heap} {CX:CXT} {k:Nat} {f:Addr} {fd:FuncData} {ps:List Str} {sp sp':Sp} (F:jH P w K mg base CX k f fd ps sp)
  (h:∀ vs H Q E,sp' vs H Q E->sp vs H Q E):jH P w K mg base CX k f fd ps sp' :=
 ⟨fun vs H Q E q=>F.len vs H Q E (h _ _ _ _ q),fun A outer s H args us vs Q E hr he hb hv hs=>F.run A outer s H args us vs Q E hr he hb hv (h _ _ _ _ hs)⟩
section
variable {X:Cx} {pins:List (Addr × Obj)} {σ:St} {H:Hp} {s s':Shared}
theorem Inv.env0 (I:Inv X pins σ H s):aGr X.prog X.w X.K X.mg X.base X.A X.stack s H :=
 ⟨I.ok.frames,I.ok.mod,I.bs,Nat.le_trans I.ok.bsz I.sz,I.stack,I.stkFree,I.hok,I.bare⟩
theorem Inv.after {Q:VK} {u:Value} (I:Inv X pins σ H s) (h:CE X.stack X.prog X.w H s Q u s'):EP X pins σ Q u s':=by
 obtain ⟨v,H',os,bare,un,hok,r,q⟩:=h
 obtain ⟨hh,g,d,t,os'⟩:=s'
 obtain rfl:os' = s.os:=os
 exact ⟨v,H',I.call (h':=hh) (g':=g) (d':=d) (t':=t) (ch:=[]) un hok bare (fun b z=>absurd z (by simp)),r,q⟩
end
noncomputable def aHC (sp:Sp) (dvs:List V) (E:XK) (t:TA):TE:=fun σ H Q=>t σ H fun vs H1=>sp (vs ++ dvs) H1 Q E
noncomputable def nO (K:PySem.W.Frag) (fd:FuncData) (ps:List Str) (ds:List Value):Prop :=
 ∀ (s:Shared) (us:List Value),K.In s.heap->(us ++ ds).length = ps.length->BindsTo s fd ⟨us,[]⟩ (ps.zip (us ++ ds))
theorem nO.all {K:PySem.W.Frag} {fd:FuncData} {ps:List Str} (h:∀ us:List Value,us.length = ps.length->bindArgs fd ⟨us,[]⟩ = pure (ps.zip us)):nO K fd ps []:=fun s us _ hl=>by
 rw [List.append_nil] at hl ⊢
 exact .of_eq (h us hl)
noncomputable def sK (CX:CXT) (X:Cx) (E:XK):Prop:=∀ (pins:List (Addr × Obj)) (σ:St) (H:Hp) (s:Shared) (e:Value) (s':Shared),Inv X pins σ H s->CX X.stack H s E e s'->X.xe e s'
section
variable {X:Cx} {CX:CXT} {k:Nat} {f C:Addr} {fd:FuncData} {ps:List Str} {sp:Sp} {dvs:List V} {ds:List Value} {E:XK} {x m:Str} {p pos apos:Pos} {e o:Expr} {es:List Expr} {ta:TE} {t:TA}
theorem aBY {pins:List (Addr × Obj)} {σ:St} {H:Hp} {s:Shared} {Q:VK} {us:List Value} {vs:List V} (F:jH X.prog X.w X.K X.mg X.base CX k f fd ps sp) (hr:eQ k X.A) (hb:nO X.K fd ps ds) (hd:bR dvs ds) (hx:sK CX X E)
  (I:Inv X pins σ H s) (r:bR vs us) (h:sp (vs ++ dvs) H Q E):wpAny (model X.prog X.w) X.A (call (.ref f) us) (EP X pins σ Q) X.xe s:=by
 have r2:bR (vs ++ dvs) (us ++ ds):=r.append hd
 have hl:(us ++ ds).length = ps.length:=by rw [<- r2.length];exact F.len _ _ _ _ h
 refine wpAny_call (codeAny_mono (F.run X.A X.stack s H ⟨us,[]⟩ (us ++ ds) (vs ++ dvs) Q E hr I.env0 (hb s us I.kIn hl) r2 h) fun r s' hq=>?_)
 cases r with
 | error e=>exact hx pins σ H s e s' I hq
 | ok fl =>
  cases fl with
  | ret u=>exact I.after hq
  | next=>exact False.elim hq
  | brk=>exact False.elim hq
  | cont=>exact False.elim hq
theorem aFR (F:jH X.prog X.w X.K X.mg X.base CX k f fd ps sp) (hr:eQ k X.A) (hg:Gl X x) (hm:X.mg x = some (.ref f)) (hk:PySem.W.keepIn X.K (.ref f) = true) (hb:nO X.K fd ps ds) (hd:bR dvs ds) (hx:sK CX X E)
  (ha:PA X (e :: es) t) (hdb:(x == ("__debug__":Str)) = false:=by decide) (he:starEach (e :: es) X.env = (false,eval e X.env) :: starEach es X.env:=by rfl) (hpl:(backTo pos (starEach es X.env)).any (·.1) = false:=by rfl) :
  PE X (.Call (.Name x p) (e :: es) [] pos) (aHC sp dvs E t):=by
 intro pins s σ H Q I h
 refine wpAny_Call_Name_kw (lT I hg hm ?_ hdb)
 refine PySem.W.callWith_K (h₀:=X.base) I.ok.mod.kin hk (thn (ha pos pins s σ H _ I h) fun us s1 ⟨vs,H1,I1,r,q⟩=>⟨I1.kIn,?_⟩) he hpl
 exact aBY F hr hb hd hx I1 r q
theorem aE6 (F:jH X.prog X.w X.K X.mg X.base CX k f fd ps sp) (hr:eQ k X.A) (hg:Gl X x) (hm:X.mg x = some (.ref f)) (hk:PySem.W.keepIn X.K (.ref f) = true) (hb:nO X.K fd ps ds) (hd:bR dvs ds) (hx:sK CX X E)
  (hdb:(x == ("__debug__":Str)) = false:=by decide):PE X (.Call (.Name x p) [] [] pos) (aHC sp dvs E aK1):=by
 intro pins s σ H Q I h
 refine wpAny_Call_Name_kw (lT I hg hm ?_ hdb)
 exact PySem.W.callWith_K0 I.kIn hk (aBY (us:=[]) F hr hb hd hx I .nil h)
end
section
variable {X:Cx} {CX:CXT} {k:Nat} {f C:Addr} {fd:FuncData} {ps ks:List Str} {sp:Sp} {E:XK} {x m:Str} {p pos apos kpos:Pos} {e o:Expr} {es:List Expr} {kws:List Keyword} {te ta:TE} {t tk:TA} {nm:Option Str}
variable {g:List Value->List Value->List Value} {gV:List V->List V->List V}
end
structure aP (N P:List Str) (sc:Scope):Prop where
 kind:sc.kind = .function
 co:sc.isCoroutine = false
 gen:sc.isGenerator = false
 nd:N.Nodup
 pre:N.take P.length = P
 par:∀ x ∈ P,sc.names.lookup x = some .local ∨ sc.names.lookup x = some .cell
 nofree:∀ y ∈ sc.names,y.2 ≠ .free
theorem yX {kindOf:Str->Option NameKind} {x:Str}:∀ {binds:List (Str × Value)} {m:Str->Option Value},(∀ v,(x,v) ∉ binds)->bindL kindOf binds m x = m x
 | [],_,_=>rfl
 | (n,v) :: r,m,h=>by
  unfold bindL
  rw [yX fun w hw=>h w (List.mem_cons_of_mem _ hw)]
  split
  ·have:x ≠ n:=by rintro rfl;exact h v List.mem_cons_self
   simp [this]
  ·rfl
theorem zG {kindOf:Str->Option NameKind} {x:Str}:∀ {binds:List (Str × Value)} {m:Str->Option Value},(∀ v,(x,v) ∉ binds)->bindC kindOf binds m x = m x
 | [],_,_=>rfl
 | (n,v) :: r,m,h=>by
  unfold bindC
  rw [zG fun w hw=>h w (List.mem_cons_of_mem _ hw)]
  split
  ·rfl
  ·have:x ≠ n:=by rintro rfl;exact h v List.mem_cons_self
   simp [this]
theorem yP {kindOf:Str->Option NameKind} {x:Str} {v:Value}:∀ {P:List Str} {vs:List Value} {i:Nat} {m:Str->Option Value},P.Nodup->P[i]? = some x->vs[i]? = some v->kindOf x = some .local ->
  bindL kindOf (P.zip vs) m x = some v
 | [],_,_,_,_,h,_,_=>by simp at h
 | _ :: _,[],_,_,_,_,h,_=>by simp at h
 | p :: P,w :: vs,0,m,nd,h1,h2,hk=>by
  simp at h1 h2;subst h1;subst h2
  show bindL kindOf ((p,w) :: P.zip vs) m p = _
  unfold bindL
  rw [yX fun v hv=>(List.nodup_cons.mp nd).1 (List.of_mem_zip hv).1,if_pos hk]
  simp
 | p :: P,w :: vs,i + 1,m,nd,h1,h2,hk=>by
  show bindL kindOf ((p,w) :: P.zip vs) m x = _
  unfold bindL
  exact yP (i:=i) (List.nodup_cons.mp nd).2 (by simpa using h1) (by simpa using h2) hk
theorem zB {kindOf:Str->Option NameKind} {x:Str} {v:Value}:∀ {P:List Str} {vs:List Value} {i:Nat} {m:Str->Option Value},P.Nodup->P[i]? = some x->vs[i]? = some v->kindOf x ≠ some .local ->
  bindC kindOf (P.zip vs) m x = some v
 | [],_,_,_,_,h,_,_=>by simp at h
 | _ :: _,[],_,_,_,_,h,_=>by simp at h
 | p :: P,w :: vs,0,m,nd,h1,h2,hk=>by
  simp at h1 h2;subst h1;subst h2
  show bindC kindOf ((p,w) :: P.zip vs) m p = _
  unfold bindC
  rw [zG fun v hv=>(List.nodup_cons.mp nd).1 (List.of_mem_zip hv).1,if_neg hk]
  simp
 | p :: P,w :: vs,i + 1,m,nd,h1,h2,hk=>by
  show bindC kindOf ((p,w) :: P.zip vs) m x = _
  unfold bindC
  exact zB (i:=i) (List.nodup_cons.mp nd).2 (by simpa using h1) (by simpa using h2) hk
noncomputable def start (N:List Str) (vs:List V):St:=vs.map some ++ List.replicate (N.length - vs.length) none
noncomputable def nS (CX:CXT) (P:Program) (w:World) (K:PySem.W.Frag) (mg:Str->Option Value) (base:Heap) (N:List Str) (qual:Str) (scope:Scope) (f:Addr) (cd:Value) (A:Around) (outer:List Env) (s:Shared) (H:Hp) (E:XK):Cx where
 prog:=P
 w:=w
 K:=K
 mg:=mg
 base:=base
 A:=A.deeper (envOfC qual scope s.heap.objs.size f cd)
 N:=N
 s₀:=s
 H₀:=H
 env:=envOfC qual scope s.heap.objs.size f cd
 outer:=outer
 stack:=envOfC qual scope s.heap.objs.size f cd :: outer
 ex:=[]
 calm:=true
 fn:=fun _=>true
 pn:=[]
 xe:=fun e s'=>wpAny (model P w) (A.deeper (envOfC qual scope s.heap.objs.size f cd)) (leaving (envOfC qual scope s.heap.objs.size f cd) e) (fun _ s''=>CX outer H s E e s'') (fun e' s''=>CX outer H s E e' s'') s'
theorem aBa {sc:Scope} {n:Nat} {x:Str} (h:sc.names.lookup x = some .cell):∃ c,(cellsFrom n sc.names []).lookup x = some c:=by
 have q:=PySem.W.cellsFrom_some sc.names n [] (.inl h)
 exact Option.isSome_iff_exists.mp q
theorem aDK {CX:CXT} {P:Program} {w:World} {K:PySem.W.Frag} {mg:Str->Option Value} {base:Heap} {N ps:List Str} {qual:Str} {scope:Scope} {f:Addr} {cd:Value} {A:Around} {outer:List Env} {s s1:Shared} {H:Hp} {E:XK} {us:List Value} {vs:List V}
  (S:aP N ps scope) (hd:A.handled = none) (e0:aGr P w K mg base A outer s H) (hl:vs.length = ps.length) (r:bR vs us)
  (x:InCallC s s.heap.objs.size (bindL (envOfC qual scope s.heap.objs.size f cd).kindOf (ps.zip us) fun _=>none) (cellsFrom (s.heap.objs.size + 1) scope.names []) (bindC (envOfC qual scope s.heap.objs.size f cd).kindOf (ps.zip us) fun _=>none) s1) :
  Inv (nS CX P w K mg base N qual scope f cd A outer s H E) [] (start N vs) H s1:=by
 have hpl:ps.length<=N.length:=by have:=congrArg List.length S.pre;rw [List.length_take] at this;omega
 obtain ⟨h1,tk,rfl,hk⟩:=x.done
 have noA:∀ b:Addr,b ∉ (nS CX P w K mg base N qual scope f cd A outer s H E).ex:=fun b z=>absurd (show b ∈ ([]:List Addr) from z) (by simp)
 refine ⟨⟨e0.mod,S.kind,rfl,rfl,Nat.le_refl _,fun y z c h1 h2=>?_,fun y hy=>?_,fun y c _ h=>?_,fun _=>hd,Around.frames_deeper e0.frames,.inr ⟨rfl,rfl⟩,fun b z=>absurd z (noA b),e0.bs,e0.bsz,fun b _ _=>noA b,fun b z=>absurd z (noA b),e0.funs,e0.frf⟩,
  rfl,e0.bare,Un.kept hk,⟨_,x.toInCall.ns,fun i y v h1 h2 h3=>?_⟩,fun y c h=>⟨_,x.cell y c h⟩,e0.hok.fresh (Nat.le_refl _),fun y c h=>?_,fun p hp=>absurd (show p ∈ ([]:List (Addr × Obj)) from hp) (by simp),e0.hok.kept hk,?_⟩
 ·exact name_of_addr x.apart (PySem.mem_of_lookup h1) (PySem.mem_of_lookup h2)
 ·have hy:scope.names.lookup y = some .cell ∨ scope.names.lookup y = some .free:=hy
  rcases hy with hy | hy
  ·exact aBa hy
  ·exact absurd rfl (S.nofree _ (PySem.mem_of_lookup hy))
 ·exact Nat.le_of_lt (x.above y c (PySem.mem_of_lookup h))
 ·have hi:i < vs.length:=by
   unfold start at h2
   by_cases hi:i < vs.length
   ·exact hi
   ·rw [List.getElem?_append_right (by simpa using hi)] at h2
    rw [List.getElem?_replicate] at h2
    split at h2<;>cases h2
  have ha:vs[i]? = some v:=by
   unfold start at h2
   rw [List.getElem?_append_left (by simpa using hi),List.getElem?_map] at h2
   cases e:vs[i]? with
   | none=>rw [e] at h2;cases h2
   | some a=>rw [e] at h2;cases h2;rfl
  obtain ⟨u,hu,rv⟩:=r.get ha
  have hp:ps[i]? = some y:=by
   rw [<- S.pre,List.getElem?_take_of_lt (by omega)];exact h1
  have ndP:ps.Nodup:=by rw [<- S.pre];exact S.nd.sublist (List.take_sublist _ _)
  refine ⟨u,rv,?_⟩
  rcases S.par y (List.mem_of_getElem? hp) with k | k
  ·exact .inl ⟨k,yP ndP hp hu k⟩
  ·obtain ⟨c,e⟩:=aBa (n:=s.heap.objs.size + 1) k
   refine .inr ⟨.inl k,c,e,?_⟩
   have q:=x.cell y c e
   rw [zB ndP hp hu (by show scope.names.lookup y ≠ _;rw [k];decide)] at q
   exact q
 ·exact e0.hok.fresh (Nat.le_of_lt (x.above y c (PySem.mem_of_lookup h)))
 ·unfold start
  show _ = N.length
  rw [List.length_append,List.length_map,List.length_replicate]
  omega
theorem aHq {CX:CXT} {P:Program} {w:World} {K:PySem.W.Frag} {mg:Str->Option Value} {base:Heap} {k:Nat} {f:Addr} {name qual:Str} {params:Arguments} {body:List Stmt} {scope:Scope} {dV kV doc pm cdv ct oc:Value} {an od:Option Addr}
  {osl:Array (Option Value)} {N ps:List Str} {sp:Sp} (lk:K.lookup f = some ⟨oc,od,.func (PySem.W.fnOf name qual params body scope dV kV doc pm an cdv ct),osl⟩) (hcd:PySem.W.codeIn K cdv qual = true) (S:aP N ps scope)
  (len:∀ vs H Q E,sp vs H Q E->vs.length = ps.length)
  (hbody:∀ (A:Around) (outer:List Env) (s:Shared) (H:Hp) (vs:List V) (Q:VK) (E:XK),eQ k (A.deeper (envOfC qual scope s.heap.objs.size f cdv))->sp vs H Q E ->
   ∃ t,PSs (nS CX P w K mg base N qual scope f cdv A outer s H E) body t/\t { nx:=fun _ H'=>Q .non H',rt:=Q } (start N vs) H) :
  jH P w K mg base CX (k + 1) f (PySem.W.fnOf name qual params body scope dV kV doc pm an cdv ct) ps sp:=by
 refine ⟨len,fun A outer s H args us vs Q E hr e0 hb r hsp=>?_⟩
 have hl:=len _ _ _ _ hsp
 have KX:K.In s.heap:=e0.mod.kin.keeps fun b o e=>(e0.bs b o e).1
 have lim:s.heap.NoLimit:=e0.mod.nolimit.keeps fun b o e=>(e0.bs b o e).1
 have hkind:∀ y ∈ ps.zip us,scope.names.lookup y.1 = some .local ∨ (scope.names.lookup y.1 = some .cell/\((cellsFrom (s.heap.objs.size + 1) scope.names []).lookup y.1).isSome = true):=fun ⟨n,v⟩ hy=>by
  rcases S.par n (List.of_mem_zip hy).1 with q | q
  ·exact .inl q
  ·exact .inr ⟨q,PySem.W.cellsFrom_some _ _ _ (.inl q)⟩
 refine codeAny_call_function hr.depth (KX _ _ lk) rfl S.co S.gen rfl (PySem.W.codeRec_of KX hcd) (hb _ _ _ _ ?_)
 refine wpAny_newFunctionEnv_cells S.kind hkind fun env he s1 x=>?_
 subst he
 refine ⟨lim.keeps x.toInCall.keep,codeAny_func ?_⟩
 obtain ⟨t,ht,hq⟩:=hbody A outer s H vs Q E (hr.deeper _) hsp
 have I:Inv (nS CX P w K mg base N qual scope f cdv A outer s H E) [] (start N vs) H s1:=aDK S hr.hd e0 hl r x
 refine wpAny_mono (ht [] s1 (start N vs) H _ I hq) (fun fl s' hs=>?_) fun e s' hs=>hs
 have fin:∀ {σ':St} {H':Hp} {v:V} {u:Value},Inv (nS CX P w K mg base N qual scope f cdv A outer s H E) [] σ' H' s'->bW v u->Q v H'->CE outer P w H s Q u s' :=
  fun {σ' H' v u} J rv q=>⟨v,H',J.os,J.bare,J.base,J.hok,rv,q⟩
 cases fl with
 | ret u =>
  obtain ⟨v,σ',H',J,rv,q⟩:=hs
  exact fin J rv q
 | next =>
  obtain ⟨σ',H',J,q⟩:=hs
  exact fin (v:=V.non) (u:=Value.none) J rfl q
 | brk =>
  obtain ⟨_,_,_,q⟩:=hs
  exact False.elim q
 | cont =>
  obtain ⟨_,_,_,q⟩:=hs
  exact False.elim q
end L2
namespace L2
open PySem PySem.Spec PyProof.Rows
section
variable {X:Cx} {x:Str} {p pos:Pos} {e:Expr} {es:List Expr} {t:TA} {id T:String} {r:List V->Hp->VK->Prop}
noncomputable def tCB (r:List V->Hp->VK->Prop) (t:TA):TE:=fun σ H Q=>t σ H fun vs H1=>r vs H1 Q
theorem wY (hc:lX X (.builtin id) r) (hg:Gl X x) (hm:X.mg x = none) (hv:bootBuiltins x = some (.builtin id)) (ha:PA X (e :: es) t) (hn:x ≠ "__name__":=by decide) (hdb:(x == ("__debug__":Str)) = false:=by decide)
  (he:starEach (e :: es) X.env = (false,eval e X.env) :: starEach es X.env:=by rfl) (hpl:(backTo pos (starEach es X.env)).any (·.1) = false:=by rfl):PE X (.Call (.Name x p) (e :: es) [] pos) (tCB r t):=by
 intro pins s σ H Q I h
 refine wpAny_Call_Name_kw (aAw I hg hm hv ?_ hn hdb)
 exact PyProof.Rows.callWith_builtin1 (thn (ha pos pins s σ H _ I h) fun us s1 ⟨vs,H1,I1,r1,q1⟩=>hc pins s1 σ H1 vs us Q I1 r1 q1) he hpl
theorem aDf (hc:lX X (.type T) r) (hg:Gl X x) (hm:X.mg x = none) (hv:bootBuiltins x = some (.type T)) (ha:PA X (e :: es) t) (hn:x ≠ "__name__":=by decide) (hdb:(x == ("__debug__":Str)) = false:=by decide)
  (he:starEach (e :: es) X.env = (false,eval e X.env) :: starEach es X.env:=by rfl) (hpl:(backTo pos (starEach es X.env)).any (·.1) = false:=by rfl):PE X (.Call (.Name x p) (e :: es) [] pos) (tCB r t):=by
 intro pins s σ H Q I h
 refine wpAny_Call_Name_kw (aAw I hg hm hv ?_ hn hdb)
 exact PyProof.Rows.callWith_type1 (thn (ha pos pins s σ H _ I h) fun us s1 ⟨vs,H1,I1,r1,q1⟩=>hc pins s1 σ H1 vs us Q I1 r1 q1) he hpl
end
end L2
namespace HT
open PySem PyProof.Rows
section
open PySem.SeqAt
open PySem.AutoSeq1 (wpAny_loadPart')
open PySem.MeetsSeq PySem.MeetsSeq2 PySem.MeetsSeq3
end
section
variable {prog:Program} {w:World} {A:Around} {E:Value->Shared->Prop} {s:Shared}
theorem cat_tup {t b:Addr} {vs ws:List Value} {Q:Value->Shared->Prop} (ht:IsTup s.heap t vs.toArray) (hb:IsTup s.heap b ws.toArray) (hv:vs ≠ [])
  (h1:ws = []->Q (.ref t) s) (h2:ws ≠ []->Q (.ref s.heap.objs.size) { s with heap:=s.heap.push { cls:=.type "tuple",data:=.seq (vs ++ ws).toArray } })
  (hsz:vs.length + ws.length<=sizeLine):wpAny (model prog w) A (binaryOp .Add (.ref t) (.ref b)) Q E s:=by
 obtain ⟨⟨cls,dd,data,sl⟩,ho,hc,n,hd⟩:=id ht
 obtain ⟨⟨cls2,dd2,data2,sl2⟩,ho2,hc2,n2,hd2⟩:=id hb
 simp only at hc hd hc2 hd2
 subst hc hd hc2 hd2
 have e:vs.toArray ++ ws.toArray = (vs ++ ws).toArray:=by simp
 by_cases hw:ws = []
 ·exact concat_meets ⟨_,ho,rfl⟩ ⟨_,ho2,rfl⟩ noFill_tuple_add seq_tuple_add PySem.F.slot_tuple_add PySem.F.entry_tuple_add (PySem.F.args_tuple_add_2 _ _)
   (tuple_addW1 t b vs.toArray ws.toArray n n2 dd dd2 sl sl2 (by simpa using hv) (by simp [hw])) ⟨ho,ho2,h1 hw⟩
 ·refine concat_meets ⟨_,ho,rfl⟩ ⟨_,ho2,rfl⟩ noFill_tuple_add seq_tuple_add PySem.F.slot_tuple_add PySem.F.entry_tuple_add (PySem.F.args_tuple_add_2 _ _)
   (tuple_addW2 t b vs.toArray ws.toArray n n2 dd dd2 sl sl2 (by simpa using hv) (by simpa using hw) (by rw [List.size_toArray,List.size_toArray];exact hsz)) ⟨ho,ho2,?_⟩
  rw [e]
  exact h2 hw
noncomputable def sIx (n d:Nat):Option Int->Nat
 | none=>d
 | some v=>if v < 0 then (v + (n:Int)).toNat else min v.toNat n
theorem sIx_nat (n d k:Nat):sIx n d (some (k:Int)) = min k n:=by
 show (if (k:Int) < 0 then ((k:Int) + (n:Int)).toNat else min (k:Int).toNat n) = min k n
 rw [if_neg (by omega),Int.toNat_natCast]
theorem aJe (n d:Nat) (hd:d<=n) (o:Option Int):sIx n d o<=n:=by
 cases o with
 | none=>exact hd
 | some v =>
  show (if v < 0 then (v + (n:Int)).toNat else min v.toNat n)<=n
  by_cases hv:v < 0
  ·rw [if_pos hv];omega
  ·rw [if_neg hv];exact Nat.min_le_right _ _
theorem aC6 (v:Int) (n d:Nat):(if v < 0 then max (v + (n:Int)) 0 else min v (n:Int)) = ((sIx n d (some v):Nat):Int):=by
 show (if v < 0 then max (v + (n:Int)) 0 else min v (n:Int)) = (((if v < 0 then (v + (n:Int)).toNat else min v.toNat n):Nat):Int)
 by_cases hv:v < 0
 ·simp only [if_pos hv];omega
 ·simp only [if_neg hv];omega
theorem aCc (lo hi:Option Int) (n:Nat):Builtin.Slice.sliceAdjust lo hi 1 (n:Int) = (((sIx n 0 lo:Nat):Int),((sIx n n hi:Nat):Int)):=by
 have h1:¬ ((1:Int) < 0):=by omega
 unfold Builtin.Slice.sliceAdjust
 simp only [h1,if_false]
 refine Prod.ext ?_ ?_
 ·cases lo with
  | none=>rfl
  | some v=>exact aC6 v n 0
 ·cases hi with
  | none=>rfl
  | some v=>exact aC6 v n n
theorem aB5 (i j:Nat):Builtin.Slice.slicePlaces (i:Int) (j:Int) 1 = j - i:=by
 unfold Builtin.Slice.slicePlaces
 have h1:(1:Int) > 0:=by omega
 simp only [h1,if_true,Int.ediv_one]
 split<;>omega
theorem vC {v:Value} {o:Option Int} {Q:Option Int->Shared->Prop} (p:IsPart v o) (h:Q o s):wpAny (model prog w) A (Builtin.Slice.slicePartIndex v) Q E s:=by
 cases p with
 | none=>exact slicePart_none h
 | int i t=>exact slicePart_int h
theorem kQ {sl:Addr} {vl vu:Value} {lo hi:Option Int} {n:Nat} {Q:Int × Int × Nat->Shared->Prop} (hs:s.heap.IsSliceOf sl vl vu .none) (pl:IsPart vl lo) (pu:IsPart vu hi)
  (h:Q (((sIx n 0 lo:Nat):Int),1,sIx n n hi - sIx n 0 lo) s):wpAny (model prog w) A (Builtin.Slice.sliceApplied (.ref sl) (pure (n:Int))) Q E s:=by
 obtain ⟨os,hos,hcs,hds⟩:=id hs
 unfold Builtin.Slice.sliceApplied Builtin.Slice.sliceFields
 refine wpAny_bind (wpAny_bind (wpAny_field hos hds (x:=vl) rfl (wpAny_bind (wpAny_field hos hds (x:=vu) rfl (wpAny_bind (wpAny_field hos hds (x:=.none) rfl (wpAny_pure ?_)))))))
 refine wpAny_bind (slicePart_none ?_)
 show wpAny _ _ (if ((1:Int) == 0) = true then _ else _) _ _ s
 rw [if_neg (by decide)]
 refine wpAny_bind (vC pl (wpAny_bind (vC pu (wpAny_bind (wpAny_pure ?_)))))
 show wpAny _ _ (match Builtin.Slice.sliceAdjust lo hi 1 (n:Int) with | (lo,hi)=>pure (lo,(1:Int),Builtin.Slice.slicePlaces lo hi 1)) _ _ s
 rw [aCc lo hi n]
 show wpAny _ _ (pure (((sIx n 0 lo:Nat):Int),(1:Int),Builtin.Slice.slicePlaces ((sIx n 0 lo:Nat):Int) ((sIx n n hi:Nat):Int) 1)) _ _ s
 rw [aB5]
 exact wpAny_pure h
theorem aD3 (xs:Array Value) (i k:Nat):((List.range k).filterMap fun (m:Nat)=>xs[((i:Int) + (m:Int) * 1).toNat]?).toArray = ((xs.toList.drop i).take k).toArray:=by
 have e:(fun (m:Nat)=>xs[((i:Int) + (m:Int) * 1).toNat]?) = fun m=>xs[i + m]?:=by
  funext m
  have:((i:Int) + (m:Int) * 1).toNat = i + m:=by omega
  rw [this]
 rw [e]
 have:=pick_run xs i k
 rw [List.filterMap_map] at this
 have e2:((fun x=>xs[x]?) ∘ fun x=>i + x) = fun m=>xs[i + m]?:=rfl
 rw [e2] at this
 rw [this]
theorem getItem_tuple_cut {t sl:Addr} {items:Array Value} {vl vu:Value} {lo hi:Option Int} {Q:Value->Shared->Prop} (ht:IsTup s.heap t items) (hs:s.heap.IsSliceOf sl vl vu .none) (pl:IsPart vl lo) (pu:IsPart vu hi)
  (hw:¬ (sIx items.size 0 lo = 0/\sIx items.size items.size hi = items.size))
  (h:Q (.ref s.heap.objs.size) { s with heap:=s.heap.push { cls:=.type "tuple",data:=.seq ((items.toList.drop (sIx items.size 0 lo)).take (sIx items.size items.size hi - sIx items.size 0 lo)).toArray } })
  (hsz:items.size<=sizeLine):wpAny (model prog w) A (getItem (.ref t) (.ref sl)) Q E s:=by
 have htake:sizeOk (.seq ((items.toList.drop (sIx items.size 0 lo)).take (sIx items.size items.size hi - sIx items.size 0 lo)).toArray):=by
  show ((items.toList.drop (sIx items.size 0 lo)).take (sIx items.size items.size hi - sIx items.size 0 lo)).toArray.size<=sizeLine
  rw [List.size_toArray,List.length_take,List.length_drop,Array.length_toList]
  omega
 have hj:sIx items.size items.size hi<=items.size:=aJe _ _ (Nat.le_refl _) hi
 obtain ⟨os,hos,hcs,hds⟩:=id hs
 have hTs:s.TypeIs (.ref sl) "slice":=⟨os,hos,hcs⟩
 unfold getItem
 try with_reducible refine wpAny_holding ?_
 first | refine wpAny_bind (wpAny_pure ?_) | skip
 refine wpAny_bind (wpAny_sequenceKey ht.typeIs (by decide) ?_)
 refine wpAny_bind (wpAny_callSpecial?_slot (name:=Str.ofString "__getitem__") ht.typeIs PyProof.Rows.slot_tuple_getitem
  (wpAny_call_entry PyProof.Rows.slot_tuple_getitem ht.typeIs entry_tuple_getitem ?_ (args_tuple_getitem _ _)))
 show wpAny _ _ (Builtin.Tuple.tupleItemsOf (.ref t) >>= _) _ _ s
 refine wpAny_bind (tupleItemsOf_ ht ?_)
 refine wpAny_bind (wpAny_typeOf hTs ?_)
 rw [if_pos (by decide)]
 refine wpAny_bind (kQ hs pl pu ?_)
 have hno:¬ ((((sIx items.size 0 lo:Nat):Int) == 0 && (1:Int) == 1 && (sIx items.size items.size hi - sIx items.size 0 lo) == items.size) = true):=by
  intro q
  rw [Bool.and_eq_true,Bool.and_eq_true] at q
  have q1:((sIx items.size 0 lo:Nat):Int) = 0:=eq_of_beq q.1.1
  have q2:sIx items.size items.size hi - sIx items.size 0 lo = items.size:=eq_of_beq q.2
  exact hw ⟨by omega,by omega⟩
 show wpAny _ _ (if (((sIx items.size 0 lo:Nat):Int) == 0 && (1:Int) == 1 && (sIx items.size items.size hi - sIx items.size 0 lo) == items.size) = true then _ else _) _ _ s
 rw [if_neg hno,aD3]
 first
  | exact wpAny_bind (m:=Builtin.Tuple.tupleExact _) (wpAny_newObj_type (wpAny_pure ⟨_,rfl,wpAny_pure h⟩) htake)
  | exact wpAny_bind (m:=Builtin.Tuple.tupleExact _) (wpAny_newObj_type (wpAny_bind (wpAny_pure (wpAny_pure ⟨_,rfl,wpAny_pure h⟩))) htake)
  | exact wpAny_bind (wpAny_bind (m:=Builtin.Tuple.tupleExact _) (wpAny_newObj_type (wpAny_pure (wpAny_pure ⟨_,rfl,wpAny_pure h⟩)) htake))
  | exact wpAny_bind (wpAny_bind (m:=Builtin.Tuple.tupleExact _) (wpAny_newObj_type (wpAny_pure ⟨_,rfl,wpAny_pure h⟩) htake))
end
end HT
namespace L2
open PySem PySem.Spec PyProof.Rows
noncomputable abbrev TO:=St->Hp->(Option Int->Hp->Prop)->Prop
noncomputable def PO (X:Cx) (e:Option Expr) (t:TO):Prop :=
 ∀ (pins:List (Addr × Obj)) (s:Shared) (σ:St) (H:Hp) (Q:Option Int->Hp->Prop),Inv X pins σ H s->t σ H Q ->
  wpAny (model X.prog X.w) X.A (evalPart e X.env) (fun u s'=>∃ o H',Inv X pins σ H' s'/\IsPart u o/\Q o H') X.xe s
noncomputable def aF1:TO:=fun _ H Q=>Q none H
noncomputable def aKU (t:TE):TO:=fun σ H Q=>t σ H fun x H1=>∃ i,x = .int i/\Q (some i) H1
section
variable {X:Cx} {e:Expr} {te:TE} {lo hi:Option Expr} {tl th:TO} {pos p2:Pos}
theorem aHm:PO X none aF1:=by
 intro pins s σ H Q I h
 rw [evalPart_none]
 exact wpAny_pure ⟨none,H,I,.none,h⟩
theorem aGQ (h:PE X e te):PO X (some e) (aKU te):=by
 intro pins s σ H Q I hw
 rw [evalPart_some]
 refine thn (h pins s σ H _ I hw) fun u s1 ⟨x,H1,I1,r1,q1⟩=>?_
 obtain ⟨i,rfl,q⟩:=q1
 obtain ⟨t,rfl⟩:=r1
 exact ⟨some i,H1,I1,.int i t,q⟩
noncomputable def SlR (X:Cx) (r:V->Option Int->Option Int->Hp->VK->Prop):Prop :=
 ∀ (pins:List (Addr × Obj)) (s:Shared) (σ:St) (H:Hp) (x:V) (v vl vu:Value) (lo hi:Option Int) (sl:Addr) (Q:VK),Inv X pins σ H s->bW x v->s.heap.IsSliceOf sl vl vu .none->IsPart vl lo->IsPart vu hi->r x lo hi H Q ->
  ∃ T id,typeLookup (.type T) "__getitem__" = pure (some (.builtin id))/\s.TypeIs v T/\wpAny (model X.prog X.w) X.A (getItem v (.ref sl)) (EP X pins σ Q) X.xe s
theorem SlR.or {r r':V->Option Int->Option Int->Hp->VK->Prop} (h:SlR X r) (h':SlR X r'):SlR X (fun x lo hi H Q=>r x lo hi H Q ∨ r' x lo hi H Q):=by
 intro pins s σ H x v vl vu lo hi sl Q I rx hs pl pu q
 rcases q with q | q
 ·exact h pins s σ H x v vl vu lo hi sl Q I rx hs pl pu q
 ·exact h' pins s σ H x v vl vu lo hi sl Q I rx hs pl pu q
noncomputable def tSl (r:V->Option Int->Option Int->Hp->VK->Prop) (te:TE) (tl th:TO):TE:=fun σ H Q=>te σ H fun x H1=>tl σ H1 fun l H2=>th σ H2 fun u H3=>r x l u H3 Q
theorem aBb {r:V->Option Int->Option Int->Hp->VK->Prop} (hr:SlR X r) (he:PE X e te) (hl:PO X lo tl) (hu:PO X hi th):PE X (.Subscript e (.Slice lo hi none p2) pos) (tSl r te tl th):=by
 intro pins s σ H Q I h
 refine Subscript_ (thn (he pins s σ H _ I h) fun v s1 ⟨x,H1,I1,r1,q1⟩=>?_)
 refine wpAny_Slice (thn (hl pins s1 σ H1 _ I1 q1) fun vl s2 ⟨l,H2,I2,pl,q2⟩=>thn (hu pins s2 σ H2 _ I2 q2) fun vu s3 ⟨u,H3,I3,pu,q3⟩=>?_)
 rw [evalPart_none]
 refine wpAny_pure ?_
 have I4:Inv X pins σ H3 { s3 with heap:=s3.heap.push { cls:=.type "slice",data:=.fields #[vl,vu,.none] } }:=I3.kept (t':=s3.toks) fun b ob q=>Heap.get?_push_of_some _ q
 obtain ⟨T,id,hT,ht,hg⟩:=hr pins { s3 with heap:=s3.heap.push { cls:=.type "slice",data:=.fields #[vl,vu,.none] } } σ H3 x v vl vu l u s3.heap.objs.size Q I4 r1 (Heap.IsSliceOf.new ..) pl pu q3
 show wpAny (model X.prog X.w) X.A (subscriptTail e (.Slice lo hi none p2) v (.ref s3.heap.objs.size)) (EP X pins σ Q) X.xe { s3 with heap:=s3.heap.push { cls:=.type "slice",data:=.fields #[vl,vu,.none] } }
 exact tail_any (ops:=[.ref s3.heap.objs.size,v]) ht hT hg (by with_unfolding_all rfl)
noncomputable def aBk (xs:List V) (lo hi:Option Int):List V:=(xs.drop (HT.sIx xs.length 0 lo)).take (HT.sIx xs.length xs.length hi - HT.sIx xs.length 0 lo)
theorem tN (xs:List V) (lo hi:Option Int):(aBk xs lo hi).length<=xs.length:=by
 unfold aBk
 rw [List.length_take,List.length_drop]
 omega
noncomputable def aLH (K:PySem.W.Frag):V->Option Int->Option Int->Hp->VK->Prop:=fun x lo hi H Q=>∃ a xs,x = .ref a/\SqT K H a xs /\
 ¬ (HT.sIx xs.length 0 lo = 0/\HT.sIx xs.length xs.length hi = xs.length)/\∀ p,H p = none->Q (.ref p) (upd H p (.tup (aBk xs lo hi)))
theorem aHZ:SlR X (aLH X.K):=by
 intro pins s σ H x v vl vu lo hi sl Q I rx hs pl pu h
 obtain ⟨a,xs,rfl,hx,hw,q⟩:=h
 cases rx
 obtain ⟨its,r,ht,hz⟩:=I.tuple hx
 have hlen:its.toArray.size = xs.length:=by rw [List.size_toArray];exact r.length.symm
 refine ⟨"tuple",_,PyProof.Rows.slot_tuple_getitem.lookup,ht.typeIs,?_⟩
 refine HT.getItem_tuple_cut ht hs pl pu (by rw [hlen];exact hw) ?_ (by rw [hlen];exact hz)
 rw [hlen]
 refine ⟨.ref s.heap.objs.size,_,I.laid (t':=s.toks) (o:=.tup (aBk xs lo hi)) (fun b ob q=>Heap.get?_push_of_some _ q) (Nat.le_refl _) ?_,rfl,q _ (I.hok.fresh (Nat.le_refl _))⟩
 exact ⟨Nat.le_trans (tN xs lo hi) hz,_,(r.drop (HT.sIx xs.length 0 lo)).take (HT.sIx xs.length xs.length hi - HT.sIx xs.length 0 lo),IsTup.new _ _⟩
noncomputable def aKy (K:PySem.W.Frag):R2:=fun x y H Q=>∃ a b xs ys,x = .ref a/\y = .ref b/\SqT K H a xs/\SqT K H b ys/\xs ≠ []/\xs.length + ys.length<=sizeLine /\
 (ys = []->Q (.ref a) H)/\(ys ≠ []->∀ p,H p = none->Q (.ref p) (upd H p (.tup (xs ++ ys))))
theorem bR.nil_iff {xs:List V} {us:List Value} (r:bR xs us):us = [] ↔ xs = []:=by
 cases r with
 | nil=>simp
 | cons _ _=>simp
theorem aCW:OpR X (binaryOp .Add) (aKy X.K):=by
 intro pins s σ H x y v u Q I rx ry h
 obtain ⟨a,b,xs,ys,rfl,rfl,ha,hb,hx,hz,q1,q2⟩:=h
 cases rx
 cases ry
 obtain ⟨its,r1,p1,_⟩:=I.tuple ha
 obtain ⟨its2,r2,p2,_⟩:=I.tuple hb
 refine HT.cat_tup p1 p2 (fun z=>hx (r1.nil_iff.mp z)) (fun z=>⟨.ref a,H,I,rfl,q1 (r2.nil_iff.mp z)⟩) (fun z=>?_) (by rw [<- r1.length,<- r2.length];exact hz)
 refine ⟨.ref s.heap.objs.size,_,I.laid (t':=s.toks) (o:=.tup (xs ++ ys)) (fun b ob q=>Heap.get?_push_of_some _ q) (Nat.le_refl _) ?_,rfl,q2 (fun w=>z (r2.nil_iff.mpr w)) _ (I.hok.fresh (Nat.le_refl _))⟩
 exact ⟨by rw [List.length_append];exact hz,_,r1.append r2,IsTup.new _ _⟩
end
end L2
namespace L2
open PySem PySem.Spec PyProof.Rows
noncomputable def ixN (n:Nat) (i:Int):Option Nat:=if 0<=i then (if i < n then some i.toNat else none) else if -(n:Int)<=i then some (i + n).toNat else none
noncomputable def atI {α:Type} (xs:List α) (i:Int):Option α:=(ixN xs.length i).bind fun j=>xs[j]?
theorem aGw {n:Nat} {i:Int} {j:Nat} (h:ixN n i = some j):seqIndex? i n = some j/\j < n/\-(n:Int)<=i/\i < n:=by
 unfold ixN at h
 by_cases h0:0<=i
 ·rw [if_pos h0] at h
  by_cases h1:i < n
  ·rw [if_pos h1] at h
   have e:i.toNat = j:=Option.some.inj h
   exact ⟨by rw [seqIndex_of h0 h1,e],by omega,by omega,h1⟩
  ·rw [if_neg h1] at h;cases h
 ·rw [if_neg h0] at h
  by_cases h1:-(n:Int)<=i
  ·rw [if_pos h1] at h
   have e:(i + n).toNat = j:=Option.some.inj h
   exact ⟨by rw [seqIndex_neg (by omega) h1,e],by omega,h1,by omega⟩
  ·rw [if_neg h1] at h;cases h
theorem aC2 {α:Type} {xs:List α} {i:Int} {v:α} (h:atI xs i = some v):∃ j,seqIndex? i xs.length = some j/\xs[j]? = some v/\j < xs.length/\-(xs.length:Int)<=i/\i < xs.length:=by
 unfold atI at h
 cases e:ixN xs.length i with
 | none=>rw [e] at h;cases h
 | some j =>
  rw [e] at h
  obtain ⟨h1,h2,h3,h4⟩:=aGw e
  exact ⟨j,h1,h,h2,h3,h4⟩
theorem aCG {α:Type} {xs:List α} {j:Nat} {v:α} (h:xs[j]? = some v):atI xs (j:Int) = some v:=by
 have hj:j < xs.length:=(List.getElem?_eq_some_iff.mp h).1
 have e:ixN xs.length (j:Int) = some j:=by
  unfold ixN
  rw [if_pos (by omega),if_pos (by omega)];simp
 unfold atI;rw [e];exact h
noncomputable def qI (b:Expr):Prop:=∀ o i,subscripted b false o i = operate [o,i] (getItem o i)
noncomputable def IxR (X:Cx) (r:R2):Prop :=
 ∀ (value slice:Expr) (pins:List (Addr × Obj)) (s:Shared) (σ:St) (H:Hp) (x y:V) (v u:Value) (Q:VK),Inv X pins σ H s->bW x v->bW y u->r x y H Q ->
  subscripted slice false v u = operate [v,u] (getItem v u)->wpAny (model X.prog X.w) X.A (subscriptTail value slice v u) (EP X pins σ Q) X.xe s
noncomputable def MtR (X:Cx) (id:String) (r:V->List V->Hp->VK->Prop):Prop :=
 ∀ (pins:List (Addr × Obj)) (s:Shared) (σ:St) (H:Hp) (x:V) (xs:List V) (v:Value) (us:List Value) (Q:VK),Inv X pins σ H s->bW x v->bR xs us->r x xs H Q ->
  wpAny (model X.prog X.w) X.A (call (.builtin id) (v :: us)) (EP X pins σ Q) X.xe s
section
variable {X:Cx} {a b:Expr} {ta tb:TE} {pos:Pos}
theorem aLv {r:R2} (hr:IxR X r) (ha:PE X a ta) (hb:PE X b tb) (hs:qI b):PE X (.Subscript a b pos) (tOp r ta tb):=by
 intro pins s σ H Q I h
 exact Subscript_ (aJO ha hb I h fun v u s2 x y H2 I2 rx ry q=>hr a b pins s2 σ H2 x y v u Q I2 rx ry q (hs _ _))
noncomputable def aMd (K:PySem.W.Frag):R2:=fun x y H Q=>∃ p xs i v,x = .ref p/\y = .int i/\SqL K H p xs/\atI xs i = some v/\Q v H
noncomputable def aLN (K:PySem.W.Frag):R2:=fun x y H Q=>∃ p xs i v,x = .ref p/\y = .int i/\SqT K H p xs/\atI xs i = some v/\Q v H
theorem aCH:IxR X (aMd X.K):=by
 intro value slice pins s σ H x y v u Q I rx ry h hs
 obtain ⟨p,xs,i,z,rfl,rfl,hq,he,q⟩:=h
 cases rx
 obtain ⟨t,rfl⟩:=ry
 obtain ⟨its,r,pl,hz⟩:=I.list hq
 obtain ⟨j,h1,h2,h3,h4,h5⟩:=aC2 he
 obtain ⟨w,ew,rw'⟩:=r.get h2
 have hl:=r.length
 have hn:=aBH
 have fin:EP X pins σ Q w s:=⟨z,H,I,rw',q⟩
 by_cases h0:0<=i
 ·have hj:i.toNat = j:=by
   rw [seqIndex_of h0 h5] at h1
   exact Option.some.inj h1
  exact item_listR pl.isList h0 (by omega) (by rw [hj];simpa using ew) fin hs
 ·have hj:(i + (its.toArray.size:Int)).toNat = j:=by
   rw [seqIndex_neg (by omega) h4] at h1
   rw [List.size_toArray,<- hl]
   exact Option.some.inj h1
  exact subscriptTail_builtinR (x:=w) pl.isList.typeIs slot_list_getitem.lookup
   (wpAny_getItem_list_neg (Q:=fun r s'=>r = w/\EP X pins σ Q r s') pl.isList (by omega) (by rw [List.size_toArray]<;>omega) (by omega) (by rw [hj];simpa using ew) ⟨rfl,fin⟩) hs
theorem aHS:IxR X (aLN X.K):=by
 intro value slice pins s σ H x y v u Q I rx ry h hs
 obtain ⟨p,xs,i,z,rfl,rfl,hq,he,q⟩:=h
 cases rx
 obtain ⟨t,rfl⟩:=ry
 obtain ⟨its,r,pl,hz⟩:=I.tuple hq
 obtain ⟨j,h1,h2,h3,h4,h5⟩:=aC2 he
 obtain ⟨w,ew,rw'⟩:=r.get h2
 have hl:=r.length
 have hn:=aBH
 have fin:EP X pins σ Q w s:=⟨z,H,I,rw',q⟩
 exact subscriptTail_builtinR (x:=w) pl.typeIs slot_tuple_getitem.lookup
  (getItem_tuple (j:=j) (Q:=fun r s'=>r = w/\EP X pins σ Q r s') pl (by omega) (by omega) (by rw [List.size_toArray,<- hl];exact h1) (by simpa using ew) ⟨rfl,fin⟩) hs
theorem aAh (lo hi:Option Int) (n:Nat):(sliceBounds lo hi none n).1 = ((HT.sIx n 0 lo:Nat):Int)/\(sliceBounds lo hi none n).2.1 = ((HT.sIx n n hi:Nat):Int)/\(sliceBounds lo hi none n).2.2 = 1:=by
 refine ⟨?_,?_,rfl⟩
 ·cases lo with
  | none=>simp [sliceBounds,HT.sIx]
  | some i =>
   simp only [sliceBounds,HT.sIx,Option.getD_none,show (1:Int) > 0 by decide,if_true]
   by_cases h:i < 0
   ·simp only [h,if_true]<;>omega
   ·simp only [h,if_false]<;>omega
 ·cases hi with
  | none=>simp [sliceBounds,HT.sIx]
  | some i =>
   simp only [sliceBounds,HT.sIx,Option.getD_none,show (1:Int) > 0 by decide,if_true]
   by_cases h:i < 0
   ·simp only [h,if_true]<;>omega
   ·simp only [h,if_false]<;>omega
theorem yH (its:List Value) (lo hi:Option Int):slicePick its.toArray lo hi none = ((its.drop (HT.sIx its.length 0 lo)).take (HT.sIx its.length its.length hi - HT.sIx its.length 0 lo)).toArray:=by
 obtain ⟨h1,h2,h3⟩:=aAh lo hi its.toArray.size
 unfold slicePick
 rw [h1,h2,h3]
 simp only [sliceRange_one,pick_run,List.size_toArray]<;>rfl
noncomputable def aLK (K:PySem.W.Frag):V->Option Int->Option Int->Hp->VK->Prop:=fun x lo hi H Q=>∃ a xs,x = .ref a/\SqL K H a xs/\∀ p,H p = none->Q (.ref p) (upd H p (.lst (aBk xs lo hi)))
theorem aGx:SlR X (aLK X.K):=by
 intro pins s σ H x v vl vu lo hi sl Q I rx hs pl pu h
 obtain ⟨a,xs,rfl,hx,q⟩:=h
 cases rx
 obtain ⟨its,r,ht,hz⟩:=I.list hx
 have hlen:=r.length
 refine ⟨"list",_,slot_list_getitem.lookup,ht.isList.typeIs,?_⟩
 refine wpAny_getItem_list_slice ht.isList hs pl pu .none (by simp) ?_ (by rw [List.size_toArray]<;>omega)
 rw [yH,<- hlen]
 refine ⟨.ref s.heap.objs.size,_,I.laid (t':=s.toks) (o:=.lst (aBk xs lo hi)) (fun b ob q=>Heap.get?_push_of_some _ q) (Nat.le_refl _) ?_,rfl,q _ (I.hok.fresh (Nat.le_refl _))⟩
 exact ⟨Nat.le_trans (tN xs lo hi) hz,_,0,(r.drop (HT.sIx xs.length 0 lo)).take (HT.sIx xs.length xs.length hi - HT.sIx xs.length 0 lo),Heap.get?_push_size _ rfl⟩
noncomputable def aEj:V->Bool
 | .non=>true
 | .bl _=>true
 | .int _=>true
 | .str _=>true
 | _=>false
noncomputable def eqV:V->V->Bool
 | .non,.non=>true
 | .bl a,.bl b=>a == b
 | .bl a,.int b=>(if a then 1 else 0) == b
 | .int a,.bl b=>a == (if b then 1 else 0)
 | .int a,.int b=>a == b
 | .str a,.str b=>a == b
 | _,_=>false
theorem aFu {A:Around} {s:Shared} {y x:V} {u v:Value} (ry:bW y u) (rx:bW x v) (fy:aEj y = true) (fx:aEj x = true):SeqAt.EqAt A s u v (eqV y x):=by
 cases y with
 | non =>
  cases ry
  cases x with
  | non=>cases rx;exact SeqAt.EqAt.same _
  | bl b=>cases rx;exact SeqAt.EqAt.none_bool b
  | int b=>obtain ⟨t,rfl⟩:=rx;exact SeqAt.EqAt.none_int b t
  | str b=>obtain ⟨t,rfl⟩:=rx;exact SeqAt.EqAt.none_str b t
  | _=>exact absurd (show false = true from fx) Bool.false_ne_true
 | bl a =>
  cases ry
  cases x with
  | non=>cases rx;exact SeqAt.EqAt.bool_none a
  | bl b=>cases rx;exact SeqAt.EqAt.bool_bool a b
  | int b=>obtain ⟨t,rfl⟩:=rx;exact SeqAt.EqAt.bool_int a b t
  | str b=>obtain ⟨t,rfl⟩:=rx;exact SeqAt.EqAt.bool_str a b t
  | _=>exact absurd (show false = true from fx) Bool.false_ne_true
 | int a =>
  obtain ⟨t',rfl⟩:=ry
  cases x with
  | non=>cases rx;exact SeqAt.EqAt.int_none a t'
  | bl b=>cases rx;exact SeqAt.EqAt.int_bool a t' b
  | int b=>obtain ⟨t,rfl⟩:=rx;exact SeqAt.EqAt.int_int a t' b t
  | str b=>obtain ⟨t,rfl⟩:=rx;exact SeqAt.EqAt.int_str a t' b t
  | _=>exact absurd (show false = true from fx) Bool.false_ne_true
 | str a =>
  obtain ⟨t',rfl⟩:=ry
  cases x with
  | non=>cases rx;exact SeqAt.EqAt.str_none a t'
  | bl b=>cases rx;exact SeqAt.EqAt.str_bool a t' b
  | int b=>obtain ⟨t,rfl⟩:=rx;exact SeqAt.EqAt.str_int a t' b t
  | str b=>obtain ⟨t,rfl⟩:=rx;exact SeqAt.EqAt.str_str a t' b t
  | _=>exact absurd (show false = true from fx) Bool.false_ne_true
 | _=>exact absurd (show false = true from fy) Bool.false_ne_true
theorem zM:lX X (.builtin "len") (fun xs H Q=>∃ p ys,xs = [.ref p]/\(SqL X.K H p ys ∨ SqT X.K H p ys)/\Q (.int ys.length) H):=by
 intro pins s σ H xs us Q I r h
 obtain ⟨p,ys,rfl,hq,q⟩:=h
 obtain ⟨u,rfl,rx⟩:=zD r
 cases rx
 have hn:=aBH
 rcases hq with hq | hq
 ·obtain ⟨its,r',pl,hz⟩:=I.list hq
  have hlen:=r'.length
  exact Calls.call_len_list pl.isList (by simp only [List.size_toArray]<;>omega) ⟨.int ys.length,H,I.tok _,⟨s.toks + 1,by rw [List.size_toArray,hlen]⟩,q⟩
 ·obtain ⟨its,r',pl,hz⟩:=I.tuple hq
  have hlen:=r'.length
  exact len_tuple pl (by simp only [List.size_toArray]<;>omega) ⟨.int ys.length,H,I.tok _,⟨s.toks + 1,by rw [List.size_toArray,hlen]⟩,q⟩
theorem xY:lX X (.type "tuple") (fun xs H Q=>∃ p ys,xs = [.ref p]/\((SqL X.K H p ys/\∀ l,H l = none->Q (.ref l) (upd H l (.tup ys))) ∨ (SqT X.K H p ys/\Q (.ref p) H))):=by
 intro pins s σ H xs us Q I r h
 obtain ⟨p,ys,rfl,h⟩:=h
 obtain ⟨u,rfl,rx⟩:=zD r
 cases rx
 rcases h with ⟨hq,q⟩ | ⟨hq,q⟩
 ·obtain ⟨its,r',pl,hz⟩:=I.list hq
  have hlen:=r'.length
  refine call_tuple_list pl.isList (fun h' kp=>?_) (by simp only [List.size_toArray]<;>omega)
  have I1:Inv X pins σ H { s with heap:=h' }:=I.kept (t':=s.toks) kp
  have I2:Inv X pins σ (upd H h'.objs.size (.tup ys)) { s with heap:=h'.push { cls:=.type "tuple",data:=.seq its.toArray } } :=
   I1.laid (t':=s.toks) (fun b o e=>Heap.get?_push_of_some _ e) (Nat.le_refl _) (show gJ X.prog X.w _ _ _ (.tup ys) from ⟨hz,its,r',IsTup.new _ _⟩)
  exact ⟨.ref h'.objs.size,_,I2,rfl,q _ (I1.hok.fresh (Nat.le_refl _))⟩
 ·obtain ⟨its,r',pl,hz⟩:=I.tuple hq
  exact call_tuple_same pl ⟨.ref p,H,I,rfl,q⟩
noncomputable def tyV (K:PySem.W.Frag) (T:String) (x:V) (H:Hp):Prop:=match x with
 | .str _=>T = "str"
 | .int _=>T = "int"
 | .ref p=>(T = "list"/\∃ xs,SqL K H p xs) ∨ (T = "tuple"/\∃ o,K.lookup p = some o/\o.cls = .type "tuple"/\o.dict = none) ∨
   (T = "dict"/\((∃ kvs,H p = some (.dK kvs)) ∨ ∃ kvs,H p = some (.dT kvs))) ∨ (T = "set"/\∃ S n,H p = some (.set S n))
 | _=>False
theorem aEx {pins:List (Addr × Obj)} {σ:St} {H:Hp} {s:Shared} {T:String} {x:V} {v:Value} (I:Inv X pins σ H s) (r:bW x v) (ty:tyV X.K T x H) :
  s.TypeIs v T/\∀ a,v = .ref a->∃ ob,s.heap.get? a = some ob/\ob.dict = none:=by
 cases x with
 | str z =>
  obtain ⟨t,rfl⟩:=r
  cases (show T = "str" from ty)
  exact ⟨typeIs_str s z t,fun _ e=>nomatch e⟩
 | int i =>
  obtain ⟨t,rfl⟩:=r
  cases (show T = "int" from ty)
  exact ⟨typeIs_int s i t,fun _ e=>nomatch e⟩
 | ref p =>
  cases r
  rcases ty with ⟨rfl,xs,hq⟩ | ⟨rfl,o,hk,hc,hd⟩ | ⟨rfl,hk⟩ | ⟨rfl,S,n,hk⟩
  ·obtain ⟨its,_,pl,_⟩:=I.list hq
   refine ⟨pl.isList.typeIs,fun a e=>?_⟩
   cases e
   obtain ⟨o,n,e,c,hd,_⟩:=pl
   exact ⟨o,e,hd⟩
  ·refine ⟨⟨o,I.kIn p o hk,hc⟩,fun a e=>?_⟩
   cases e
   exact ⟨o,I.kIn _ o hk,hd⟩
  ·have z:∃ o,s.heap.get? p = some o/\o.ExactDict:=by
    rcases hk with ⟨kvs,hk⟩ | ⟨kvs,hk⟩
    ·obtain ⟨_,_,_,_,o,_,_,e,ex,_⟩:=I.hok p _ hk
     exact ⟨o,e,ex⟩
    ·obtain ⟨_,_,_,_,o,_,_,e,ex,_⟩:=I.hok p _ hk
     exact ⟨o,e,ex⟩
   obtain ⟨o,e,ex⟩:=z
   refine ⟨⟨o,e,ex.1⟩,fun a e2=>?_⟩
   cases e2
   exact ⟨o,e,ex.2.1⟩
  ·obtain ⟨o,_,_,_,e,ex,_⟩:=I.hok p _ hk
   refine ⟨⟨o,e,ex.1⟩,fun a e2=>?_⟩
   cases e2
   exact ⟨o,e,ex.2.1⟩
 | _=>exact False.elim ty
noncomputable def aLM (K:PySem.W.Frag) (T:String) (r:V->List V->Hp->VK->Prop) (to:TE):TE:=fun σ H Q=>to σ H fun x H1=>tyV K T x H1/\r x [] H1 Q
noncomputable def tBM (K:PySem.W.Frag) (T:String) (r:V->List V->Hp->VK->Prop) (to:TE) (t:TA):TE:=fun σ H Q=>to σ H fun x H1=>tyV K T x H1/\t σ H1 fun xs H2=>r x xs H2 Q
variable {o e:Expr} {es:List Expr} {to:TE} {t:TA} {name:Str} {apos cpos:Pos} {T id:String} {r:V->List V->Hp->VK->Prop}
theorem aH0 (pa:PlainAttrs T) (slot:Slot T name id) (hty:typeOf (.builtin id) = pure (.type "method_descriptor")) (hm:MtR X id r) (ho:PE X o to)
  (hbase:attributeBase o name X.env (eval o X.env) = eval o X.env:=by rfl) (hline:(apos.endLine == cpos.line) = true:=by rfl):PE X (.Call (.Attribute o name apos) [] [] cpos) (aLM X.K T r to):=by
 intro pins s σ H Q I h
 refine wpAny_Call_method0_late hbase hline (thn (ho pins s σ H _ I h) fun v s1 ⟨x,H1,I1,r1,ty,q1⟩=>?_)
 obtain ⟨h1,h2⟩:=aEx I1 r1 ty
 exact ⟨T,id,pa,slot,hty,h1,h2,Calls.callWith_builtin rfl (PySem.evalArgs_none (hm pins s1 σ H1 x [] v [] Q I1 r1 .nil q1))⟩
theorem aEz (pa:PlainAttrs T) (slot:Slot T name id) (hty:typeOf (.builtin id) = pure (.type "method_descriptor")) (hm:MtR X id r) (ho:PE X o to) (ha:PA X (e :: es) t)
  (hbase:attributeBase o name X.env (eval o X.env) = eval o X.env:=by rfl)
  (hfew:((backTo cpos (starEach (e :: es) X.env)).all (fun x=>!x.1) && (backToKw cpos (keywordEach [] X.env)).all (fun x=>x.1.isSome)
   && decide ((e :: es).length + ([]:List Keyword).length + (if ([]:List Keyword).isEmpty then 0 else 1) < 30)) = true:=by rfl)
  (hline:(apos.endLine == cpos.line) = true:=by rfl) (hs:starEach (e :: es) X.env = (false,eval e X.env) :: starEach es X.env:=by rfl) (hplain:(backTo cpos (starEach es X.env)).any (·.1) = false:=by rfl) :
  PE X (.Call (.Attribute o name apos) (e :: es) [] cpos) (tBM X.K T r to t):=by
 intro pins s σ H Q I h
 refine wpAny_Call_method_late hbase hfew hline rfl (thn (ho pins s σ H _ I h) fun v s1 ⟨x,H1,I1,r1,ty,q1⟩=>?_)
 obtain ⟨h1,h2⟩:=aEx I1 r1 ty
 refine ⟨T,id,pa,slot,hty,h1,h2,?_⟩
 have hA:=ha cpos pins s1 σ H1 _ I1 q1
 rw [hs] at hA ⊢
 refine Calls.callWith_builtin (by show (false || (backTo cpos (starEach es X.env)).any (·.1)) = false;rw [hplain]<;>rfl) (Calls.evalArgs_plain ?_)
 exact thn hA fun us s2 ⟨vs,H2,I2,r2,q2⟩=>hm pins s2 σ H2 x vs v us Q I2 r1 r2 q2
end
end L2
namespace L2
open PySem PySem.Spec PyProof.Rows
noncomputable def MtM (X:Cx) (id:String) (r:V->List V->Hp->VK->Prop):Prop :=
 ∀ (pins:List (Addr × Obj)) (s:Shared) (σ:St) (H:Hp) (x:V) (xs:List V) (v:Value) (us:List Value) (Q:VK),Inv X pins σ H s->bW x v->bR xs us->r x xs H Q ->
  wpAny (model X.prog X.w) X.A (call (.builtin id) (v :: us)) (EP X pins σ Q) X.xe s
theorem bR.one:∀ {x:V} {us:List Value},bR [x] us->∃ u,us = [u]/\bW x u
 | _,_,.cons r .nil=>⟨_,rfl,r⟩
theorem bR.zero:∀ {us:List Value},bR [] us->us = []
 | _,.nil=>rfl
theorem bR.dropLast {xs:List V} {us:List Value} (h:bR xs us):bR xs.dropLast us.dropLast:=by
 induction h with
 | nil=>exact .nil
 | cons r t ih =>
  cases t with
  | nil=>exact .nil
  | cons q t'=>exact .cons r ih
theorem aCj {α:Type} (l:List α):l.eraseIdx (l.length - 1) = l.dropLast:=by
 induction l with
 | nil=>rfl
 | cons a r ih =>
  cases r with
  | nil=>rfl
  | cons b r =>
   have e:(a :: b :: r).length - 1 = ((b :: r).length - 1) + 1:=by
    have h1:(a :: b :: r).length = r.length + 2:=rfl
    have h2:(b :: r).length = r.length + 1:=rfl
    omega
   rw [e,List.eraseIdx_cons_succ,ih]
   all_goals rfl
section
variable {X:Cx} {pins:List (Addr × Obj)} {σ:St} {H:Hp} {s:Shared} {l b:Addr} {xs ys zs:List V}
theorem Inv.lset {its its':List Value} {n:Nat} {f:Array Value->Array Value} {t':Nat} (I:Inv X pins σ H s) (hH:H l = some (.lst xs))
  (e:s.heap.get? l = some { cls:=.type "list",data:=.seq its.toArray n }) (hf:f its.toArray = its'.toArray) (hv:bR ys its') (hz:ys.length<=sizeLine) :
  Inv X pins σ (upd H l (.lst ys)) { s with heap:=s.heap.update l (Obj.mapSeq f),toks:=t' }:=by
 have q:=PySem.IsL.update e f
 rw [hf] at q
 refine I.write (x:=l) (e:=l) (by rw [hH];exact trivial) (.inl rfl) (fun b' u hb hu=>(Heap.get?_update_other s.heap (Obj.mapSeq f) (Ne.symm hb)).trans hu) ⟨_,q⟩ ?_
 exact ⟨hz,its',_,hv,q⟩
theorem Inv.lnew {its:List Value} {t':Nat} (I:Inv X pins σ H s) (hv:bR ys its) (hz:ys.length<=sizeLine) :
  Inv X pins σ (upd H s.heap.objs.size (.lst ys)) { s with heap:=s.heap.push { cls:=.type "list",data:=.seq its.toArray },toks:=t' } :=
 I.laid (fun _ _ q=>Heap.get?_push_of_some _ q) (Nat.le_refl _) ⟨hz,its,0,hv,Heap.get?_push_size _ rfl⟩
theorem Inv.fresh (I:Inv X pins σ H s):H s.heap.objs.size = none:=I.hok.fresh (Nat.le_refl _)
theorem Inv.lstM (I:Inv X pins σ H s) (hH:H l = some (.lst xs)):xs.length<=sizeLine/\∃ (its:List Value) (n:Nat),bR xs its/\xs.length = its.length/\s.heap.get? l = some { cls:=.type "list",data:=.seq its.toArray n }:=by
 obtain ⟨z,its,n,r,e⟩:=I.hok l _ hH
 exact ⟨z,its,n,r,r.length,e⟩
theorem aD9 {n:Nat} (h:n<=sizeLine):Builtin.List.listTooLong n = false:=by
 unfold Builtin.List.listTooLong
 exact decide_eq_false (by omega)
end
section
variable {X:Cx}
noncomputable def aGT:V->List V->Hp->VK->Prop:=fun x vs H Q=>∃ l xs y,x = .ref l/\vs = [y]/\H l = some (.lst xs)/\xs.length < sizeLine/\Q .non (upd H l (.lst (xs ++ [y])))
theorem yQ:MtM X "list.append" aGT:=by
 intro pins s σ H x vs v us Q I rx rv h
 obtain ⟨l,xs,y,rfl,rfl,hH,hz,q⟩:=h
 cases rx
 obtain ⟨u,rfl,ru⟩:=rv.one
 obtain ⟨z,its,n,r,hl,e⟩:=I.lstM hH
 refine call_meets F.slot_list_append ⟨_,e,rfl⟩ F.entry_list_append (F.args_list_append_2 _ _) (PySem.list_append l its.toArray n u (by rw [List.size_toArray];omega)) ⟨e,?_⟩
 refine ⟨.non,_,I.lset (its':=its ++ [u]) hH e (by simp) (r.append (.cons ru .nil)) ?_,rfl,q⟩
 rw [List.length_append,List.length_singleton]
 omega
noncomputable def aFS:V->List V->Hp->VK->Prop:=fun x vs H Q=>∃ l b xs zs,x = .ref l/\vs = [.ref b]/\H l = some (.lst xs)/\H b = some (.lst zs)/\xs.length + zs.length<=sizeLine/\Q .non (upd H l (.lst (xs ++ zs)))
theorem aDy:MtM X "list.extend" aFS:=by
 intro pins s σ H x vs v us Q I rx rv h
 obtain ⟨l,b,xs,zs,rfl,rfl,hH,hB,hz,q⟩:=h
 cases rx
 obtain ⟨u,rfl,ru⟩:=rv.one
 cases ru
 obtain ⟨z,its,n,r,hl,e⟩:=I.lstM hH
 obtain ⟨z2,its2,n2,r2,hl2,e2⟩:=I.lstM hB
 have hsz:its.toArray.size + its2.toArray.size<=sizeLine:=by rw [List.size_toArray,List.size_toArray];omega
 have hlong:¬ (!its.toArray.isEmpty && Builtin.List.listTooLong (its.toArray.size + its2.toArray.size)) = true:=by
  rw [aD9 hsz,Bool.and_false]
  exact Bool.false_ne_true
 refine call_meets F.slot_list_extend ⟨_,e,rfl⟩ F.entry_list_extend (F.args_list_extend_2 _ _)
  (AutoSeq1.list_extend_list_list_0 l its.toArray n b its2.toArray n2 hlong (by rw [List.size_toArray];omega) (by omega)) ⟨e,e2,?_⟩
 refine ⟨.non,_,I.lset (its':=its ++ its2) hH e (by simp) (r.append r2) ?_,rfl,q⟩
 rw [List.length_append]
 omega
noncomputable def aLS:V->List V->Hp->VK->Prop:=fun x vs H Q=>∃ l xs y,x = .ref l/\vs = []/\H l = some (.lst xs)/\xs[xs.length - 1]? = some y/\Q y (upd H l (.lst xs.dropLast))
theorem aJl:MtM X "list.pop" aLS:=by
 intro pins s σ H x vs v us Q I rx rv h
 obtain ⟨l,xs,y,rfl,rfl,hH,hy,q⟩:=h
 cases rx
 have hus:=rv.zero
 subst hus
 obtain ⟨z,its,n,r,hl,e⟩:=I.lstM hH
 obtain ⟨u,hu,ru⟩:=r.get hy
 have hy':its.toArray[its.toArray.size - 1]? = some u:=by
  show its.toArray[its.length - 1]? = some u
  rw [<- Array.getElem?_toList,<- hl]
  exact hu
 refine call_meets F.slot_list_pop ⟨_,e,rfl⟩ F.entry_list_pop (F.args_list_pop_1 _) (MeetsSeq.list_pop_last l its.toArray n u hy' (by rw [List.size_toArray];omega)) ⟨e,?_⟩
 refine ⟨y,_,I.lset (its':=its.dropLast) hH e ?_ r.dropLast ?_,ru,q⟩
 ·show its.toArray.eraseIdxIfInBounds (its.toArray.size - 1) = its.dropLast.toArray
  rw [List.size_toArray,List.eraseIdxIfInBounds_toArray,aCj]
 ·rw [List.length_dropLast]
  omega
noncomputable def aLW:R2:=fun x y H Q=>∃ l b xs zs,x = .ref l/\y = .ref b/\H l = some (.lst xs)/\H b = some (.lst zs)/\xs.length + zs.length<=sizeLine/\∀ p,H p = none->Q (.ref p) (upd H p (.lst (xs ++ zs)))
theorem aJX:OpR X (binaryOp .Add) aLW:=by
 intro pins s σ H x y v u Q I rx ry h
 obtain ⟨l,b,xs,zs,rfl,rfl,hH,hB,hz,q⟩:=h
 cases rx
 cases ry
 obtain ⟨z,its,n,r,hl,e⟩:=I.lstM hH
 obtain ⟨z2,its2,n2,r2,hl2,e2⟩:=I.lstM hB
 refine PySem.P.add_list e e2 ?_ (by rw [List.size_toArray,List.size_toArray];omega)
 have ea:its.toArray ++ its2.toArray = (its ++ its2).toArray:=by simp
 rw [ea]
 exact ⟨.ref _,_,I.lnew (t':=s.toks) (r.append r2) (by rw [List.length_append];omega),rfl,q _ I.fresh⟩
theorem len_rep {α:Type} (xs:List α) (k:Nat):(List.replicate k xs).flatten.length = k * xs.length:=by
 induction k with
 | zero=>simp
 | succ k ih=>rw [List.replicate_succ,List.flatten_cons,List.length_append,ih,Nat.succ_mul,Nat.add_comm]
end
section
variable {prog:Program} {w:World} {A:Around} {E:Value->Shared->Prop} {s:Shared}
end
section
variable {X:Cx}
end
end L2
namespace Att
open PySem PySem.W PySem.Calls PyProof.Rows
theorem tT {P:Params} {h:Heap}:∀ (ns:List Int) (vs:List Value),WellAll P h vs (ns.map WData.int)->IntsAre vs ns:=by
 intro ns
 induction ns with
 | nil =>
  intro vs w
  rw [List.map_nil] at w
  cases w
  exact .nil
 | cons n ns ih =>
  intro vs w
  rw [List.map_cons] at w
  cases w with
  | cons a b =>
   cases a
   exact .cons _ _ (ih _ b)
theorem aDu {l:OpenLaw} {n:Nat} (hn:l.most = some n) {P:Params} {h:Heap} {args:List WData} {vals:List Value}
  (hpre:l.row.toRowW.claim.pre args = true) (hwl:WellAll P h vals args) :
  ∃ a vs ns,vals = [Value.ref a]/\args = [WData.list (ns.map WData.int)]/\h.get? a = some { cls:=.type "list",data:=.seq vs.toArray }/\IntsAre vs ns/\ns.length<=n:=by
 have hsh:WShape.hasAll [] args [.list .int] = true:=(pre_splitW hpre).1
 have hc:l.pre.holds [] { args:=args } = true:=(pre_splitW hpre).2
 obtain ⟨d,r,rfl,h1,h2⟩:=hasAllW_cons hsh
 obtain rfl:=hasAllW_nil h2
 obtain ⟨xs,rfl,h3⟩:=hasW_list h1
 obtain ⟨ns,rfl⟩:=items_int h3
 have hlen:ns.length<=n:=by
  unfold OpenLaw.pre at hc
  have h4:(WTm.not (.lt (.lit (.int (n:Int))) (.len (.arg 0)))).holds [] { args:=[.list (ns.map .int)] } = true:=by
   have h4:=(holds_andW hc).1
   rw [hn] at h4
   exact h4
  have h5:=condW_of h4 (w_not (w_lt w_lit (w_len_list (w_arg rfl))))
  rw [List.length_map] at h5
  refine Nat.le_of_not_lt fun q=>?_
  have q':(n:Int) < ((ns.length:Nat):Int):=by omega
  first
   | (rw [decide_eq_true q'] at h5;exact absurd h5 (by decide))
   | (simp at h5;omega)
 cases hwl with
 | cons w1 w2 =>
  cases w2
  cases w1 with
  | list ho hall=>exact ⟨_,_,ns,rfl,rfl,ho,tT ns _ hall,hlen⟩
theorem aDH (l:OpenLaw) (args:List WData):l.row.toRowW.claim.post args (.bool true) args = true :=
 postW_of (r:=l.row.toRowW) (X:=(true == true))
  (show WShape.has [] (.bool true) .bool = true by first | rfl | decide | simp [WShape.has,WShape.arms,WShape.armsAll])
  (show (WTm.eq .res (.lit (.bool true))).value [] { args:=args,res:=some (.bool true),after:=args } = some (.bool (true == true)) from w_eq_bool (w_res rfl) w_lit) rfl
theorem attach_call {l:OpenLaw} {n:Nat} {q:Program} {loose:List Str} {XP:(Str->Option Value)->Heap->Prop} {YP:World->Heap->Prop} {d:DefRec}
  (hn:l.most = some n) (hdf:d.params.defaults = [])
  (call:∀ (w:World) (s₀ s₁:Shared) (mg mb:Str->Option Value) (fa:Addr) (o:Obj) (pm cd doc:Value) (a:Addr) (vs:List Value) (ns:List Int),
   Ground q loose [] XP w s₀ mg mb s₁.heap->YP w s₁.heap ->
   s₁.heap.get? fa = some o->o.data = .func (docDef d.name d.params d.body d.scope pm cd doc)->s₁.heap.CodeRec cd d.name->mg d.name = some (.ref fa) ->
   s₁.heap.get? a = some { cls:=.type "list",data:=.seq vs.toArray }->IntsAre vs ns->ns.length<=n->s₁.gens = #[] ->
   codeAny (model l.prog w) callerA (.call (.ref fa) ⟨[.ref a],[]⟩) (fun r s'=>r = .ok (.ret (.bool true))/\OldK s₁.heap s'.heap/\s'.os = s₁.os/\AllBare s'.gens) s₁) :
  WalkO q loose XP YP l.row.toRowW d [] (fun f vs=>PySem.call f vs):=by
 intro w s₀ s₁ mg mb G Y fa o pm cd doc dV kV ho hd hcd hD hmg hg args vals as hpre hlay hrd hwl hlo
 obtain rfl:dV = .none:=Dflts.none hD hdf
 obtain rfl:kV = .none:=Dflts.noKw hD
 obtain ⟨a,vs,ns,rfl,rfl,hobj,hints,hlen⟩:=aDu hn hpre hwl
 refine enter_call (codeAny_mono (call w s₀ s₁ mg mb fa o pm cd doc a vs ns G Y ho (fd_plain hd) hcd hmg hobj hints hlen hg) fun r s' hq=>?_)
 obtain ⟨rfl,h2,h3,h4⟩:=hq
 exact ⟨.inl ⟨.bool true,.bool true,[],rfl,fun _=>rfl,.bool true,aDH l _,fun _=>⟨List.Pairwise.nil,fun _ hm=>(nomatch hm)⟩⟩,h2,h3,h4⟩
section
variable {prog:Program} {w:World} {A:Around} {E:Value->Shared->Prop} {s:Shared} {K:Frag}
noncomputable def aCg (h:Heap):Heap:={ h with objs:=#[] }
theorem aBL (h:Heap) (b:Addr):(aCg h).get? b = none:=by
 cases e:(aCg h).get? b with
 | none=>rfl
 | some o=>exact absurd (Heap.lt_size e) (Nat.not_lt_zero _)
theorem aB6 {h:Heap} {L:Addr} {m:Str->Option Value} (n:h.Ns L m):Fr (aCg h) L h m :=
 ⟨n,fun b o e=>(by rw [aBL] at e;cases e),Nat.zero_le _⟩
end
end Att
namespace L2
open PySem PySem.Spec PyProof.Rows
theorem sD:∀ {vs:List Value} {ns:List Int},IntsAre vs ns->bR (ns.map V.int) vs
 | _,_,.nil=>.nil
 | _,_,.cons n t h=>.cons ⟨t,rfl⟩ (sD h)
noncomputable def aH1 (H:Hp):Prop:=∀ b,H b = none ∨ ∃ o xs,H b = some (.frz o (.lst xs))
theorem aFv {P:Program} {w:World} {K:PySem.W.Frag} {mg mb:Str->Option Value} {CX:CXT} {k:Nat} {fa a:Addr} {fd:FuncData} {x:Str} {sp:Sp} {s₁:Shared} {vs:List Value} {ns:List Int}
  (KX:K.In s₁.heap) (hns:s₁.heap.Ns mainGlobals mg) (hb:s₁.heap.Ns builtinsNs mb) (hbb:∀ x:Str,x ≠ "__name__"->mb x = bootBuiltins x) (hlim:s₁.heap.NoLimit) (hg:s₁.gens = #[])
  (ha:s₁.heap.get? a = some { cls:=.type "list",data:=.seq vs.toArray }) (hi:IntsAre vs ns) (hl:ns.length<=sizeLine) (hr:eQ k callerA)
  (F:∀ base:Heap,K.In base->base.Ns mainGlobals mg->jH P w K mg base CX k fa fd [x] sp) (hbind:∀ (s:Shared) (u:Value),BindsTo s fd ⟨[u],[]⟩ [(x,u)])
  (hsp:∀ H:Hp,aH1 H->SqL K H a (ns.map V.int)->sp [.ref a] H (fun v _=>v = .bl true) fun _ _ _=>False)
  (hCX:∀ H e s',CX [] H s₁ (fun _ _ _=>False) e s'->False) :
  codeAny (model P w) callerA (.call (.ref fa) ⟨[.ref a],[]⟩) (fun r s'=>r = .ok (.ret (.bool true))/\OldK s₁.heap s'.heap/\s'.os = s₁.os/\AllBare s'.gens) s₁:=by
 have rv:=sD hi
 have lenV:=hi.length
 have core:∀ H:Hp,aH1 H->SqL K H a (ns.map V.int)->HOk P w H s₁.heap->(∀ b,H b ≠ none->b = a)->(H a ≠ none->K.lookup a = none) ->
   codeAny (model P w) callerA (.call (.ref fa) ⟨[.ref a],[]⟩) (fun r s'=>r = .ok (.ret (.bool true))/\OldK s₁.heap s'.heap/\s'.os = s₁.os/\AllBare s'.gens) s₁:=by
  intro H hO hS hok hA hK
  have base_of:∀ {b:Addr} {o:Obj},s₁.heap.get? b = some o->H b = none->(aAJ s₁.heap H).get? b = some o:=fun e n=>aFJ e n
  have noA:∀ {b:Addr} {o:Obj} {es:Array DictEntry} {ep:Nat},s₁.heap.get? b = some o->o.data = .dict es ep->H b = none:=fun {b o es ep} e d=>by
   cases q:H b with
   | none=>rfl
   | some u =>
    have e':b = a:=hA b (by rw [q];simp)
    subst e'
    rw [ha] at e;cases e
    have d':Data.seq vs.toArray _ = Data.dict es ep:=d
    cases d'
  have nsK:∀ {b:Addr} {m:Str->Option Value},s₁.heap.Ns b m->(aAJ s₁.heap H).Ns b m:=fun {b m} ⟨o,es,ep,e,d,r⟩=>⟨o,es,ep,base_of e (noA e d),d,r⟩
  have hKb:K.In (aAJ s₁.heap H):=fun b o e=>base_of (KX b o e) (by
   cases q:H b with
   | none=>rfl
   | some u =>
    have e':b = a:=hA b (by rw [q];simp)
    subst e'
    rw [hK (by rw [q];simp)] at e;cases e)
  have hM:Mod K mg (aAJ s₁.heap H):=⟨hKb,nsK hns,⟨mb,nsK hb,hbb⟩,let ⟨mc,h1,h2⟩:=hlim;⟨mc,nsK h1,h2⟩⟩
  have e0:aGr P w K mg (aAJ s₁.heap H) callerA [] s₁ H:=⟨rfl,hM,fun b o e=>aFZ e,Nat.le_of_eq (aDs _ _),trivial,fun b hb=>absurd (show b ∈ ([]:List Addr) from hb) (by simp),hok,.of_eq hg⟩
  refine codeAny_mono ((F _ hKb (nsK hns)).run callerA [] s₁ H ⟨[.ref a],[]⟩ [.ref a] [.ref a] _ _ hr e0 (hbind s₁ (.ref a)) (.cons rfl .nil) (hsp H hO hS)) fun r s' h=>?_
  cases r with
  | error e=>exact (hCX H e s' h).elim
  | ok fl =>
   cases fl with
   | next=>exact False.elim h
   | brk=>exact False.elim h
   | cont=>exact False.elim h
   | ret u =>
    obtain ⟨v,H',os,bare,un,hok',r',q⟩:=h
    have q':v = .bl true:=q
    subst q'
    obtain rfl:u = Value.bool true:=r'
    refine ⟨rfl,OldK.of_keep fun b o e=>?_,os,bare⟩
    cases q:H b with
    | none=>exact un.keep b o e q (by intro z;exact absurd (show b ∈ ([]:List Addr) from z) (by simp)) (by simp)
    | some u =>
     rcases hO b with z | ⟨ob,xs,z⟩
     ·rw [q] at z;cases z
     ·have z2:=un.frzs b ob _ z
      obtain ⟨e1,_⟩:=hok b _ z
      obtain ⟨e2,_⟩:=hok' b _ z2
      rw [e] at e1;cases e1
      exact e2
 cases hk:K.lookup a with
 | some o =>
  have e:=KX a o hk
  rw [ha] at e
  cases e
  refine core (fun _=>none) (fun _=>.inl rfl) (.inr ⟨_,vs.toArray,_,hk,rfl,rfl,rfl,by rw [List.size_toArray,lenV];exact hl,by simpa using rv⟩) (fun b u z=>by have z':(none:Option HO) = some u:=z;cases z') (fun b z=>absurd rfl z) fun z=>absurd rfl z
 | none =>
  refine core (fun b=>if b = a then some (.frz { cls:=.type "list",data:=.seq vs.toArray } (.lst (ns.map V.int))) else none) (fun b=>?_) (.inl (.inr ⟨{ cls:=.type "list",data:=.seq vs.toArray },if_pos rfl⟩)) (fun b u z=>?_) (fun b z=>?_) fun _=>hk
  ·by_cases hb:b = a
   ·exact .inr ⟨_,_,if_pos hb⟩
   ·exact .inl (if_neg hb)
  ·by_cases hb:b = a
   ·have z':=(if_pos hb).symm.trans z
    cases z'
    subst hb
    exact ⟨ha,by rw [List.length_map];exact hl,vs,_,rv,ha⟩
   ·have z':=(if_neg hb).symm.trans z
    cases z'
  ·by_cases hb:b = a
   ·exact hb
   ·exact absurd (if_neg hb) z
end L2
namespace L2
open PySem PySem.Spec PyProof.Rows
end L2
namespace L2
open PySem PySem.Spec PyProof.Rows
noncomputable def lR (s:Stmt):Arguments:=match s with
 | .FunctionDef _ a _ _ _ _ _ _ _ _=>a
 | _=>{ posonlyargs:=[],args:=[],vararg:=none,kwonlyargs:=[],kw_defaults:=[],kwarg:=none,defaults:=[] }
noncomputable def eS (s:Stmt):List Stmt:=match s with
 | .FunctionDef _ _ b _ _ _ _ _ _ _=>b
 | _=>[]
noncomputable def aI (s:Stmt):Scope:=match s with
 | .FunctionDef _ _ _ _ _ _ sc _ _ _=>sc
 | _=>{ kind:=.function,names:=[],isGenerator:=false,isCoroutine:=false }
noncomputable abbrev CX0:CXT:=fun _ _ _ _ _ _=>False
noncomputable abbrev E0:XK:=fun _ _ _=>False
theorem aEw {X:Cx}:sK CX0 X E0:=fun _ _ _ _ _ _ _ h=>h.elim
structure Fun (K:PySem.W.Frag) (x qual:Str) (st:Stmt) (f:Addr) (fd:FuncData):Prop where
 ex:∃ (oc:Value) (od:Option Addr) (kV doc pm:Value) (an:Option Addr) (cdv ct:Value) (osl:Array (Option Value)),
  fd = PySem.W.fnOf x qual (lR st) (eS st) (aI st) .none kV doc pm an cdv ct/\K.lookup f = some ⟨oc,od,.func fd,osl⟩/\PySem.W.codeIn K cdv qual = true
 kp:PySem.W.keepIn K (.ref f) = true
section
variable {P:Program} {w:World} {K:PySem.W.Frag} {mg:Str->Option Value} {base:Heap}
theorem Fun.ok {x qual:Str} {st:Stmt} {f:Addr} {fd:FuncData} {N ps:List Str} {k:Nat} {sp:Sp} (F:Fun K x qual st f fd) (S:aP N ps (aI st)) (len:∀ vs H Q E,sp vs H Q E->vs.length = ps.length)
  (hbody:∀ (cdv:Value) (A:Around) (outer:List Env) (s:Shared) (H:Hp) (vs:List V) (Q:VK) (E:XK),eQ k (A.deeper (envOfC qual (aI st) s.heap.objs.size f cdv))->sp vs H Q E ->
   ∃ t,PSs (nS CX0 P w K mg base N qual (aI st) f cdv A outer s H E).nox (eS st) t/\t { nx:=fun _ H'=>Q .non H',rt:=Q } (start N vs) H):jH P w K mg base CX0 (k + 1) f fd ps sp:=by
 obtain ⟨oc,od,kV,doc,pm,an,cdv,ct,osl,rfl,lk,hcd⟩:=F.ex
 refine aHq lk hcd S len fun A outer s H vs Q E hr hsp=>?_
 obtain ⟨t,h,q⟩:=hbody cdv A outer s H vs Q E hr hsp
 exact ⟨t,h.nox,q⟩
theorem Fun.binds {x qual:Str} {st:Stmt} {f:Addr} {fd:FuncData} {ps:List Str} (F:Fun K x qual st f fd)
  (h:∀ (kV doc pm:Value) (an:Option Addr) (cdv ct:Value) (us:List Value),us.length = ps.length->bindArgs (PySem.W.fnOf x qual (lR st) (eS st) (aI st) .none kV doc pm an cdv ct) ⟨us,[]⟩ = pure (ps.zip us)):nO K fd ps []:=by
 obtain ⟨oc,od,kV,doc,pm,an,cdv,ct,osl,rfl,lk,hcd⟩:=F.ex
 exact .all (h kV doc pm an cdv ct)
theorem fun_mk {x qual:Str} {st:Stmt} {f:Addr} {oc:Value} {od an:Option Addr} {osl:Array (Option Value)} {kV doc pm cdv ct:Value} (l:K.lookup f = some ⟨oc,od,.func (PySem.W.fnOf x qual (lR st) (eS st) (aI st) .none kV doc pm an cdv ct),osl⟩)
  (c:PySem.W.codeIn K cdv qual = true) (k:PySem.W.keepIn K (.ref f) = true):Fun K x qual st f (PySem.W.fnOf x qual (lR st) (eS st) (aI st) .none kV doc pm an cdv ct):=⟨⟨oc,od,kV,doc,pm,an,cdv,ct,osl,rfl,l,c⟩,k⟩
end
theorem eL {n:Nat} (h:n<=1000):n < sizeLine:=Nat.lt_of_le_of_lt h (by decide)
section
variable {X:Cx}
end
noncomputable def aDl (H H':Hp):Prop:=∀ b o,H b = some o->H' b = some o
theorem aDl.trans {H H1 H2:Hp} (a:aDl H H1) (b:aDl H1 H2):aDl H H2:=fun c o h=>b c o (a c o h)
theorem aDl.seq {K:PySem.W.Frag} {H H':Hp} {a:Addr} {xs:List V} (e:aDl H H') (h:SqL K H a xs):SqL K H' a xs:=by
 rcases h with (h | ⟨o,h⟩) | h
 ·exact .inl (.inl (e _ _ h))
 ·exact .inl (.inr ⟨o,e _ _ h⟩)
 ·exact .inr h
end L2
set_option maxHeartbeats 4000000
namespace Dd
open PySem PySem.Spec PyProof.Rows L2
inductive D where
 | non | bl (b:Bool) | int (i:Int) | str (x:Str) | tup (xs:List D) | fz (xs:List D) | ref (a:Addr)
noncomputable def SqX (K:PySem.W.Frag) (H:Hp) (a:Addr) (xs:List V):Prop :=
 (∃ o,H a = some (.frz o (.lst xs))) ∨
 ∃ (its:Array Value) (n:Nat),K.lookup a = some { cls:=.type "list",data:=.seq its n }/\its.size<=sizeLine/\bR xs its.toList
theorem SqX.sq {K:PySem.W.Frag} {H:Hp} {a:Addr} {xs:List V} (h:SqX K H a xs):SqL K H a xs:=by
 rcases h with ⟨o,h⟩ | ⟨its,n,h,z,r⟩
 ·exact .inl (.inr ⟨o,h⟩)
 ·exact .inr ⟨_,its,n,h,rfl,rfl,rfl,z,r⟩
mutual
noncomputable def Rep (K:PySem.W.Frag) (H:Hp):D->V->Prop
 | .non,v=>v = .non
 | .bl b,v=>v = .bl b
 | .int i,v=>v = .int i
 | .str x,v=>v = .str x
 | .ref a,v=>v = .ref a
 | .tup ds,v=>∃ a xs,v = .ref a/\SqT K H a xs/\bK K H ds xs
 | .fz ds,v=>∃ a xs,v = .ref a/\SqX K H a xs/\bK K H ds xs
noncomputable def bK (K:PySem.W.Frag) (H:Hp):List D->List V->Prop
 | [],vs=>vs = []
 | d :: ds,vs=>∃ v r,vs = v :: r/\Rep K H d v/\bK K H ds r
end
structure Ext (H H':Hp):Prop where
 tup:∀ a xs,H a = some (.tup xs)->H' a = some (.tup xs)
 frz:∀ a o u,H a = some (.frz o u)->H' a = some (.frz o u)
theorem Ext.refl (H:Hp):Ext H H:=⟨fun _ _ h=>h,fun _ _ _ h=>h⟩
theorem Ext.trans {H H1 H2:Hp} (a:Ext H H1) (b:Ext H1 H2):Ext H H2:=⟨fun c xs h=>b.tup c xs (a.tup c xs h),fun c o u h=>b.frz c o u (a.frz c o u h)⟩
theorem Ext.new {H:Hp} {p:Addr} (h:H p = none) (o:HO):Ext H (upd H p o) :=
 ⟨fun a xs e=>by rw [bU (cA e h)];exact e,fun a ob u e=>by rw [bU (cA e h)];exact e⟩
theorem Ext.put {H:Hp} {p:Addr} {xs:List V} (h:H p = some (.lst xs)) (o:HO):Ext H (upd H p o) :=
 ⟨fun a ys e=>by rw [bU (aFi e h (by intro z;cases z))];exact e,fun a ob u e=>by rw [bU (aFi e h (by intro z;cases z))];exact e⟩
section
variable {K:PySem.W.Frag} {H H':Hp}
theorem kT (e:Ext H H') {a:Addr} {xs:List V} (h:SqT K H a xs):SqT K H' a xs:=by
 rcases h with (h | ⟨o,h⟩) | h
 ·exact .inl (.inl (e.tup _ _ h))
 ·exact .inl (.inr ⟨o,e.frz _ _ _ h⟩)
 ·exact .inr h
theorem lJ (e:Ext H H') {a:Addr} {xs:List V} (h:SqX K H a xs):SqX K H' a xs:=by
 rcases h with ⟨o,h⟩ | h
 ·exact .inl ⟨o,e.frz _ _ _ h⟩
 ·exact .inr h
mutual
theorem Rep.ext (e:Ext H H'):∀ {d:D} {v:V},Rep K H d v->Rep K H' d v
 | .non,_,h=>by unfold Rep at h ⊢;exact h
 | .bl _,_,h=>by unfold Rep at h ⊢;exact h
 | .int _,_,h=>by unfold Rep at h ⊢;exact h
 | .str _,_,h=>by unfold Rep at h ⊢;exact h
 | .ref _,_,h=>by unfold Rep at h ⊢;exact h
 | .tup ds,_,h=>by
  unfold Rep at h ⊢
  obtain ⟨a,xs,e1,sq,r⟩:=h
  exact ⟨a,xs,e1,kT e sq,bK.ext e r⟩
 | .fz ds,_,h=>by
  unfold Rep at h ⊢
  obtain ⟨a,xs,e1,sq,r⟩:=h
  exact ⟨a,xs,e1,lJ e sq,bK.ext e r⟩
theorem bK.ext (e:Ext H H'):∀ {ds:List D} {vs:List V},bK K H ds vs->bK K H' ds vs
 | [],_,h=>by unfold bK at h ⊢;exact h
 | d :: ds,_,h=>by
  unfold bK at h ⊢
  obtain ⟨v,r,e1,hv,hr⟩:=h
  exact ⟨v,r,e1,Rep.ext e hv,bK.ext e hr⟩
end
theorem bT {i:Int}:Rep K H (.int i) (.int i):=by unfold Rep;rfl
theorem eW {b:Bool}:Rep K H (.bl b) (.bl b):=by unfold Rep;rfl
theorem aGC {x:Str}:Rep K H (.str x) (.str x):=by unfold Rep;rfl
theorem qM:Rep K H .non .non:=by unfold Rep;rfl
theorem iO {a:Addr}:Rep K H (.ref a) (.ref a):=by unfold Rep;rfl
theorem aU {i:Int} {v:V} (h:Rep K H (.int i) v):v = .int i:=by unfold Rep at h;exact h
theorem cJ {b:Bool} {v:V} (h:Rep K H (.bl b) v):v = .bl b:=by unfold Rep at h;exact h
theorem cU {x:Str} {v:V} (h:Rep K H (.str x) v):v = .str x:=by unfold Rep at h;exact h
theorem dZ {v:V} (h:Rep K H .non v):v = .non:=by unfold Rep at h;exact h
theorem aW {a:Addr} {v:V} (h:Rep K H (.ref a) v):v = .ref a:=by unfold Rep at h;exact h
theorem bH {ds:List D} {v:V} (h:Rep K H (.tup ds) v):∃ a xs,v = .ref a/\SqT K H a xs/\bK K H ds xs:=by unfold Rep at h;exact h
theorem pF {ds:List D} {v:V} (h:Rep K H (.fz ds) v):∃ a xs,v = .ref a/\SqX K H a xs/\bK K H ds xs:=by unfold Rep at h;exact h
theorem bJ {ds:List D} {a:Addr} {xs:List V} (sq:SqT K H a xs) (r:bK K H ds xs):Rep K H (.tup ds) (.ref a):=by unfold Rep;exact ⟨a,xs,rfl,sq,r⟩
theorem cP:bK K H [] []:=by unfold bK;rfl
theorem bM {vs:List V} (h:bK K H [] vs):vs = []:=by unfold bK at h;exact h
theorem bY {d:D} {ds:List D} {v:V} {vs:List V} (h:Rep K H d v) (r:bK K H ds vs):bK K H (d :: ds) (v :: vs):=by unfold bK;exact ⟨v,vs,rfl,h,r⟩
theorem aY {d:D} {ds:List D} {vs:List V} (h:bK K H (d :: ds) vs):∃ v r,vs = v :: r/\Rep K H d v/\bK K H ds r:=by unfold bK at h;exact h
theorem bK.length:∀ {ds:List D} {vs:List V},bK K H ds vs->ds.length = vs.length
 | [],_,h=>by rw [bM h];rfl
 | d :: ds,_,h=>by
  obtain ⟨v,r,rfl,_,hr⟩:=aY h
  rw [List.length_cons,List.length_cons,bK.length hr]
theorem bK.get:∀ {ds:List D} {vs:List V} {i:Nat} {d:D},bK K H ds vs->ds[i]? = some d->∃ v,vs[i]? = some v/\Rep K H d v
 | [],_,i,d,h,e=>by simp at e
 | d0 :: ds,_,0,d,h,e=>by
  obtain ⟨v,r,rfl,hv,hr⟩:=aY h
  simp at e;subst e
  exact ⟨v,rfl,hv⟩
 | d0 :: ds,_,i + 1,d,h,e=>by
  obtain ⟨v,r,rfl,hv,hr⟩:=aY h
  exact bK.get (i:=i) hr (by simpa using e)
theorem bK.getV:∀ {ds:List D} {vs:List V} {i:Nat} {v:V},bK K H ds vs->vs[i]? = some v->∃ d,ds[i]? = some d/\Rep K H d v
 | [],_,i,v,h,e=>by rw [bM h] at e;simp at e
 | d0 :: ds,_,0,v,h,e=>by
  obtain ⟨v0,r,rfl,hv,hr⟩:=aY h
  simp at e;subst e
  exact ⟨d0,rfl,hv⟩
 | d0 :: ds,_,i + 1,v,h,e=>by
  obtain ⟨v0,r,rfl,hv,hr⟩:=aY h
  exact bK.getV (i:=i) hr (by simpa using e)
theorem bK.append:∀ {ds es:List D} {vs us:List V},bK K H ds vs->bK K H es us->bK K H (ds ++ es) (vs ++ us)
 | [],es,vs,us,h,q=>by rw [bM h];exact q
 | d :: ds,es,_,us,h,q=>by
  obtain ⟨v,r,rfl,hv,hr⟩:=aY h
  exact bY hv (bK.append hr q)
theorem bK.take:∀ {ds:List D} {vs:List V} (n:Nat),bK K H ds vs->bK K H (ds.take n) (vs.take n)
 | ds,vs,0,h=>by rw [List.take_zero,List.take_zero];exact cP
 | [],_,n + 1,h=>by rw [bM h];exact cP
 | d :: ds,_,n + 1,h=>by
  obtain ⟨v,r,rfl,hv,hr⟩:=aY h
  exact bY hv (bK.take n hr)
theorem bK.drop:∀ {ds:List D} {vs:List V} (n:Nat),bK K H ds vs->bK K H (ds.drop n) (vs.drop n)
 | ds,vs,0,h=>h
 | [],_,n + 1,h=>by rw [bM h];exact cP
 | d :: ds,_,n + 1,h=>by
  obtain ⟨v,r,rfl,hv,hr⟩:=aY h
  exact bK.drop n hr
theorem yZ:∀ (ns:List Int),bK K H (ns.map D.int) (ns.map V.int)
 | []=>cP
 | n :: ns=>bY bT (yZ ns)
end
inductive AK where
 | l (a:Addr) | d (a:Addr)
deriving DecidableEq
instance:Coe Addr AK:=⟨AK.l⟩
noncomputable abbrev DM:=AK->Option (List D)
noncomputable def bI (M:DM) (a:Addr) (ds:List D):DM:=fun b=>if b = AK.l a then some ds else M b
theorem aJ {M:DM} {a:Addr} {ds:List D}:bI M a ds a = some ds:=if_pos rfl
theorem cS {M:DM} {a b:Addr} {ds:List D} (h:b ≠ a):bI M a ds b = M b:=if_neg fun e=>h (AK.l.inj e)
theorem gH {M:DM} {a:Addr} {b:AK} {ds:List D} (h:b ≠ AK.l a):bI M a ds b = M b:=if_neg h
theorem aD4 {M:DM} {a b:Addr} {ds:List D}:bI M a ds (.d b) = M (.d b):=if_neg fun e=>nomatch e
theorem zJ {M:DM} {a:Addr} {ds es:List D}:bI (bI M a ds) a es = bI M a es:=by
 funext b;unfold bI;split<;>rfl
theorem eD {M:DM} {a b:Addr} {o:List D} (h:M a = some o) (h':M b = none):a ≠ b:=by
 intro e;subst e;rw [h] at h';cases h'
theorem fY {M:DM} {a b:AK} {o:List D} (h:M a = some o) (h':M b = none):a ≠ b:=by
 intro e;subst e;rw [h] at h';cases h'
noncomputable def aLy (a:Addr) (es:List DictEntry):Heap->Prop:=fun h=>(a == sysModules) = false/\es.length<=sizeLine/\∃ ep,h.get? a = some { cls:=.type "dict",data:=.dict es.toArray ep }
noncomputable def aGH (K:PySem.W.Frag) (H:Hp) (d:D) (e:DictEntry):Prop:=∃ k v kv vv,d = .tup [.int e.hash,k,v]/\bW kv e.key/\Rep K H k kv/\bW vv e.val/\Rep K H v vv
theorem aGH.ext {K:PySem.W.Frag} {H H':Hp} {d:D} {e:DictEntry} (h:aGH K H d e) (x:Ext H H'):aGH K H' d e :=
 let ⟨k,v,kv,vv,a,b,c,f,g⟩:=h;⟨k,v,kv,vv,a,b,c.ext x,f,g.ext x⟩
noncomputable abbrev aEh (K:PySem.W.Frag) (H:Hp) (ds:List D) (es:List DictEntry):Prop:=Paired (aGH K H) ds es
theorem rQ {K:PySem.W.Frag} {H H':Hp} {ds:List D} {es:List DictEntry} (h:aEh K H ds es) (x:Ext H H'):aEh K H' ds es:=Paired.mapP h fun _ _ r=>r.ext x
structure cG (K:PySem.W.Frag) (M:DM) (H:Hp):Prop where
 l:∀ (a:Addr) ds,M (.l a) = some ds->∃ xs,H a = some (.lst xs)/\bK K H ds xs
 d:∀ (a:Addr) ds,M (.d a) = some ds->∃ es,H a = some (.ext (aLy a es))/\aEh K H ds es
section
variable {K:PySem.W.Frag} {H H':Hp} {M M':DM}
theorem cG.fresh (h:cG K M H) {p:Addr} (e:H p = none):M p = none:=by
 cases q:M p with
 | none=>rfl
 | some ds=>obtain ⟨xs,z,_⟩:=h.l p ds q;rw [e] at z;cases z
theorem cG.new (h:cG K M H) {p:Addr} (e:H p = none) (o:HO):cG K M (upd H p o) where
 l:=fun a ds q=>by
  obtain ⟨xs,z,r⟩:=h.l a ds q
  exact ⟨xs,by rw [bU (cA z e)];exact z,r.ext (Ext.new e o)⟩
 d:=fun a ds q=>by
  obtain ⟨xs,z,r⟩:=h.d a ds q
  exact ⟨xs,by rw [bU (cA z e)];exact z,rQ r (Ext.new e o)⟩
theorem cG.lnew (h:cG K M H) {p:Addr} (e:H p = none) {xs:List V} {ds:List D} (r:bK K H ds xs):cG K (bI M p ds) (upd H p (.lst xs)) where
 l:=fun a es q=>by
  by_cases ha:a = p
  ·subst ha
   rw [aJ] at q
   cases q
   exact ⟨xs,eJ,r.ext (Ext.new e _)⟩
  ·rw [cS ha] at q
   obtain ⟨ys,z,r2⟩:=h.l a es q
   exact ⟨ys,by rw [bU ha];exact z,r2.ext (Ext.new e _)⟩
 d:=fun a es q=>by
  rw [aD4] at q
  obtain ⟨ys,z,r2⟩:=h.d a es q
  exact ⟨ys,by rw [bU (cA z e)];exact z,rQ r2 (Ext.new e _)⟩
theorem cG.put (h:cG K M H) {p:Addr} {xs0:List V} (e:H p = some (.lst xs0)) {xs:List V} {ds:List D} (r:bK K H ds xs):cG K (bI M p ds) (upd H p (.lst xs)) where
 l:=fun a es q=>by
  by_cases ha:a = p
  ·subst ha
   rw [aJ] at q
   cases q
   exact ⟨xs,eJ,r.ext (Ext.put e _)⟩
  ·rw [cS ha] at q
   obtain ⟨ys,z,r2⟩:=h.l a es q
   exact ⟨ys,by rw [bU ha];exact z,r2.ext (Ext.put e _)⟩
 d:=fun a es q=>by
  rw [aD4] at q
  obtain ⟨ys,z,r2⟩:=h.d a es q
  exact ⟨ys,by rw [bU (aFi z e (by intro z;cases z))];exact z,rQ r2 (Ext.put e _)⟩
noncomputable def bG (M M':DM):Prop:=∀ a o,M a = some o->M' a = some o
theorem bG.refl (M:DM):bG M M:=fun _ _ h=>h
theorem bG.trans {M1 M2 M3:DM} (a:bG M1 M2) (b:bG M2 M3):bG M1 M3:=fun c o h=>b c o (a c o h)
theorem bG.new {M:DM} {p:Addr} (h:M p = none) (ds:List D):bG M (bI M p ds):=fun a o e=>by rw [gH (fY e h)];exact e
theorem cG.sub (h:cG K M' H) (s:bG M M'):cG K M H:=⟨fun a ds q=>h.l a ds (s _ ds q),fun a ds q=>h.d a ds (s _ ds q)⟩
end
noncomputable abbrev cB:=List (Option D)
structure gB (K:PySem.W.Frag) (H:Hp) (ρ:cB) (σ:L2.St):Prop where
 len:ρ.length = σ.length
 get:∀ (i:Nat) d,ρ[i]? = some (some d)->∃ v,σ[i]? = some (some v)/\Rep K H d v
section
variable {K:PySem.W.Frag} {H H':Hp} {ρ:cB} {σ:L2.St}
theorem gB.ext (h:gB K H ρ σ) (e:Ext H H'):gB K H' ρ σ:=⟨h.len,fun i d q=>let ⟨v,a,b⟩:=h.get i d q;⟨v,a,b.ext e⟩⟩
theorem gB.set (h:gB K H ρ σ) {d:D} {v:V} (r:Rep K H d v) (i:Nat):gB K H (ρ.set i (some d)) (σ.set i (some v)):=by
 refine ⟨by rw [List.length_set,List.length_set,h.len],fun j d' q=>?_⟩
 rw [List.getElem?_set] at q
 by_cases hij:i = j
 ·subst hij
  rw [if_pos rfl] at q
  by_cases hl:i < ρ.length
  ·rw [if_pos hl] at q
   cases q
   exact ⟨v,by rw [List.getElem?_set,if_pos rfl,if_pos (by rw [<- h.len];exact hl)],r⟩
  ·rw [if_neg hl] at q
   cases q
 ·rw [if_neg hij] at q
  obtain ⟨u,a,b⟩:=h.get j d' q
  exact ⟨u,by rw [List.getElem?_set,if_neg hij];exact a,b⟩
end
noncomputable abbrev DQ:=D->DM->Prop
noncomputable abbrev DE:=cB->DM->DQ->Prop
noncomputable abbrev DT:=cB->DM->(Bool->DM->Prop)->Prop
noncomputable abbrev DA:=cB->DM->(List D->DM->Prop)->Prop
structure fZ where
 nx:cB->DM->Prop
 rt:DQ
 bk:cB->DM->Prop:=fun _ _=>False
 ct:cB->DM->Prop:=fun _ _=>False
noncomputable abbrev DS:=fZ->cB->DM->Prop
noncomputable abbrev DG:=D->cB->DM->(cB->DM->Prop)->Prop
noncomputable abbrev DGs:=List D->cB->DM->(cB->DM->Prop)->Prop
noncomputable def LQ (K:PySem.W.Frag) (H:Hp) (Q:DQ):VK:=fun v H'=>∃ d M',Rep K H' d v/\cG K M' H'/\Ext H H'/\Q d M'
noncomputable def LT (K:PySem.W.Frag) (H:Hp) (Q:Bool->DM->Prop):Bool->Hp->Prop:=fun b H'=>∃ M',cG K M' H'/\Ext H H'/\Q b M'
noncomputable def LA (K:PySem.W.Frag) (H:Hp) (Q:List D->DM->Prop):List V->Hp->Prop:=fun vs H'=>∃ ds M',bK K H' ds vs/\cG K M' H'/\Ext H H'/\Q ds M'
noncomputable def LN (K:PySem.W.Frag) (H:Hp) (Q:cB->DM->Prop):L2.St->Hp->Prop:=fun σ' H'=>∃ ρ' M',gB K H' ρ' σ'/\cG K M' H'/\Ext H H'/\Q ρ' M'
structure jW (K:PySem.W.Frag) (H:Hp) (D:fZ) (E:qH):Prop where
 nx:∀ σ' H',LN K H D.nx σ' H'->E.nx σ' H'
 rt:∀ v H',LQ K H D.rt v H'->E.rt v H'
 bk:∀ σ' H',LN K H D.bk σ' H'->E.bk σ' H'
 ct:∀ σ' H',LN K H D.ct σ' H'->E.ct σ' H'
noncomputable def low (K:PySem.W.Frag) (t:DE):TE:=fun σ H Q=>∃ ρ M Q',gB K H ρ σ/\cG K M H/\t ρ M Q'/\∀ v H',LQ K H Q' v H'->Q v H'
noncomputable def aIH (K:PySem.W.Frag) (t:DT):TT:=fun σ H Q=>∃ ρ M Q',gB K H ρ σ/\cG K M H/\t ρ M Q'/\∀ v H',LT K H Q' v H'->Q v H'
noncomputable def aLt (K:PySem.W.Frag) (t:DA):TA:=fun σ H Q=>∃ ρ M Q',gB K H ρ σ/\cG K M H/\t ρ M Q'/\∀ v H',LA K H Q' v H'->Q v H'
noncomputable def aEB (K:PySem.W.Frag) (t:DS):TS:=fun E σ H=>∃ ρ M D,gB K H ρ σ/\cG K M H/\t D ρ M/\jW K H D E
noncomputable def aCh (K:PySem.W.Frag) (g:DG):TG:=fun v σ H Q=>∃ d ρ M Q',Rep K H d v/\gB K H ρ σ/\cG K M H/\g d ρ M Q'/\∀ σ' H',LN K H Q' σ' H'->Q σ' H'
noncomputable def aKA (K:PySem.W.Frag) (g:DGs):TGs:=fun vs σ H Q=>∃ ds ρ M Q',bK K H ds vs/\gB K H ρ σ/\cG K M H/\g ds ρ M Q'/\∀ σ' H',LN K H Q' σ' H'->Q σ' H'
noncomputable abbrev PDE (X:Cx) (e:Expr) (t:DE):Prop:=PE X e (low X.K t)
noncomputable abbrev PDT (X:Cx) (e:Expr) (t:DT):Prop:=PT X e (aIH X.K t)
noncomputable abbrev PDW (X:Cx) (e:Expr) (t:DT):Prop:=PW X e (aIH X.K t)
noncomputable abbrev PDA (X:Cx) (es:List Expr) (t:DA):Prop:=PA X es (aLt X.K t)
noncomputable abbrev PDS (X:Cx) (st:Stmt) (t:DS):Prop:=PS X st (aEB X.K t)
noncomputable abbrev jS (X:Cx) (st:List Stmt) (t:DS):Prop:=PSs X st (aEB X.K t)
noncomputable abbrev PDG (X:Cx) (e:Expr) (g:DG):Prop:=PG X e (aCh X.K g)
noncomputable abbrev aBw (X:Cx) (es:List Expr) (g:DGs):Prop:=PGs X es (aKA X.K g)
section
variable {K:PySem.W.Frag} {H H1:Hp}
theorem LQ.back {Q:DQ} {v:V} {H2:Hp} (e:Ext H H1) (h:LQ K H1 Q v H2):LQ K H Q v H2:=let ⟨d,M,a,b,c,q⟩:=h;⟨d,M,a,b,e.trans c,q⟩
theorem LT.back {Q:Bool->DM->Prop} {v:Bool} {H2:Hp} (e:Ext H H1) (h:LT K H1 Q v H2):LT K H Q v H2:=let ⟨M,b,c,q⟩:=h;⟨M,b,e.trans c,q⟩
theorem LN.back {Q:cB->DM->Prop} {v:L2.St} {H2:Hp} (e:Ext H H1) (h:LN K H1 Q v H2):LN K H Q v H2:=let ⟨d,M,a,b,c,q⟩:=h;⟨d,M,a,b,e.trans c,q⟩
theorem jW.at {D:fZ} {E:qH} (h:jW K H D E) (e:Ext H H1):jW K H1 D E :=
 ⟨fun s H2 q=>h.nx s H2 (q.back e),fun s H2 q=>h.rt s H2 (q.back e),fun s H2 q=>h.bk s H2 (q.back e),fun s H2 q=>h.ct s H2 (q.back e)⟩
end
section
variable {X:Cx} {e:Expr} {st:Stmt} {sts:List Stmt}
theorem cD {t u:TE} (h:PE X e t) (k:∀ σ H Q,u σ H Q->t σ H Q):PE X e u:=fun pins s σ H Q I q=>h pins s σ H Q I (k σ H Q q)
theorem aDP {t u:TT} (h:PT X e t) (k:∀ σ H Q,u σ H Q->t σ H Q):PT X e u:=fun pins s σ H Q I q=>h pins s σ H Q I (k σ H Q q)
theorem aFy {t u:TT} (h:PW X e t) (k:∀ σ H Q,u σ H Q->t σ H Q):PW X e u:=fun wh pins s σ H Q I q=>h wh pins s σ H Q I (k σ H Q q)
theorem aDU {es:List Expr} {t u:TA} (h:PA X es t) (k:∀ σ H Q,u σ H Q->t σ H Q):PA X es u:=fun pos pins s σ H Q I q=>h pos pins s σ H Q I (k σ H Q q)
theorem hW {t u:TS} (h:PS X st t) (k:∀ D σ H,u D σ H->t D σ H):PS X st u:=fun pins s σ H D I q=>h pins s σ H D I (k D σ H q)
theorem aAC {t u:TS} (h:PSs X sts t) (k:∀ D σ H,u D σ H->t D σ H):PSs X sts u:=fun pins s σ H D I q=>h pins s σ H D I (k D σ H q)
theorem aEi {t u:TG} (h:PG X e t) (k:∀ v σ H Q,u v σ H Q->t v σ H Q):PG X e u:=fun pins s σ H v w Q I r q=>h pins s σ H v w Q I r (k v σ H Q q)
theorem aCt {es:List Expr} {t u:TGs} (h:PGs X es t) (k:∀ v σ H Q,u v σ H Q->t v σ H Q):PGs X es u:=fun pins s σ H v w Q I r q=>h pins s σ H v w Q I r (k v σ H Q q)
end
section
variable {X:Cx} {a b c e:Expr} {es:List Expr} {ta tb tc te:DE} {tA tB:DT} {t:DA} {pos:Pos}
noncomputable def zZ (i:Nat):DE:=fun ρ M Q=>match ρ[i]? with
 | some (some d)=>Q d M
 | _=>False
theorem aJK (i:Nat) {x:Str} {pos:Pos} (hN:X.N[i]? = some x:=by rfl) (hv:Vis X.env.scope x:=by first | exact Or.inl rfl | exact Or.inr (Or.inl rfl) | exact Or.inr (Or.inr rfl)) (hd:(x == ("__debug__":Str)) = false:=by decide)
  (hcd:(x == ("__classdict__":Str)) = false:=by decide):PDE X (.Name x pos) (zZ i) :=
 cD (aB7 (i:=i) hN hv hd hcd) fun σ H Q ⟨ρ,M,Q',re,hm,q,k⟩=>by
  unfold zZ at q
  split at q
  ·rename_i d e
   obtain ⟨v,e1,r⟩:=re.get i d e
   exact ⟨v,e1,k v H ⟨d,M,r,hm,.refl H,q⟩⟩
  ·exact q.elim
noncomputable def dC (d:D):DE:=fun _ M Q=>Q d M
theorem aI7 {i j pos}:PDE X (.Constant (.int i) j pos) (dC (.int i)):=cD aId fun σ H Q ⟨ρ,M,Q',re,hm,q,k⟩=>k _ H ⟨_,M,bT,hm,.refl H,q⟩
theorem aLB {i j pos}:PDE X (.Constant (.bool i) j pos) (dC (.bl i)):=cD aLA fun σ H Q ⟨ρ,M,Q',re,hm,q,k⟩=>k _ H ⟨_,M,eW,hm,.refl H,q⟩
theorem aIh {j pos}:PDE X (.Constant .none j pos) (dC .non):=cD aIN fun σ H Q ⟨ρ,M,Q',re,hm,q,k⟩=>k _ H ⟨_,M,qM,hm,.refl H,q⟩
theorem aJU {x j pos}:PDE X (.Constant (.str x) j pos) (dC (.str x)):=cD aIm fun σ H Q ⟨ρ,M,Q',re,hm,q,k⟩=>k _ H ⟨_,M,aGC,hm,.refl H,q⟩
theorem aGh {x:Str} {d:D} {v:V} {u:Value} {pos:Pos} (hg:Gl X x) (hm:X.mg x = some u) (r:bW v u) (hr:∀ H,Rep X.K H d v) (hd:(x == ("__debug__":Str)) = false:=by decide):PDE X (.Name x pos) (dC d) :=
 cD (aC5 hg hm r hd) fun σ H Q ⟨ρ,M,Q',re,hm,q,k⟩=>k _ H ⟨_,M,hr H,hm,.refl H,q⟩
noncomputable abbrev D2:=D->D->DM->DQ->Prop
noncomputable def OpL (K:PySem.W.Frag) (r:R2) (r':D2):Prop:=∀ x y H M dx dy Q,Rep K H dx x->Rep K H dy y->cG K M H->r' dx dy M Q->r x y H (LQ K H Q)
noncomputable def OpD (X:Cx) (f:Value->Value->Sem Value) (r':D2):Prop :=
 OpR X f fun x y H Q=>∃ dx dy M Q',Rep X.K H dx x/\Rep X.K H dy y/\cG X.K M H/\r' dx dy M Q'/\∀ v H',LQ X.K H Q' v H'->Q v H'
theorem aCX {pins:List (Addr × Obj)} {σ:L2.St} {Q Q':VK} {u:Value} {s:Shared} (h:EP X pins σ Q u s) (k:∀ v H,Q v H->Q' v H):EP X pins σ Q' u s:=let ⟨v,H,a,b,c⟩:=h;⟨v,H,a,b,k v H c⟩
theorem OpD.of {f:Value->Value->Sem Value} {r:R2} {r':D2} (h:OpR X f r) (l:OpL X.K r r'):OpD X f r':=fun pins s σ H x y v u Q I rx ry ⟨dx,dy,M,Q',r1,r2,hm,q,k⟩ =>
 thn (h pins s σ H x y v u _ I rx ry (l x y H M dx dy Q' r1 r2 hm q)) fun v s h=>aCX h k
noncomputable def dOp (r:D2) (ta tb:DE):DE:=fun ρ M Q=>ta ρ M fun x M1=>tb ρ M1 fun y M2=>r x y M2 Q
theorem zU {r':D2} {σ:L2.St} {H:Hp} {Q:VK} {R:V->V->Hp->VK->Prop} (hR:∀ x y H1 Q1,(∃ dx dy M Q',Rep X.K H1 dx x/\Rep X.K H1 dy y/\cG X.K M H1/\r' dx dy M Q'/\∀ v H',LQ X.K H1 Q' v H'->Q1 v H')->R x y H1 Q1)
  (h:low X.K (dOp r' ta tb) σ H Q):low X.K ta σ H fun x H1=>low X.K tb σ H1 fun y H2=>R x y H2 Q:=by
 obtain ⟨ρ,M,Q',re,hm,q,k⟩:=h
 refine ⟨ρ,M,_,re,hm,q,fun x H1 ⟨dx,M1,rx,hm1,e1,q1⟩=>⟨ρ,M1,_,re.ext e1,hm1,q1,fun y H2 ⟨dy,M2,ry,hm2,e2,q2⟩=>?_⟩⟩
 exact hR x y H2 Q ⟨dx,dy,M2,Q',rx.ext e2,ry,hm2,q2,fun v H' z=>k v H' (z.back (e1.trans e2))⟩
theorem aKk {op:Operator} {r:D2} (ho:OpD X (binaryOp op) r) (ha:PDE X a ta) (hb:PDE X b tb):PDE X (.BinOp a op b pos) (dOp r ta tb) :=
 cD (aKx ho ha hb) fun σ H Q h=>zU (fun _ _ _ _ z=>z) h
theorem aIf {op:CmpOp} {r:D2} (ho:OpD X (compareOp op) r) (ha:PDE X a ta) (hb:PDE X b tb) (hm:behindInMarks op b = false:=by exact aAl _):PDE X (.Compare a [op] [b] pos) (dOp r ta tb) :=
 cD (aGW ho ha hb hm) fun σ H Q h=>zU (fun _ _ _ _ z=>z) h
noncomputable def yK (t:DE):DT:=fun ρ M Q=>t ρ M fun d M'=>match d with
 | .bl k=>Q k M'
 | _=>False
theorem aBA {σ:L2.St} {H:Hp} {Q:Bool->Hp->Prop} (h:aIH X.K (yK te) σ H Q):low X.K te σ H fun x H'=>∃ k,x = .bl k/\Q k H':=by
 obtain ⟨ρ,M,Q',re,hm,q,k⟩:=h
 refine ⟨ρ,M,_,re,hm,q,fun x H1 ⟨d,M1,rd,hm1,e1,q1⟩=>?_⟩
 cases d with
 | bl c=>exact ⟨c,cJ rd,k c H1 ⟨M1,hm1,e1,q1⟩⟩
 | _=>exact q1.elim
theorem aJ8 {op:CmpOp} {r:D2} (ho:OpD X (compareOp op) r) (ha:PDE X a ta) (hb:PDE X b tb) (hm:behindInMarks op b = false:=by exact aAl _):PDT X (.Compare a [op] [b] pos) (yK (dOp r ta tb)) :=
 aDP (aGs ho ha hb hm) fun σ H Q h=>zU (R:=fun x y H Q1=>∃ dx dy M Q',Rep X.K H dx x/\Rep X.K H dy y/\cG X.K M H/\r dx dy M Q'/\∀ v H',LQ X.K H Q' v H'->Q1 v H') (fun _ _ _ _ z=>z) (aBA h)
theorem aIc (h:PDE X e te) (he:∀ whole,isTrue e X.env whole = (do let v <- whole;standAt e.pos;holding [v] (truthy v)):=by intro _;rfl):PDT X e (yK te) :=
 aDP (aIu h he) fun σ H Q h=>aBA h
noncomputable def aHP (t u:DT):DT:=fun ρ M Q=>t ρ M fun c M1=>if c = true then u ρ M1 Q else Q false M1
noncomputable def dOr (t u:DT):DT:=fun ρ M Q=>t ρ M fun c M1=>if c = true then Q true M1 else u ρ M1 Q
variable {cE:List Expr}
theorem aHi (ha:PDT X a tA):PDW X (.BoolOp .And [a] pos) tA:=aFP ha
theorem aIq (ha:PDT X a tA):PDW X (.BoolOp .Or [a] pos) tA:=aJs ha
theorem aJZ (ha:PDT X a tA) (hb:PDW X (.BoolOp .And (b :: cE) pos) tB):PDW X (.BoolOp .And (a :: b :: cE) pos) (aHP tA tB) :=
 aFy (aJN ha hb) fun σ H Q ⟨ρ,M,Q',re,hm,q,k⟩=>⟨ρ,M,_,re,hm,q,fun c H1 ⟨M1,hm1,e1,q1⟩=>by
  cases c with
  | true=>exact ⟨ρ,M1,_,re.ext e1,hm1,q1,fun v H' z=>k v H' (z.back e1)⟩
  | false=>exact k false H1 ⟨M1,hm1,e1,q1⟩⟩
theorem aKR (ha:PDT X a tA) (hb:PDW X (.BoolOp .Or (b :: cE) pos) tB):PDW X (.BoolOp .Or (a :: b :: cE) pos) (dOr tA tB) :=
 aFy (aK4 ha hb) fun σ H Q ⟨ρ,M,Q',re,hm,q,k⟩=>⟨ρ,M,_,re,hm,q,fun c H1 ⟨M1,hm1,e1,q1⟩=>by
  cases c with
  | false=>exact ⟨ρ,M1,_,re.ext e1,hm1,q1,fun v H' z=>k v H' (z.back e1)⟩
  | true=>exact k true H1 ⟨M1,hm1,e1,q1⟩⟩
theorem aLO (h:PDW X e tA):PDT X e tA:=PW.pt h
noncomputable def aE5 (ta tb:DE):DE:=fun ρ M Q=>ta ρ M fun x M1=>match x with
 | .bl c=>if c = true then tb ρ M1 Q else Q (.bl false) M1
 | _=>False
noncomputable def aIM (ta tb:DE):DE:=fun ρ M Q=>ta ρ M fun x M1=>match x with
 | .bl c=>if c = true then Q (.bl true) M1 else tb ρ M1 Q
 | _=>False
noncomputable def aDV (ta:DE):DE:=fun ρ M Q=>ta ρ M fun x M1=>match x with
 | .bl c=>Q (.bl (!c)) M1
 | _=>False
theorem aIr {op} (h:PDE X a ta):PDE X (.BoolOp op [a] pos) ta:=aH9 h
theorem aJ6 (ha:PDE X a ta) (hb:PDE X (.BoolOp .And (b :: cE) pos) tb):PDE X (.BoolOp .And (a :: b :: cE) pos) (aE5 ta tb) :=
 cD (aIx ha hb) fun σ H Q ⟨ρ,M,Q',re,hm,q,k⟩=>⟨ρ,M,_,re,hm,q,fun x H1 ⟨d,M1,rd,hm1,e1,q1⟩=>by
  cases d with
  | bl c =>
   refine ⟨c,cJ rd,?_⟩
   cases c with
   | true=>exact ⟨ρ,M1,_,re.ext e1,hm1,q1,fun v H' z=>k v H' (z.back e1)⟩
   | false=>exact k _ H1 ⟨_,M1,eW,hm1,e1,q1⟩
  | _=>exact q1.elim⟩
theorem aKF (ha:PDE X a ta) (hb:PDE X (.BoolOp .Or (b :: cE) pos) tb):PDE X (.BoolOp .Or (a :: b :: cE) pos) (aIM ta tb) :=
 cD (aK8 ha hb) fun σ H Q ⟨ρ,M,Q',re,hm,q,k⟩=>⟨ρ,M,_,re,hm,q,fun x H1 ⟨d,M1,rd,hm1,e1,q1⟩=>by
  cases d with
  | bl c =>
   refine ⟨c,cJ rd,?_⟩
   cases c with
   | false=>exact ⟨ρ,M1,_,re.ext e1,hm1,q1,fun v H' z=>k v H' (z.back e1)⟩
   | true=>exact k _ H1 ⟨_,M1,eW,hm1,e1,q1⟩
  | _=>exact q1.elim⟩
theorem aJo (ha:PDE X a ta):PDE X (.UnaryOp .Not a pos) (aDV ta) :=
 cD (aIt ha) fun σ H Q ⟨ρ,M,Q',re,hm,q,k⟩=>⟨ρ,M,_,re,hm,q,fun x H1 ⟨d,M1,rd,hm1,e1,q1⟩=>by
  cases d with
  | bl c=>exact ⟨c,cJ rd,k _ H1 ⟨_,M1,eW,hm1,e1,q1⟩⟩
  | _=>exact q1.elim⟩
noncomputable def aIY (t:DT) (ta tb:DE):DE:=fun ρ M Q=>t ρ M fun c M1=>if c = true then ta ρ M1 Q else tb ρ M1 Q
theorem aEX (hc:PDT X c tA) (ha:PDE X a ta) (hb:PDE X b tb):PDE X (.IfExp c a b pos) (aIY tA ta tb) :=
 cD (aFG hc ha hb) fun σ H Q ⟨ρ,M,Q',re,hm,q,k⟩=>⟨ρ,M,_,re,hm,q,fun c H1 ⟨M1,hm1,e1,q1⟩=>by
  cases c with
  | true=>exact ⟨ρ,M1,_,re.ext e1,hm1,q1,fun v H' z=>k v H' (z.back e1)⟩
  | false=>exact ⟨ρ,M1,_,re.ext e1,hm1,q1,fun v H' z=>k v H' (z.back e1)⟩⟩
noncomputable def aAo:DA:=fun _ M Q=>Q [] M
noncomputable def zK (ta:DE) (tr:DA):DA:=fun ρ M Q=>ta ρ M fun x M1=>tr ρ M1 fun xs M2=>Q (x :: xs) M2
theorem zY:PDA X [] aAo:=aDU aB2 fun σ H Q ⟨ρ,M,Q',re,hm,q,k⟩=>k [] H ⟨[],M,cP,hm,.refl H,q⟩
theorem uH (ha:PDE X e te) (hr:PDA X es t) (hs:starEach (e :: es) X.env = (false,eval e X.env) :: starEach es X.env:=by rfl):PDA X (e :: es) (zK te t) :=
 aDU (qW ha hr hs) fun σ H Q ⟨ρ,M,Q',re,hm,q,k⟩=>⟨ρ,M,_,re,hm,q,fun x H1 ⟨dx,M1,rx,hm1,e1,q1⟩=>⟨ρ,M1,_,re.ext e1,hm1,q1,fun xs H2 ⟨dxs,M2,rxs,hm2,e2,q2⟩ =>
  k _ H2 ⟨dx :: dxs,M2,bY (rx.ext e2) rxs,hm2,e1.trans e2,q2⟩⟩⟩
noncomputable def aIz (t:DA):DE:=fun ρ M Q=>t ρ M fun xs M1=>xs.length<=1000/\Q (.tup xs) M1
noncomputable def aH5 (t:DA):DE:=fun ρ M Q=>t ρ M fun xs M1=>xs.length<=1000/\∀ p:Addr,M1 p = none->Q (.ref p) (bI M1 p xs)
theorem aJ1 {x1} (h:PDA X es t):PDE X (.Tuple es x1 pos) (aIz t) :=
 cD (aIO h) fun σ H Q ⟨ρ,M,Q',re,hm,q,k⟩=>⟨ρ,M,_,re,hm,q,fun xs H1 ⟨ds,M1,rs,hm1,e1,q1,q2⟩=>⟨by rw [<- rs.length];exact Nat.le_of_lt (eL q1),fun p hp =>
  k _ _ ⟨.tup ds,M1,bJ (.of eJ) (rs.ext (Ext.new hp _)),hm1.new hp _,e1.trans (Ext.new hp _),q2⟩⟩⟩
theorem aI1 (h:PDA X es t):PDE X (.List es pos) (aH5 t) :=
 cD (aJW h) fun σ H Q ⟨ρ,M,Q',re,hm,q,k⟩=>⟨ρ,M,_,re,hm,q,fun xs H1 ⟨ds,M1,rs,hm1,e1,q1,q2⟩=>⟨by rw [<- rs.length];exact Nat.le_of_lt (eL q1),fun p hp =>
  k _ _ ⟨.ref p,_,iO,hm1.lnew hp rs,e1.trans (Ext.new hp _),q2 p (hm1.fresh hp)⟩⟩⟩
end
end Dd
namespace Dd
open PySem PySem.Spec PyProof.Rows L2
section
variable {X:Cx} {st:Stmt} {cE:List Stmt} {t u:DS} {e:Expr} {te:DE} {pos:Pos}
noncomputable def aEr:DS:=fun E ρ M=>E.nx ρ M
noncomputable def aJH (t u:DS):DS:=fun E ρ M=>t { E with nx:=u E } ρ M
theorem aGV:jS X [] aEr:=aAC aFQ fun E σ H ⟨ρ,M,D,re,hm,q,k⟩=>k.nx σ H ⟨ρ,M,re,hm,.refl H,q⟩
theorem aE9 (h1:PDS X st t) (h2:jS X cE u):jS X (st :: cE) (aJH t u) :=
 aAC (aA8 h1 h2) fun E σ H ⟨ρ,M,D,re,hm,q,k⟩=>⟨ρ,M,{ D with nx:=u D },re,hm,q,
  ⟨fun σ' H' ⟨ρ',M',re',hm',ex,q'⟩=>⟨ρ',M',D,re',hm',q',k.at ex⟩,k.rt,k.bk,k.ct⟩⟩
theorem aG1 (h1:PDS X st t):jS X [st] t:=aF7 h1
noncomputable def aEt (te:DE):DS:=fun E ρ M=>te ρ M fun _ M1=>E.nx ρ M1
theorem aHf (he:PDE X e te) (hs:swapsWith e none pos.line X.env = pure false:=by rfl):PDS X (.Expr e pos) (aEt te) :=
 hW (aGl he hs) fun E σ H ⟨ρ,M,D,re,hm,q,k⟩=>⟨ρ,M,_,re,hm,q,fun v H1 ⟨d,M1,rd,hm1,ex,q1⟩=>k.nx σ H1 ⟨ρ,M1,re.ext ex,hm1,ex,q1⟩⟩
noncomputable def aI2 (te:DE):DS:=fun E ρ M=>te ρ M E.rt
theorem aJx (he:PDE X e te):PDS X (.Return (some e) pos) (aI2 te) :=
 hW (aIi he) fun E σ H ⟨ρ,M,D,re,hm,q,k⟩=>⟨ρ,M,_,re,hm,q,k.rt⟩
noncomputable def aJd (c:DT) (t u:DS):DS:=fun E ρ M=>c ρ M fun b M1=>if b = true then t E ρ M1 else u E ρ M1
theorem aLw {c:Expr} {a b:List Stmt} {tc:DT} (hc:PDT X c tc) (ha:jS X a t) (hb:jS X b u):PDS X (.If c a b pos) (aJd tc t u) :=
 hW (aKJ hc ha hb) fun E σ H ⟨ρ,M,D,re,hm,q,k⟩=>⟨ρ,M,_,re,hm,q,fun b H1 ⟨M1,hm1,ex,q1⟩=>by
  cases b with
  | true=>exact ⟨ρ,M1,D,re.ext ex,hm1,q1,k.at ex⟩
  | false=>exact ⟨ρ,M1,D,re.ext ex,hm1,q1,k.at ex⟩⟩
noncomputable def aCa:DS:=fun _ _ _=>False
theorem aFq:PDS X st aCa:=fun _ _ _ _ _ _ ⟨_,_,_,_,_,q,_⟩=>q.elim
end
section
variable {X:Cx} {pos:Pos} {e tg:Expr} {es:List Expr} {te:DE}
noncomputable def gN (i:Nat):DG:=fun d ρ M Q=>Q (ρ.set i (some d)) M
theorem aHa {i:Nat} {x:Str} (hN:X.N.Nodup) (hi:X.N[i]? = some x:=by rfl) (hx:Loc X.env.scope x:=by first | exact Or.inl rfl | exact Or.inr rfl) (hf:X.fn x = true ∨ X.env.scope.names.lookup x = some .local:=by first | exact .inl rfl | exact .inr rfl | assumption):PDG X (.Name x pos) (gN i) :=
 aEi (aF2 (i:=i) hN hi hx hf) fun v σ H Q ⟨d,ρ,M,Q',rd,re,hm,q,k⟩=>k _ H ⟨_,M,re.set rd i,hm,.refl H,q⟩
noncomputable def gNl:DGs:=fun ds ρ M Q=>match ds with
 | []=>Q ρ M
 | _=>False
noncomputable def gCn (t:DG) (u:DGs):DGs:=fun ds ρ M Q=>match ds with
 | d :: r=>t d ρ M fun ρ' M'=>u r ρ' M' Q
 | []=>False
theorem aGp:aBw X [] gNl:=aCt aGj fun v σ H Q ⟨ds,ρ,M,Q',rd,re,hm,q,k⟩=>by
 cases ds with
 | nil=>exact ⟨bM rd,k σ H ⟨ρ,M,re,hm,.refl H,q⟩⟩
 | cons _ _=>exact q.elim
theorem aEb {t:DG} {u:DGs} (h1:PDG X e t) (h2:aBw X es u) (hs:(assignEach (e :: es) X.env).map (·.2) = assign e X.env :: (assignEach es X.env).map (·.2):=by rfl):aBw X (e :: es) (gCn t u) :=
 aCt (aEK h1 h2 hs) fun v σ H Q ⟨ds,ρ,M,Q',rd,re,hm,q,k⟩=>by
  cases ds with
  | nil=>exact q.elim
  | cons d r =>
   obtain ⟨x,xs,rfl,rx,rxs⟩:=aY rd
   exact ⟨x,xs,rfl,d,ρ,M,_,rx,re,hm,q,fun σ' H' ⟨ρ',M',re',hm',ex,q'⟩=>⟨r,ρ',M',Q',rxs.ext ex,re',hm',q',fun σ2 H2 z=>k σ2 H2 (z.back ex)⟩⟩
noncomputable def gT (n:Nat) (t:DGs):DG:=fun d ρ M Q=>match d with
 | .tup ds=>ds.length = n/\t ds ρ M Q
 | _=>False
theorem aH2 {k:Nat} {t:DGs} {n:Nat} (hc:X.calm = true) (h:aBw X es t) (hn:(assignEach es X.env).length = n:=by rfl) (hst:(assignEach es X.env).findIdx? (·.1) = none:=by rfl):PDG X (.Tuple es k pos) (gT n t) :=
 aEi (aJm hc h hn hst) fun v σ H Q ⟨d,ρ,M,Q',rd,re,hm,q,k⟩=>by
  cases d with
  | tup ds =>
   obtain ⟨a,xs,rfl,sq,rs⟩:=bH rd
   exact ⟨a,xs,rfl,sq,by rw [<- rs.length];exact q.1,ds,ρ,M,Q',rs,re,hm,q.2,k⟩
  | _=>exact q.elim
noncomputable def aDj (te:DE) (g:DG):DS:=fun E ρ M=>te ρ M fun x M1=>g x ρ M1 E.nx
theorem aGA {g:DG} {σ:L2.St} {H:Hp} {E:qH} (h:aEB X.K (aDj te g) E σ H):low X.K te σ H fun x H1=>aCh X.K g x σ H1 E.nx:=by
 obtain ⟨ρ,M,D,re,hm,q,k⟩:=h
 exact ⟨ρ,M,_,re,hm,q,fun v H1 ⟨d,M1,rd,hm1,ex,q1⟩=>⟨d,ρ,M1,_,rd,re.ext ex,hm1,q1,fun σ' H' z=>k.nx σ' H' (z.back ex)⟩⟩
theorem aJD {g:DG} (he:PDE X e te) (hg:PDG X tg g) (hs:swapsWithSole [tg] e pos.line X.env = pure false:=by rfl) (hw:swappedStores [tg] e X.env = pure none:=by rfl)
  (h1:(assignEach [tg] X.env).map (·.2) = [assign tg X.env]:=by rfl):PDS X (.Assign [tg] e pos) (aDj te g) :=
 hW (aJV he hg hs hw h1) fun E σ H h=>aGA h
theorem aJ7 {i:Nat} {x:Str} {pos':Pos} (hN:X.N.Nodup) (he:PDE X e te) (hi:X.N[i]? = some x:=by rfl) (hx:Loc X.env.scope x:=by first | exact Or.inl rfl | exact Or.inr rfl) (hs:swapsWith e (some (.Name x pos')) pos.line X.env = pure false:=by rfl) (hf:X.fn x = true ∨ X.env.scope.names.lookup x = some .local:=by first | exact .inl rfl | exact .inr rfl | assumption) :
  PDS X (.Assign [.Name x pos'] e pos) (aDj te (gN i)) :=
 hW (aHY (i:=i) hN hi hx he hs hf) fun E σ H ⟨ρ,M,D,re,hm,q,k⟩=>⟨ρ,M,_,re,hm,q,fun v H1 ⟨d,M1,rd,hm1,ex,q1⟩=>k.nx _ H1 ⟨_,M1,(re.ext ex).set rd i,hm1,ex,q1⟩⟩
noncomputable def aIE (i j:Nat) (ta:DA):DS:=fun E ρ M=>ta ρ M fun ds M1=>match ds with
 | [x,y]=>E.nx ((ρ.set i (some x)).set j (some y)) M1
 | _=>False
theorem aIw {i j:Nat} {x y:Str} {a b:Expr} {ta:DA} {px py pt:Pos} {kt k2 pt2} (hc:X.calm = true) (hN:X.N.Nodup) (ha:PDA X [a,b] ta) (hi:X.N[i]? = some x:=by rfl) (hj:X.N[j]? = some y:=by rfl) (hij:i ≠ j:=by decide)
  (hx:X.env.scope.names.lookup x = some .local:=by rfl) (hy:X.env.scope.names.lookup y = some .local:=by rfl)
  (hw:swappedStores [.Tuple [.Name x px,.Name y py] kt pt] (.Tuple [a,b] k2 pt2) X.env = pure (some [x,y]):=by rfl)
  (hs:swapsWithSole [.Tuple [.Name x px,.Name y py] kt pt] (.Tuple [a,b] k2 pt2) pos.line X.env = pure false:=by rfl) :
  PDS X (.Assign [.Tuple [.Name x px,.Name y py] kt pt] (.Tuple [a,b] k2 pt2) pos) (aIE i j ta) :=
 hW (aJ5 (i:=i) (j:=j) hc hN hi hj hij hx hy ha hw hs) fun E σ H ⟨ρ,M,D,re,hm,q,k⟩=>⟨ρ,M,_,re,hm,q,fun vs H1 ⟨ds,M1,rs,hm1,ex,q1⟩=>by
  match ds,q1 with
  | [d1,d2],q1 =>
   obtain ⟨v1,r1,rfl,rv1,rr1⟩:=aY rs
   obtain ⟨v2,r2,rfl,rv2,rr2⟩:=aY rr1
   obtain rfl:=bM rr2
   exact ⟨v1,v2,rfl,k.nx _ H1 ⟨_,M1,((re.ext ex).set rv1 i).set rv2 j,hm1,ex,q1⟩⟩
  | [],q1=>exact q1.elim
  | [_],q1=>exact q1.elim
  | _ :: _ :: _ :: _,q1=>exact q1.elim⟩
end
section
variable {X:Cx} {pos:Pos}
noncomputable def aBV (c:DT) (tb:DS):DS:=fun E ρ M=>∃ W:Nat->cB->DM->Prop,(∃ m,W m ρ M)/\∀ m ρ M,W m ρ M ->
 c ρ M fun b M1=>if b = true then tb { E with nx:=fun ρ' M'=>∃ m',m' < m/\W m' ρ' M',ct:=fun ρ' M'=>∃ m',m' < m/\W m' ρ' M',bk:=E.nx } ρ M1 else E.nx ρ M1
theorem aFs {c:Expr} {body:List Stmt} {tc:DT} {tb:DS} (hp:PassesOwn (model X.prog X.w) X.A X.env X.xe) (hc:PDT X c tc) (hb:jS X body tb):PDS X (.While c body [] pos) (aBV tc tb) :=
 hW (aEn hp hc hb) fun E σ H ⟨ρ,M,D,re,hm,⟨W,⟨m0,w0⟩,turn⟩,k⟩=>by
  refine ⟨fun m σ' H'=>∃ ρ' M',gB X.K H' ρ' σ'/\cG X.K M' H'/\Ext H H'/\W m ρ' M',⟨m0,ρ,M,re,hm,.refl H,w0⟩,?_⟩
  rintro m σ1 H1 ⟨ρ1,M1,re1,hm1,e1,w1⟩
  refine ⟨ρ1,M1,_,re1,hm1,turn m ρ1 M1 w1,fun b H2 ⟨M2,hm2,e2,q2⟩=>?_⟩
  cases b with
  | false=>exact k.nx σ1 H2 ⟨ρ1,M2,re1.ext e2,hm2,e1.trans e2,q2⟩
  | true =>
   refine ⟨fun σ' H'=>∃ m',m' < m/\∃ ρ' M',gB X.K H' ρ' σ'/\cG X.K M' H'/\Ext H H'/\W m' ρ' M',fun σ' H' z=>z,?_⟩
   refine ⟨ρ1,M2,_,re1.ext e2,hm2,q2,?_⟩
   have ex:=e1.trans e2
   exact ⟨fun σ' H' ⟨ρ',M',a,b,c,m',l,d⟩=>⟨m',l,ρ',M',a,b,ex.trans c,d⟩,fun v H' z=>k.rt v H' (z.back ex),fun σ' H' z=>k.nx σ' H' (z.back ex),fun σ' H' ⟨ρ',M',a,b,c,m',l,d⟩=>⟨m',l,ρ',M',a,b,ex.trans c,d⟩⟩
theorem kI {c:DT} {tb:DS} {E:fZ} {ρ:cB} {M:DM} (Pv:Nat->cB->DM->Prop) (m0:Nat) (h0:Pv m0 ρ M)
  (hs:∀ m ρ M,Pv m ρ M->c ρ M fun b M1=>if b = true then tb { E with nx:=fun ρ' M'=>∃ m',m' < m/\Pv m' ρ' M',ct:=fun ρ' M'=>∃ m',m' < m/\Pv m' ρ' M',bk:=E.nx } ρ M1 else E.nx ρ M1):aBV c tb E ρ M:=⟨Pv,⟨m0,h0⟩,hs⟩
noncomputable def dIt (at':Option Addr) (ds:List D) (g:DG) (tb:DS):DS:=fun E ρ M=>∃ Pv:Nat->cB->DM->Prop,Pv 0 ρ M /\
 (∀ i ρ M,i<=ds.length->Pv i ρ M->∀ a,at' = some a->M a = some ds) /\
 (∀ i d ρ M,ds[i]? = some d->Pv i ρ M->g d ρ M fun ρ2 M2=>tb { E with nx:=Pv (i + 1),ct:=Pv (i + 1),bk:=E.nx } ρ2 M2)/\∀ ρ M,Pv ds.length ρ M->E.nx ρ M
noncomputable def aBc (tl:DE) (g:DG) (tb:DS):DS:=fun E ρ M=>tl ρ M fun d M1=>match d with
 | .tup ds=>dIt none ds g tb E ρ M1
 | _=>False
noncomputable def aA2 (tl:DE) (g:DG) (tb:DS):DS:=fun E ρ M=>tl ρ M fun d M1=>match d with
 | .fz ds=>dIt none ds g tb E ρ M1
 | .ref a=>∃ ds,M1 a = some ds/\dIt (some a) ds g tb E ρ M1
 | _=>False
variable {iter tg:Expr} {body:List Stmt} {tl:DE} {g:DG} {tb:DS}
theorem aD1 {K:PySem.W.Frag} {a':Option Addr} {ds:List D} {E:qH} {Dn:fZ} {σ:L2.St} {ρ:cB} {M:DM} {H0 H:Hp} {J:It} (ex0:Ext H0 H) (re:gB K H ρ σ) (hm:cG K M H) (k:jW K H0 Dn E) (h:dIt a' ds g tb Dn ρ M)
  (seq:∀ H',Ext H H'->(∀ M',cG K M' H'->(∀ a,a' = some a->M' a = some ds)->∃ xs,bK K H' ds xs/\(∀ i,xs.length<=i->J.stop i H')/\(∀ i,i < xs.length->J.go i H')/\∀ i x H2,J.yld i H' x H2->H2 = H'/\xs[i]? = some x)) :
  ∃ W:Nat->Nat->L2.St->Hp->Prop,(∃ m,W 0 m σ H)/\∀ i m σ H,W i m σ H ->
   (J.stop i H/\E.nx σ H) ∨ (J.go i H/\∃ N:L2.St->Hp->Prop,(∀ σ' H',N σ' H'->∃ m',m' < m/\W (i + 1) m' σ' H')/\∀ x H',J.yld i H x H'->aCh K g x σ H' fun σ2 H2=>aEB K tb { E with nx:=N,ct:=N,bk:=E.nx } σ2 H2):=by
 obtain ⟨Pv,p0,hat,step,done⟩:=h
 refine ⟨fun i m σ' H'=>∃ ρ' M',gB K H' ρ' σ'/\cG K M' H'/\Ext H H'/\m = ds.length - i/\i<=ds.length/\Pv i ρ' M',⟨ds.length,ρ,M,re,hm,.refl H,rfl,Nat.zero_le _,p0⟩,?_⟩
 rintro i m σ1 H1 ⟨ρ1,M1,re1,hm1,e1,rfl,hi,w1⟩
 obtain ⟨xs,rs,hst,hgo,hy⟩:=seq H1 e1 M1 hm1 (hat i ρ1 M1 hi w1)
 have hl:=rs.length
 by_cases hlt:i < ds.length
 ·refine .inr ⟨hgo i (by omega),fun σ' H'=>∃ ρ' M',gB K H' ρ' σ'/\cG K M' H'/\Ext H H'/\Pv (i + 1) ρ' M',fun σ' H' ⟨ρ',M',a,b,c,d⟩=>⟨ds.length - (i + 1),by omega,ρ',M',a,b,c,rfl,hlt,d⟩,fun x H' y=>?_⟩
  obtain ⟨rfl,hx⟩:=hy i x H' y
  obtain ⟨d,hd,rd⟩:=rs.getV hx
  refine ⟨d,ρ1,M1,_,rd,re1,hm1,step i d ρ1 M1 hd w1,fun σ2 H2 ⟨ρ2,M2,re2,hm2,e2,q2⟩=>⟨ρ2,M2,_,re2,hm2,q2,?_⟩⟩
  have ex:=e1.trans e2
  exact ⟨fun σ' H' ⟨ρ',M',a,b,c,d⟩=>⟨ρ',M',a,b,ex.trans c,d⟩,fun v H' z=>k.rt v H' (z.back (ex0.trans ex)),fun σ' H' z=>k.nx σ' H' (z.back (ex0.trans ex)),fun σ' H' ⟨ρ',M',a,b,c,d⟩=>⟨ρ',M',a,b,ex.trans c,d⟩⟩
 ·have e:i = ds.length:=by omega
  subst e
  exact .inl ⟨hst _ (by omega),k.nx σ1 H1 ⟨ρ1,M1,re1,hm1,ex0.trans e1,done ρ1 M1 w1⟩⟩
noncomputable def aKS (lo:Int) (n:Nat) (g:DG) (tb:DS):DS:=fun E ρ M=>∃ Pv:Nat->cB->DM->Prop,Pv 0 ρ M /\
 (∀ i ρ M,i < n->Pv i ρ M->g (.int (lo + i)) ρ M fun ρ2 M2=>tb { E with nx:=Pv (i + 1),ct:=Pv (i + 1),bk:=E.nx } ρ2 M2)/\∀ ρ M,Pv n ρ M->E.nx ρ M
noncomputable def aDQ (ta:DA) (g:DG) (tb:DS):DS:=fun E ρ M=>ta ρ M fun ds M1=>match ds with
 | [.int j]=>(-(2 ^ 62)<=j/\j < 2 ^ 62)/\aKS 0 j.toNat g tb E ρ M1
 | _=>False
theorem aJi {K:PySem.W.Frag} {lo:Int} {n:Nat} {E:qH} {Dn:fZ} {σ:L2.St} {ρ:cB} {M:DM} {H0 H:Hp} (ex0:Ext H0 H) (re:gB K H ρ σ) (hm:cG K M H) (k:jW K H0 Dn E) (h:aKS lo n g tb Dn ρ M) :
  ∃ W:Nat->Nat->L2.St->Hp->Prop,(∃ m,W 0 m σ H)/\∀ i m σ H,W i m σ H ->
   ((Itr lo n).stop i H/\E.nx σ H) ∨ ((Itr lo n).go i H/\∃ N:L2.St->Hp->Prop,(∀ σ' H',N σ' H'->∃ m',m' < m/\W (i + 1) m' σ' H')/\∀ x H',(Itr lo n).yld i H x H'->aCh K g x σ H' fun σ2 H2=>aEB K tb { E with nx:=N,ct:=N,bk:=E.nx } σ2 H2):=by
 obtain ⟨Pv,p0,step,done⟩:=h
 refine ⟨fun i m σ' H'=>∃ ρ' M',gB K H' ρ' σ'/\cG K M' H'/\Ext H H'/\m = n - i/\i<=n/\Pv i ρ' M',⟨n,ρ,M,re,hm,.refl H,rfl,Nat.zero_le _,p0⟩,?_⟩
 rintro i m σ1 H1 ⟨ρ1,M1,re1,hm1,e1,rfl,hi,w1⟩
 by_cases hlt:i < n
 ·refine .inr ⟨hlt,fun σ' H'=>∃ ρ' M',gB K H' ρ' σ'/\cG K M' H'/\Ext H H'/\Pv (i + 1) ρ' M',fun σ' H' ⟨ρ',M',a,b,c,d⟩=>⟨n - (i + 1),by omega,ρ',M',a,b,c,rfl,hlt,d⟩,fun x H' y=>?_⟩
  obtain ⟨rfl,rfl⟩:=y
  refine ⟨_,ρ1,M1,_,bT,re1,hm1,step i ρ1 M1 hlt w1,fun σ2 H2 ⟨ρ2,M2,re2,hm2,e2,q2⟩=>⟨ρ2,M2,_,re2,hm2,q2,?_⟩⟩
  have ex:=e1.trans e2
  exact ⟨fun σ' H' ⟨ρ',M',a,b,c,d⟩=>⟨ρ',M',a,b,ex.trans c,d⟩,fun v H' z=>k.rt v H' (z.back (ex0.trans ex)),fun σ' H' z=>k.nx σ' H' (z.back (ex0.trans ex)),fun σ' H' ⟨ρ',M',a,b,c,d⟩=>⟨ρ',M',a,b,ex.trans c,d⟩⟩
 ·have e:i = n:=by omega
  subst e
  exact .inl ⟨Nat.le_refl _,k.nx σ1 H1 ⟨ρ1,M1,re1,hm1,ex0.trans e1,done ρ1 M1 w1⟩⟩
end
end Dd
namespace Dd
open PySem PySem.Spec PyProof.Rows L2
section
variable {X:Cx} {pos:Pos} {iter tg:Expr} {body:List Stmt} {tl:DE} {g:DG} {tb:DS} {ta:DA}
theorem aCC (hp:PassesOwn (model X.prog X.w) X.A X.env X.xe) (hc:X.calm = true) (hi:PDE X iter tl) (hg:PDG X tg g) (hb:jS X body tb) (hs:∀ x,foldedSetIterable iter X.env x = pure x:=by intro _;rfl):PDS X (.For tg iter body [] pos) (aBc tl g tb) :=
 hW (aCf hp hc (aDO hi) hg hb hs) fun E σ H ⟨ρ,M,Dn,re,hm,q,k⟩=>⟨ρ,M,_,re,hm,q,fun v H1 ⟨d,M1,rd,hm1,ex,q1⟩=>by
  cases d with
  | tup ds =>
   obtain ⟨a,xs,rfl,sq,rs⟩:=bH rd
   refine ⟨a,rfl,⟨xs,sq⟩,aD1 ex (re.ext ex) hm1 k q1 fun H' e' M' hm' _=>⟨xs,rs.ext e',fun i hi=>⟨xs,kT e' sq,hi⟩,fun i hi=>⟨xs,xs[i],kT e' sq,by simp [hi]⟩,fun i x H2 y=>⟨y.1,y.2 xs (kT e' sq)⟩⟩⟩
  | _=>exact q1.elim⟩
theorem aCO (hp:PassesOwn (model X.prog X.w) X.A X.env X.xe) (hc:X.calm = true) (hi:PDE X iter tl) (hg:PDG X tg g) (hb:jS X body tb) (hs:∀ x,foldedSetIterable iter X.env x = pure x:=by intro _;rfl):PDS X (.For tg iter body [] pos) (aA2 tl g tb) :=
 hW (aCf hp hc (aDa hi) hg hb hs) fun E σ H ⟨ρ,M,Dn,re,hm,q,k⟩=>⟨ρ,M,_,re,hm,q,fun v H1 ⟨d,M1,rd,hm1,ex,q1⟩=>by
  cases d with
  | fz ds =>
   obtain ⟨a,xs,rfl,sq,rs⟩:=pF rd
   exact ⟨a,rfl,⟨xs,sq.sq⟩,aD1 ex (re.ext ex) hm1 k q1 fun H' e' M' hm' _=>⟨xs,rs.ext e',fun i hi=>⟨xs,(lJ e' sq).sq,hi⟩,fun i hi=>⟨xs,xs[i],(lJ e' sq).sq,by simp [hi]⟩,fun i x H2 y=>⟨y.1,y.2 xs (lJ e' sq).sq⟩⟩⟩
  | ref a =>
   obtain ⟨ds,ha,q1⟩:=q1
   obtain rfl:=aW rd
   obtain ⟨xs,hx,rs⟩:=hm1.l a ds ha
   refine ⟨a,rfl,⟨xs,.of hx⟩,aD1 ex (re.ext ex) hm1 k q1 fun H' e' M' hm' hat=>?_⟩
   obtain ⟨ys,hy,rs'⟩:=hm'.l a ds (hat a rfl)
   exact ⟨ys,rs',fun i hi=>⟨ys,.of hy,hi⟩,fun i hi=>⟨ys,ys[i],.of hy,by simp [hi]⟩,fun i x H2 y=>⟨y.1,y.2 ys (.of hy)⟩⟩
  | _=>exact q1.elim⟩
theorem aGm {a:Expr} {p pos':Pos} (hp:PassesOwn (model X.prog X.w) X.A X.env X.xe) (hc:X.calm = true) (hmg:X.mg "range" = none) (ha:PDA X [a] ta) (hg:PDG X tg g) (hb:jS X body tb) (hgl:Gl X "range":=by rfl) (hse:starEach [a] X.env = [(false,eval a X.env)]:=by rfl)
  (hs:∀ x,foldedSetIterable (.Call (.Name "range" p) [a] [] pos') X.env x = pure x:=by intro _;rfl):PDS X (.For tg (.Call (.Name "range" p) [a] [] pos') body [] pos) (aDQ ta g tb) :=
 hW (aCf hp hc (aDh hgl hmg ha hse) hg hb hs) fun E σ H ⟨ρ,M,Dn,re,hm,q,k⟩=>⟨ρ,M,_,re,hm,q,fun vs H1 ⟨ds,M1,rs,hm1,ex,q1⟩=>by
  rcases ds with _ | ⟨d,_ | ⟨d2,r⟩⟩
  ·exact q1.elim
  ·cases d with
   | int j =>
    obtain ⟨⟨j1,j2⟩,q1⟩:=q1
    obtain ⟨v1,r1,rfl,rv1,rr1⟩:=aY rs
    obtain rfl:=bM rr1
    obtain rfl:=aU rv1
    exact ⟨j,rfl,j1,j2,aJi ex (re.ext ex) hm1 k q1⟩
   | _=>exact q1.elim
  ·cases d<;>exact q1.elim⟩
end
mutual
noncomputable def eqD:D->D->Bool
 | .tup xs,.tup ys=>jI xs ys
 | .non,.non=>true
 | .bl a,.bl b=>a == b
 | .bl a,.int b=>(if a then 1 else 0) == b
 | .int a,.bl b=>a == (if b then 1 else 0)
 | .int a,.int b=>a == b
 | .str a,.str b=>a == b
 | _,_=>false
noncomputable def jI:List D->List D->Bool
 | [],[]=>true
 | x :: xs,y :: ys=>eqD x y && jI xs ys
 | _,_=>false
end
noncomputable def bB:Nat->D->Bool
 | _,.ref _=>false
 | _,.fz _=>false
 | 0,.tup _=>false
 | n + 1,.tup ds=>ds.all (bB n)
 | _,_=>true
noncomputable def sQ:List D->List D->Nat->Bool
 | x :: _,y :: _,0=>eqD x y
 | _ :: xs,_ :: ys,j + 1=>sQ xs ys j
 | _,_,_=>true
theorem wC (n:Nat) (e:Nat->Bool):(List.range (n + 1)).all e = (e 0 && (List.range n).all fun j=>e (j + 1)):=by
 rw [List.range_succ_eq_map,List.all_cons,List.all_map]
 rfl
theorem iV:∀ (xs ys:List D),jI xs ys = ((List.range (min xs.length ys.length)).all (sQ xs ys) && xs.length == ys.length)
 | [],[]=>by simp [jI]
 | [],_ :: _=>by simp [jI]
 | _ :: _,[]=>by simp [jI]
 | x :: xs,y :: ys=>by
  have ih:=iV xs ys
  have e1:min (x :: xs).length (y :: ys).length = min xs.length ys.length + 1:=by simp only [List.length_cons];omega
  have e2:((x :: xs).length == (y :: ys).length) = (xs.length == ys.length):=by simp
  rw [e1,e2,wC]
  show (eqD x y && jI xs ys) = ((eqD x y && (List.range (min xs.length ys.length)).all fun j=>sQ xs ys j) && xs.length == ys.length)
  rw [ih,Bool.and_assoc]
section
variable {X:Cx} {pins:List (Addr × Obj)} {σ:L2.St} {H:Hp} {s:Shared}
theorem yU {n:Nat} {d:D} (p:bB n d = true) (h:∀ xs,d ≠ .tup xs):bB 0 d = true:=by
 cases d with
 | tup xs=>exact absurd rfl (h xs)
 | ref b=>cases n<;>exact absurd p Bool.false_ne_true
 | fz b=>cases n<;>exact absurd p Bool.false_ne_true
 | _=>rfl
theorem rG {d d':D} {v:V} (p:bB 0 d = true) (p':bB 0 d' = true) (r:Rep X.K H d v) (r':Rep X.K H d' v):eqD d d' = true:=by
 cases d<;>cases d'<;>first
  | (exact absurd p Bool.false_ne_true)
  | (exact absurd p' Bool.false_ne_true)
  | (unfold Rep at r r';subst r;cases r'<;>simp [eqD])
theorem wJ {d:D} {a:Addr} (p:bB 0 d = true) (r:Rep X.K H d (.ref a)):False:=by
 cases d<;>first
  | (exact absurd p Bool.false_ne_true)
  | (unfold Rep at r;cases r)
theorem aA4 {n:Nat} (ih:∀ {d d':D} {v:V},bB n d = true->bB n d' = true->Rep X.K H d v->Rep X.K H d' v->eqD d d' = true) :
  ∀ {xs ys:List D} {us:List V},xs.all (bB n) = true->ys.all (bB n) = true->bK X.K H xs us->bK X.K H ys us->jI xs ys = true
 | [],[],_,_,_,_,_=>by simp [jI]
 | [],_ :: _,_,_,_,r,r'=>by
  rw [bM r] at r'
  obtain ⟨_,_,z,_⟩:=aY r'
  cases z
 | _ :: _,[],_,_,_,r,r'=>by
  rw [bM r'] at r
  obtain ⟨_,_,z,_⟩:=aY r
  cases z
 | x :: xs,y :: ys,_,p1,p2,r,r'=>by
  obtain ⟨v0,r0,rfl,h1,h2⟩:=aY r
  obtain ⟨v0',r0',e0,h1',h2'⟩:=aY r'
  cases e0
  rw [List.all_cons,Bool.and_eq_true] at p1 p2
  show (eqD x y && jI xs ys) = true
  rw [ih p1.1 p2.1 h1 h1',aA4 ih p1.2 p2.2 h2 h2']
  rfl
theorem aGU (I:Inv X pins σ H s):∀ (n:Nat) {d d':D} {v:V},bB n d = true->bB n d' = true->Rep X.K H d v->Rep X.K H d' v->eqD d d' = true:=by
 intro n
 induction n with
 | zero=>intro d d' v p p' r r';exact rG p p' r r'
 | succ n ih =>
  intro d d' v p p' r r'
  by_cases h1:∃ xs,d = .tup xs
  ·obtain ⟨xs,rfl⟩:=h1
   obtain ⟨a,us,rfl,sq,rs⟩:=bH r
   by_cases h2:∃ ys,d' = .tup ys
   ·obtain ⟨ys,rfl⟩:=h2
    obtain ⟨a',us',e1',sq',rs'⟩:=bH r'
    cases e1'
    obtain rfl:=I.tuple_inj sq sq'
    exact aA4 ih p p' rs rs'
   ·exact (wJ (yU p' fun xs e=>h2 ⟨xs,e⟩) r').elim
  ·have p0:=yU p fun xs e=>h1 ⟨xs,e⟩
   by_cases h2:∃ ys,d' = .tup ys
   ·obtain ⟨ys,rfl⟩:=h2
    obtain ⟨a',us',rfl,sq',rs'⟩:=bH r'
    exact (wJ p0 r).elim
   ·exact rG p0 (yU p' fun xs e=>h2 ⟨xs,e⟩) r r'
theorem jC (I:Inv X pins σ H s) {a:Addr} {xs:List V} (sq:SqT X.K H a xs):∃ its:List Value,bR xs its/\s.heap.IsTuple a its.toArray:=let ⟨its,r,p,_⟩:=I.tuple sq;⟨its,r,p⟩
theorem uN {d:D} {v:V} {n:Nat} (h:Rep X.K H d v) (p:bB 0 d = true):aEj v = true:=by
 cases d with
 | non=>unfold Rep at h;subst h;rfl
 | bl b=>unfold Rep at h;subst h;rfl
 | int b=>unfold Rep at h;subst h;rfl
 | str b=>unfold Rep at h;subst h;rfl
 | tup b=>exact absurd p Bool.false_ne_true
 | ref b=>exact absurd p Bool.false_ne_true
 | fz b=>exact absurd p Bool.false_ne_true
theorem rB {A:Around} {n:Nat} (ih:∀ {d d':D} {v v':V} {u u':Value},bB n d = true->bB n d' = true->Rep X.K H d v->Rep X.K H d' v'->bW v u->bW v' u'->SeqAt.EqAt A s u u' (eqD d d')) :
  ∀ {xs ys:List D} {us us':List V} {its its':List Value},xs.all (bB n) = true->ys.all (bB n) = true->bK X.K H xs us->bK X.K H ys us'->bR us its->bR us' its'->∀ j (h1:j < its.length) (h2:j < its'.length),SeqAt.EqAt A s its[j] its'[j] (sQ xs ys j)
 | [],ys,us,us',its,its',_,_,r1,_,v1,_,j,h1,_=>by rw [bM r1] at v1;cases v1;exact absurd h1 (Nat.not_lt_zero _)
 | _ :: _,[],us,us',its,its',_,_,_,r2,_,v2,j,_,h2=>by rw [bM r2] at v2;cases v2;exact absurd h2 (Nat.not_lt_zero _)
 | x :: xs,y :: ys,us,us',its,its',p1,p2,r1,r2,v1,v2,j,h1,h2=>by
  obtain ⟨a,ra,rfl,ha,hra⟩:=aY r1
  obtain ⟨b,rb,rfl,hb,hrb⟩:=aY r2
  rw [List.all_cons,Bool.and_eq_true] at p1 p2
  cases v1 with
  | cons q1 w1 =>
   cases v2 with
   | cons q2 w2 =>
    cases j with
    | zero=>exact ih p1.1 p2.1 ha hb q1 q2
    | succ j=>exact rB ih p1.2 p2.2 hra hrb w1 w2 j (Nat.lt_of_succ_lt_succ h1) (Nat.lt_of_succ_lt_succ h2)
theorem aEH {d d':D} {v v':V} (p:bB 0 d = true) (p':bB 0 d' = true) (r:Rep X.K H d v) (r':Rep X.K H d' v'):eqV v v' = eqD d d':=by
 cases d<;>cases d'<;>first
  | (exact absurd p Bool.false_ne_true)
  | (exact absurd p' Bool.false_ne_true)
  | (unfold Rep at r r';subst r;subst r';simp [eqD,eqV])
theorem aCL (I:Inv X pins σ H s):∀ (n:Nat) {A:Around} {d d':D} {v v':V} {u u':Value},A.units + n < cLine->bB n d = true->bB n d' = true->Rep X.K H d v->Rep X.K H d' v'->bW v u->bW v' u'->SeqAt.EqAt A s u u' (eqD d d'):=by
 intro n
 induction n with
 | zero =>
  intro A d d' v v' u u' hu p p' r r' q q'
  have:=aFu (A:=A) (s:=s) q q' (uN (n:=0) r p) (uN (n:=0) r' p')
  rw [aEH p p' r r'] at this
  exact this
 | succ n ih =>
  intro A d d' v v' u u' hu p p' r r' q q'
  by_cases h1:∃ xs,d = .tup xs
  ·obtain ⟨xs,rfl⟩:=h1
   obtain ⟨a,us,rfl,sq,rs⟩:=bH r
   obtain ⟨its,rv,ht⟩:=jC I sq
   cases q
   by_cases h2:∃ ys,d' = .tup ys
   ·obtain ⟨ys,rfl⟩:=h2
    obtain ⟨a',us',rfl,sq',rs'⟩:=bH r'
    obtain ⟨its',rv',ht'⟩:=jC I sq'
    cases q'
    by_cases hll:a = a'
    ·subst hll
     rw [aGU I (n + 1) p p' r r']
     exact SeqAt.EqAt.same _
    ·have e1:=rs.length
     have e2:=rv.length
     have e3:=rs'.length
     have e4:=rv'.length
     show SeqAt.EqAt A s (.ref a) (.ref a') (jI xs ys)
     rw [iV,show xs.length = its.toArray.size by rw [List.size_toArray];omega,show ys.length = its'.toArray.size by rw [List.size_toArray];omega]
     refine SeqAt.EqAt.of_refs hll (SeqAt.RcAt.tuples ht ht' (by omega) fun j j1 j2=>?_)
     have hu':A.in1.units + n < cLine:=by show A.units + 1 + n < cLine;omega
     have:=rB (A:=A.in1) (s:=s) (fun {d d' v v' u u'} p p' r r' q q'=>ih hu' p p' r r' q q') p p' rs rs' rv rv' j (by simpa using j1) (by simpa using j2)
     simpa using this
   ·have p0:=yU p' (fun xs e=>h2 ⟨xs,e⟩)
    cases d' with
    | non=>rw [dZ r'] at q';cases q';exact SeqAt.EqAt.tuple_none ht (by omega)
    | bl b=>rw [cJ r'] at q';cases q';exact SeqAt.EqAt.tuple_bool b ht (by omega)
    | int b=>rw [aU r'] at q';obtain ⟨t,rfl⟩:=q';exact SeqAt.EqAt.tuple_int b t ht (by omega)
    | str b=>rw [cU r'] at q';obtain ⟨t,rfl⟩:=q';exact SeqAt.EqAt.tuple_str b t ht (by omega)
    | tup b=>exact absurd p0 Bool.false_ne_true
    | ref b=>exact absurd p0 Bool.false_ne_true
    | fz b=>exact absurd p0 Bool.false_ne_true
  ·have p0:=yU p (fun xs e=>h1 ⟨xs,e⟩)
   by_cases h2:∃ ys,d' = .tup ys
   ·obtain ⟨ys,rfl⟩:=h2
    obtain ⟨a',us',rfl,sq',rs'⟩:=bH r'
    obtain ⟨its',rv',ht'⟩:=jC I sq'
    cases q'
    cases d with
    | non=>rw [dZ r] at q;cases q;exact SeqAt.EqAt.none_tuple ht' (by omega)
    | bl b=>rw [cJ r] at q;cases q;exact SeqAt.EqAt.bool_tuple b ht' (by omega)
    | int b=>rw [aU r] at q;obtain ⟨t,rfl⟩:=q;exact SeqAt.EqAt.int_tuple b t ht' (by omega)
    | str b=>rw [cU r] at q;obtain ⟨t,rfl⟩:=q;exact SeqAt.EqAt.str_tuple b t ht' (by omega)
    | tup b=>exact absurd p0 Bool.false_ne_true
    | ref b=>exact absurd p0 Bool.false_ne_true
    | fz b=>exact absurd p0 Bool.false_ne_true
   ·have p0':=yU p' (fun xs e=>h2 ⟨xs,e⟩)
    have:=aFu (A:=A) (s:=s) q q' (uN (n:=0) r p0) (uN (n:=0) r' p0')
    rw [aEH p0 p0' r r'] at this
    exact this
theorem aKY (I:Inv X pins σ H s) {A:Around} (hu:A.units + 60 < cLine) {d d':D} {v v':V} {u u':Value} (p:bB 60 d = true) (p':bB 60 d' = true) (r:Rep X.K H d v) (r':Rep X.K H d' v') (q:bW v u) (q':bW v' u') :
  SeqAt.RcAt A s u u' (eqD d d')/\SeqAt.RcNeAt A s u u' (!eqD d d'):=by
 have hu0:A.units < cLine:=by omega
 cases d with
 | ref b=>exact absurd p Bool.false_ne_true
 | fz b=>exact absurd p Bool.false_ne_true
 | tup xs =>
  obtain ⟨a,us,rfl,sq,rs⟩:=bH r
  obtain ⟨its,rv,ht⟩:=jC I sq
  cases q
  cases d' with
  | ref b=>exact absurd p' Bool.false_ne_true
  | fz b=>exact absurd p' Bool.false_ne_true
  | non=>rw [dZ r'] at q';cases q';exact ⟨SeqAt.RcAt.tuple_none ht hu0,SeqAt.RcNeAt.tuple_none ht hu0⟩
  | bl b=>rw [cJ r'] at q';cases q';exact ⟨SeqAt.RcAt.tuple_bool b ht hu0,SeqAt.RcNeAt.tuple_bool b ht hu0⟩
  | int b=>rw [aU r'] at q';obtain ⟨t,rfl⟩:=q';exact ⟨SeqAt.RcAt.tuple_int b t ht hu0,SeqAt.RcNeAt.tuple_int b t ht hu0⟩
  | str b=>rw [cU r'] at q';obtain ⟨t,rfl⟩:=q';exact ⟨SeqAt.RcAt.tuple_str b t ht hu0,SeqAt.RcNeAt.tuple_str b t ht hu0⟩
  | tup ys =>
   obtain ⟨a',us',rfl,sq',rs'⟩:=bH r'
   obtain ⟨its',rv',ht'⟩:=jC I sq'
   cases q'
   have e1:=rs.length
   have e2:=rv.length
   have e3:=rs'.length
   have e4:=rv'.length
   have hit:∀ j (h1:j < its.toArray.size) (h2:j < its'.toArray.size),SeqAt.EqAt A.in1 s its.toArray[j] its'.toArray[j] (sQ xs ys j):=fun j j1 j2=>by
    have hu':A.in1.units + 59 < cLine:=by show A.units + 1 + 59 < cLine;omega
    have:=rB (A:=A.in1) (s:=s) (fun {d d' v v' u u'} p p' r r' q q'=>aCL I 59 hu' p p' r r' q q') p p' rs rs' rv rv' j (by simpa using j1) (by simpa using j2)
    simpa using this
   have hz:eqD (.tup xs) (.tup ys) = ((List.range (min its.toArray.size its'.toArray.size)).all (sQ xs ys) && its.toArray.size == its'.toArray.size):=by
    show jI xs ys = _
    rw [iV,show xs.length = its.toArray.size by rw [List.size_toArray];omega,show ys.length = its'.toArray.size by rw [List.size_toArray];omega]
   rw [hz]
   exact ⟨SeqAt.RcAt.tuples ht ht' hu0 hit,SeqAt.RcNeAt.tuples ht ht' hu0 hit⟩
 | non =>
  rw [dZ r] at q;cases q
  cases d' with
  | ref b=>exact absurd p' Bool.false_ne_true
  | fz b=>exact absurd p' Bool.false_ne_true
  | non=>rw [dZ r'] at q';cases q';exact ⟨SeqAt.RcAt.none_none,SeqAt.RcNeAt.none_none⟩
  | bl b=>rw [cJ r'] at q';cases q';exact ⟨SeqAt.RcAt.none_bool b,SeqAt.RcNeAt.none_bool b⟩
  | int b=>rw [aU r'] at q';obtain ⟨t,rfl⟩:=q';exact ⟨SeqAt.RcAt.none_int b t,SeqAt.RcNeAt.none_int b t⟩
  | str b=>rw [cU r'] at q';obtain ⟨t,rfl⟩:=q';exact ⟨SeqAt.RcAt.none_str b t,SeqAt.RcNeAt.none_str b t⟩
  | tup ys =>
   obtain ⟨a',us',rfl,sq',rs'⟩:=bH r'
   obtain ⟨its',rv',ht'⟩:=jC I sq'
   cases q'
   exact ⟨SeqAt.RcAt.none_tuple ht' hu0,SeqAt.RcNeAt.none_tuple ht' hu0⟩
 | bl z =>
  rw [cJ r] at q;cases q
  cases d' with
  | ref b=>exact absurd p' Bool.false_ne_true
  | fz b=>exact absurd p' Bool.false_ne_true
  | non=>rw [dZ r'] at q';cases q';exact ⟨SeqAt.RcAt.bool_none z,SeqAt.RcNeAt.bool_none z⟩
  | bl b=>rw [cJ r'] at q';cases q';exact ⟨SeqAt.RcAt.bool_bool z b,SeqAt.RcNeAt.bool_bool z b⟩
  | int b=>rw [aU r'] at q';obtain ⟨t,rfl⟩:=q';exact ⟨SeqAt.RcAt.bool_int z b t,SeqAt.RcNeAt.bool_int z b t⟩
  | str b=>rw [cU r'] at q';obtain ⟨t,rfl⟩:=q';exact ⟨SeqAt.RcAt.bool_str z b t,SeqAt.RcNeAt.bool_str z b t⟩
  | tup ys =>
   obtain ⟨a',us',rfl,sq',rs'⟩:=bH r'
   obtain ⟨its',rv',ht'⟩:=jC I sq'
   cases q'
   exact ⟨SeqAt.RcAt.bool_tuple z ht' hu0,SeqAt.RcNeAt.bool_tuple z ht' hu0⟩
 | int z =>
  rw [aU r] at q;obtain ⟨tz,rfl⟩:=q
  cases d' with
  | ref b=>exact absurd p' Bool.false_ne_true
  | fz b=>exact absurd p' Bool.false_ne_true
  | non=>rw [dZ r'] at q';cases q';exact ⟨SeqAt.RcAt.int_none z tz,SeqAt.RcNeAt.int_none z tz⟩
  | bl b=>rw [cJ r'] at q';cases q';exact ⟨SeqAt.RcAt.int_bool z tz b,SeqAt.RcNeAt.int_bool z tz b⟩
  | int b=>rw [aU r'] at q';obtain ⟨t,rfl⟩:=q';exact ⟨SeqAt.RcAt.int_int z tz b t,SeqAt.RcNeAt.int_int z tz b t⟩
  | str b=>rw [cU r'] at q';obtain ⟨t,rfl⟩:=q';exact ⟨SeqAt.RcAt.int_str z tz b t,SeqAt.RcNeAt.int_str z tz b t⟩
  | tup ys =>
   obtain ⟨a',us',rfl,sq',rs'⟩:=bH r'
   obtain ⟨its',rv',ht'⟩:=jC I sq'
   cases q'
   exact ⟨SeqAt.RcAt.int_tuple z tz ht' hu0,SeqAt.RcNeAt.int_tuple z tz ht' hu0⟩
 | str z =>
  rw [cU r] at q;obtain ⟨tz,rfl⟩:=q
  cases d' with
  | ref b=>exact absurd p' Bool.false_ne_true
  | fz b=>exact absurd p' Bool.false_ne_true
  | non=>rw [dZ r'] at q';cases q';exact ⟨SeqAt.RcAt.str_none z tz,SeqAt.RcNeAt.str_none z tz⟩
  | bl b=>rw [cJ r'] at q';cases q';exact ⟨SeqAt.RcAt.str_bool z tz b,SeqAt.RcNeAt.str_bool z tz b⟩
  | int b=>rw [aU r'] at q';obtain ⟨t,rfl⟩:=q';exact ⟨SeqAt.RcAt.str_int z tz b t,SeqAt.RcNeAt.str_int z tz b t⟩
  | str b=>rw [cU r'] at q';obtain ⟨t,rfl⟩:=q';exact ⟨SeqAt.RcAt.str_str z tz b t,SeqAt.RcNeAt.str_str z tz b t⟩
  | tup ys =>
   obtain ⟨a',us',rfl,sq',rs'⟩:=bH r'
   obtain ⟨its',rv',ht'⟩:=jC I sq'
   cases q'
   exact ⟨SeqAt.RcAt.str_tuple z tz ht' hu0,SeqAt.RcNeAt.str_tuple z tz ht' hu0⟩
end
end Dd
namespace Dd
open PySem PySem.Spec PyProof.Rows L2
section
variable {X:Cx} {a b e o:Expr} {es:List Expr} {ta tb te to:DE} {t:DA} {pos:Pos}
noncomputable def d2I (C:Int->Int->Prop) (g:Int->Int->D):D2:=fun x y M Q=>match x,y with
 | .int i,.int j=>C i j/\Q (g i j) M
 | _,_=>False
noncomputable def d2J (g:Int->Int->D):D2:=fun x y M Q=>match x,y with
 | .int i,.int j=>Q (g i j) M
 | _,_=>False
theorem aGn {f:Value->Value->Sem Value} {C:Int->Int->Prop} {g:Int->Int->D} {g':Int->Int->V} (h:OpR X f (rI C g')) (hg:∀ H i j,Rep X.K H (g i j) (g' i j)):OpD X f (d2I C g) :=
 OpD.of h fun x y H M dx dy Q rx ry hm q=>by
  cases dx with
  | int i =>
   cases dy with
   | int j=>exact ⟨i,j,aU rx,aU ry,q.1,_,M,hg H i j,hm,.refl H,q.2⟩
   | _=>exact q.elim
  | _=>exact q.elim
theorem aGf {f:Value->Value->Sem Value} {g:Int->Int->D} {g':Int->Int->V} (h:OpR X f (rI0 g')) (hg:∀ H i j,Rep X.K H (g i j) (g' i j)):OpD X f (d2J g) :=
 OpD.of h fun x y H M dx dy Q rx ry hm q=>by
  cases dx with
  | int i =>
   cases dy with
   | int j=>exact ⟨i,j,aU rx,aU ry,_,M,hg H i j,hm,.refl H,q⟩
   | _=>exact q.elim
  | _=>exact q.elim
theorem nH:OpD X (binaryOp .Sub) (d2J fun i j=>.int (i - j)):=aGf aIj fun _ _ _=>bT
theorem aHc:OpR X (binaryOp .Mult) (rI IntMulOk fun i j=>.int (i * j)):=opI fun _ _ _ _ _ _ _ hc q=>mul_int q hc
theorem bE:OpD X (binaryOp .Mult) (d2I IntMulOk fun i j=>.int (i * j)):=aGn aHc fun _ _ _=>bT
noncomputable def CFd (i j:Int):Prop:=j ≠ 0/\j.natAbs.log2 < 9000
theorem aJC:OpR X (binaryOp .FloorDiv) (rI CFd fun i j=>.int (i.fdiv j)):=opI fun _ _ _ _ _ _ _ hc q=>floordiv_int hc.1 q (.inl (PyProof.noPylong_of_log2 hc.2))
theorem fD:OpD X (binaryOp .FloorDiv) (d2I CFd fun i j=>.int (i.fdiv j)):=aGn aJC fun _ _ _=>bT
theorem cQ:OpD X (binaryOp .Mod) (d2I (fun _ j=>j ≠ 0) fun i j=>.int (i.fmod j)):=aGn aGM fun _ _ _=>bT
theorem wI:OpD X (binaryOp .Pow) (d2I aKn fun i j=>.int (i ^ j.toNat)):=aGn aIV fun _ _ _=>bT
theorem vM:OpD X (compareOp .Lt) (d2J fun i j=>.bl (decide (i < j))):=aGf aLD fun _ _ _=>eW
theorem aKs:OpD X (compareOp .LtE) (d2J fun i j=>.bl (decide (i<=j))):=aGf aKM fun _ _ _=>eW
theorem iE:OpD X (compareOp .Gt) (d2J fun i j=>.bl (decide (j < i))):=aGf aLu fun _ _ _=>eW
noncomputable def aLn:D2:=fun x y M Q=>match x,y with
 | .int i,.int j=>Q (.int (i + j)) M
 | .ref a,.ref b=>∃ xs ys,M a = some xs/\M b = some ys/\xs.length + ys.length<=1000/\∀ p:Addr,M p = none->Q (.ref p) (bI M p (xs ++ ys))
 | .fz xs,.ref b=>∃ ys,M b = some ys/\xs.length + ys.length<=1000/\∀ p:Addr,M p = none->Q (.ref p) (bI M p (xs ++ ys))
 | .tup xs,.tup ys=>xs ≠ []/\ys ≠ []/\xs.length + ys.length<=1000/\Q (.tup (xs ++ ys)) M
 | _,_=>False
theorem aI4 {pins:List (Addr × Obj)} {σ:L2.St} {H:Hp} {s:Shared} (I:Inv X pins σ H s) {a:Addr} {xs:List V} (h:SqX X.K H a xs):xs.length<=sizeLine/\∃ (its:List Value) (n:Nat),bR xs its/\s.heap.get? a = some { cls:=.type "list",data:=.seq its.toArray n }:=by
 rcases h with ⟨o,h⟩ | ⟨its,n,hk,hz,r⟩
 ·obtain ⟨_,z,its,n,r,e⟩:=I.hok a _ h
  exact ⟨z,its,n,r,e⟩
 ·have e:=r.length
  simp only [Array.length_toList] at e
  exact ⟨by omega,its.toList,n,r,by simpa using I.kIn a _ hk⟩
theorem cF:OpD X (binaryOp .Add) aLn:=by
 intro pins s σ H x y v u Q I rx ry ⟨dx,dy,M,Q',r1,r2,hm,q,k⟩
 cases dx with
 | int i =>
  cases dy with
  | int j=>exact aH3 pins s σ H x y v u Q I rx ry ⟨i,j,aU r1,aU r2,k _ H ⟨_,M,bT,hm,.refl H,q⟩⟩
  | _=>exact q.elim
 | ref a =>
  cases dy with
  | ref b =>
   obtain ⟨xs,ys,ha,hb,hl,q⟩:=q
   obtain ⟨us,hu,ru⟩:=hm.l a xs ha
   obtain ⟨ws,hw,rw'⟩:=hm.l b ys hb
   refine aJX pins s σ H x y v u Q I rx ry ⟨a,b,us,ws,aW r1,aW r2,hu,hw,?_,fun p hp=>k _ _ ⟨.ref p,_,iO,hm.lnew hp (ru.append rw'),Ext.new hp _,q p (hm.fresh hp)⟩⟩
   rw [<- ru.length,<- rw'.length];exact Nat.le_of_lt (eL hl)
  | _=>exact q.elim
 | fz xs =>
  cases dy with
  | ref b =>
   obtain ⟨ys,hb,hl,q⟩:=q
   obtain ⟨a,us,rfl,sq,ru⟩:=pF r1
   obtain ⟨ws,hw,rw'⟩:=hm.l b ys hb
   obtain rfl:=aW r2
   cases rx
   cases ry
   obtain ⟨z,its,n,r,e⟩:=aI4 I sq
   obtain ⟨z2,its2,n2,r3,hl2,e2⟩:=I.lstM hw
   have l1:=r.length
   have l2:=r3.length
   have l3:=ru.length
   have l4:=rw'.length
   have hz:=eL hl
   refine PySem.P.add_list e e2 ?_ (by rw [List.size_toArray,List.size_toArray];omega)
   have ea:its.toArray ++ its2.toArray = (its ++ its2).toArray:=by simp
   rw [ea]
   refine ⟨.ref _,_,I.lnew (t':=s.toks) (r.append r3) (by rw [List.length_append];omega),rfl,k _ _ ⟨.ref _,_,iO,hm.lnew I.fresh (ru.append rw'),Ext.new I.fresh _,q _ (hm.fresh I.fresh)⟩⟩
  | _=>exact q.elim
 | tup xs =>
  cases dy with
  | tup ys =>
   obtain ⟨h1,h2,hl,q⟩:=q
   obtain ⟨a,us,rfl,sq,ru⟩:=bH r1
   obtain ⟨b,ws,rfl,sq2,rw'⟩:=bH r2
   have l3:=ru.length
   have l4:=rw'.length
   refine aCW pins s σ H _ _ v u Q I rx ry ?_
   have n1:us ≠ []:=fun z=>by rw [z] at l3;exact h1 (List.length_eq_zero_iff.mp l3)
   have n2:ws ≠ []:=fun z=>by rw [z] at l4;exact h2 (List.length_eq_zero_iff.mp l4)
   exact ⟨a,b,us,ws,rfl,rfl,sq,sq2,n1,by rw [<- l3,<- l4];exact Nat.le_of_lt (eL hl),fun z=>absurd z n2,fun _ p hp=>k _ _ ⟨.tup _,M,bJ (.of eJ) ((ru.append rw').ext (Ext.new hp _)),hm.new hp _,Ext.new hp _,q⟩⟩
  | _=>exact q.elim
 | _=>exact q.elim
noncomputable def dEq (g:Bool->Bool):D2:=fun x y M Q=>match x,y with
 | .ref a,.ref b=>∃ xs ys,M a = some xs/\M b = some ys/\(a ≠ b)/\xs.all (bB 59) = true/\ys.all (bB 59) = true/\Q (.bl (g (jI xs ys))) M
 | x,y=>bB 60 x = true/\bB 60 y = true/\Q (.bl (g (eqD x y))) M
theorem aFb {pins:List (Addr × Obj)} {σ:L2.St} {H:Hp} {s:Shared} (I:Inv X pins σ H s) {A:Around} (hu:A.units + 60 < cLine) {a b:Addr} {us ws:List V} {xs ys:List D} (ha:H a = some (.lst us)) (hb:H b = some (.lst ws)) (ru:bK X.K H xs us) (rw':bK X.K H ys ws)
  (p:xs.all (bB 59) = true) (p':ys.all (bB 59) = true):SeqAt.RcAt A s (.ref a) (.ref b) (jI xs ys)/\SeqAt.RcNeAt A s (.ref a) (.ref b) (!jI xs ys):=by
 obtain ⟨z,its,n,r,hl,e⟩:=I.lstM ha
 obtain ⟨z2,its2,n2,r3,hl2,e2⟩:=I.lstM hb
 have i1:s.heap.IsList a its.toArray:=⟨_,e,rfl,_,rfl⟩
 have i2:s.heap.IsList b its2.toArray:=⟨_,e2,rfl,_,rfl⟩
 have l3:=ru.length
 have l4:=rw'.length
 have hu0:A.units < cLine:=by omega
 by_cases hz:its.toArray.size = its2.toArray.size
 ·have hz':=hz
  rw [List.size_toArray,List.size_toArray] at hz'
  have hit:∀ j (h1:j < its.toArray.size) (h2:j < its2.toArray.size),SeqAt.EqAt A.in1 s its.toArray[j] its2.toArray[j] (sQ xs ys j):=fun j j1 j2=>by
   have hu':A.in1.units + 59 < cLine:=by show A.units + 1 + 59 < cLine;omega
   have:=rB (A:=A.in1) (s:=s) (fun {d d' v v' u u'} p p' r r' q q'=>aCL I 59 hu' p p' r r' q q') p p' ru rw' r r3 j (by simpa using j1) (by simpa using j2)
   simpa using this
  have hz2:jI xs ys = (List.range its.toArray.size).all (sQ xs ys):=by
   rw [iV,show min xs.length ys.length = its.toArray.size by rw [List.size_toArray];omega,show (xs.length == ys.length) = true by simp;omega,Bool.and_true]
  rw [hz2]
  exact ⟨SeqAt.RcAt.lists i1 i2 hz hu0 hit,SeqAt.RcNeAt.lists i1 i2 hz hu0 hit⟩
 ·have hz':=hz
  rw [List.size_toArray,List.size_toArray] at hz'
  have hz2:jI xs ys = false:=by
   rw [iV,show (xs.length == ys.length) = false by simp;omega,Bool.and_false]
  rw [hz2]
  exact ⟨SeqAt.RcAt.lists_lengths i1 i2 (by simpa using hz) hu0,SeqAt.RcNeAt.lists_lengths i1 i2 (by simpa using hz) hu0⟩
theorem aFz (hu:X.A.units + 60 < cLine):OpD X (compareOp .Eq) (dEq id)/\OpD X (compareOp .NotEq) (dEq not):=by
 have key:∀ {pins:List (Addr × Obj)} {s:Shared} {σ:L2.St} {H:Hp} {x y:V} {v u:Value} {dx dy:D} {M:DM} {Q':DQ} {g:Bool->Bool},Inv X pins σ H s->bW x v->bW y u->Rep X.K H dx x->Rep X.K H dy y->cG X.K M H->dEq g dx dy M Q' ->
   ∃ b,SeqAt.RcAt X.A s v u b/\SeqAt.RcNeAt X.A s v u (!b)/\Q' (.bl (g b)) M:=by
  intro pins s σ H x y v u dx dy M Q' g I rx ry r1 r2 hm q
  have gen:bB 60 dx = true->bB 60 dy = true->Q' (.bl (g (eqD dx dy))) M->∃ b,SeqAt.RcAt X.A s v u b/\SeqAt.RcNeAt X.A s v u (!b)/\Q' (.bl (g b)) M:=fun p p' q=>let ⟨h1,h2⟩:=aKY I hu p p' r1 r2 rx ry;⟨_,h1,h2,q⟩
  cases dx with
  | ref a =>
   cases dy with
   | ref b =>
    obtain ⟨xs,ys,ha,hb,_,p,p',q⟩:=q
    obtain ⟨us,hu',ru⟩:=hm.l a xs ha
    obtain ⟨ws,hw,rw'⟩:=hm.l b ys hb
    obtain rfl:=aW r1
    obtain rfl:=aW r2
    cases rx
    cases ry
    obtain ⟨h1,h2⟩:=aFb I hu hu' hw ru rw' p p'
    exact ⟨_,h1,h2,q⟩
   | _=>exact gen q.1 q.2.1 q.2.2
  | _=>exact gen q.1 q.2.1 q.2.2
 refine ⟨fun pins s σ H x y v u Q I rx ry ⟨dx,dy,M,Q',r1,r2,hm,q,k⟩=>?_,fun pins s σ H x y v u Q I rx ry ⟨dx,dy,M,Q',r1,r2,hm,q,k⟩=>?_⟩
 ·obtain ⟨b,h1,_,q⟩:=key I rx ry r1 r2 hm q
  exact h1 X.prog X.w X.xe _ ⟨.bl b,H,I,rfl,k _ H ⟨.bl b,M,eW,hm,.refl H,q⟩⟩
 ·obtain ⟨b,_,h2,q⟩:=key I rx ry r1 r2 hm q
  exact h2 X.prog X.w X.xe _ ⟨.bl (!b),H,I,rfl,k _ H ⟨.bl (!b),M,eW,hm,.refl H,q⟩⟩
theorem cL {k:Nat} (hr:eQ k X.A):OpD X (compareOp .Eq) (dEq id):=(aFz (by have:=hr.un;omega)).1
theorem aBg {k:Nat} (hr:eQ k X.A):OpD X (compareOp .NotEq) (dEq not):=(aFz (by have:=hr.un;omega)).2
noncomputable def aJp (ta:DE):DE:=fun ρ M Q=>ta ρ M fun x M1=>match x with
 | .int i=>Q (.int (-i)) M1
 | _=>False
theorem aJQ (ha:PDE X a ta):PDE X (.UnaryOp .USub a pos) (aJp ta) :=
 cD (aLm aI5 ha) fun σ H Q ⟨ρ,M,Q',re,hm,q,k⟩=>⟨ρ,M,_,re,hm,q,fun x H1 ⟨d,M1,rd,hm1,ex,q1⟩=>by
  cases d with
  | int i=>exact ⟨i,aU rd,k _ H1 ⟨_,M1,bT,hm1,ex,q1⟩⟩
  | _=>exact q1.elim⟩
noncomputable def jZ:D2:=fun x y M Q=>match x,y with
 | .tup ds,.int i=>match atI ds i with
  | some d=>Q d M
  | none=>False
 | .fz ds,.int i=>match atI ds i with
  | some d=>Q d M
  | none=>False
 | .ref a,.int i=>∃ ds d,M a = some ds/\atI ds i = some d/\Q d M
 | _,_=>False
theorem xF {K:PySem.W.Frag} {H:Hp} {ds:List D} {xs:List V} {i:Int} {d:D} (r:bK K H ds xs) (h:atI ds i = some d):∃ v,atI xs i = some v/\Rep K H d v:=by
 unfold atI at h ⊢
 rw [<- r.length]
 cases e:ixN ds.length i with
 | none=>rw [e] at h;cases h
 | some j =>
  rw [e] at h
  exact r.get h
theorem ixd:IxR X fun x y H Q=>∃ dx dy M Q',Rep X.K H dx x/\Rep X.K H dy y/\cG X.K M H/\jZ dx dy M Q'/\∀ v H',LQ X.K H Q' v H'->Q v H':=by
 intro value slice pins s σ H x y v u Q I rx ry ⟨dx,dy,M,Q',r1,r2,hm,q,k⟩ hs
 cases dx with
 | tup ds =>
  cases dy with
  | int i =>
   obtain ⟨a,us,rfl,sq,ru⟩:=bH r1
   obtain rfl:=aU r2
   cases e:atI ds i with
   | none=>exact absurd q (by show ¬ (match atI ds i with | some d=>Q' d M | none=>False);rw [e];exact id)
   | some d =>
    have q':Q' d M:=by
     have z:(match atI ds i with | some d=>Q' d M | none=>False):=q
     rw [e] at z;exact z
    obtain ⟨w,hw,rw'⟩:=xF ru e
    exact aHS value slice pins s σ H _ _ v u Q I rx ry ⟨a,us,i,w,rfl,rfl,sq,hw,k _ H ⟨d,M,rw',hm,.refl H,q'⟩⟩ hs
  | _=>exact q.elim
 | fz ds =>
  cases dy with
  | int i =>
   obtain ⟨a,us,rfl,sq,ru⟩:=pF r1
   obtain rfl:=aU r2
   cases e:atI ds i with
   | none=>exact absurd q (by show ¬ (match atI ds i with | some d=>Q' d M | none=>False);rw [e];exact id)
   | some d =>
    have q':Q' d M:=by
     have z:(match atI ds i with | some d=>Q' d M | none=>False):=q
     rw [e] at z;exact z
    obtain ⟨w,hw,rw'⟩:=xF ru e
    exact aCH value slice pins s σ H _ _ v u Q I rx ry ⟨a,us,i,w,rfl,rfl,sq.sq,hw,k _ H ⟨d,M,rw',hm,.refl H,q'⟩⟩ hs
  | _=>exact q.elim
 | ref a =>
  cases dy with
  | int i =>
   obtain ⟨ds,d,ha,e,q'⟩:=q
   obtain rfl:=aW r1
   obtain rfl:=aU r2
   obtain ⟨us,hu,ru⟩:=hm.l a ds ha
   obtain ⟨w,hw,rw'⟩:=xF ru e
   exact aCH value slice pins s σ H _ _ v u Q I rx ry ⟨a,us,i,w,rfl,rfl,.of hu,hw,k _ H ⟨d,M,rw',hm,.refl H,q'⟩⟩ hs
  | _=>exact q.elim
 | _=>exact q.elim
theorem aKi (ha:PDE X a ta) (hb:PDE X b tb) (hs:qI b:=by exact fun _ _=>rfl):PDE X (.Subscript a b pos) (dOp jZ ta tb) :=
 cD (aLv ixd ha hb hs) fun σ H Q h=>zU (fun _ _ _ _ z=>z) h
noncomputable abbrev DO:=cB->DM->(Option Int->DM->Prop)->Prop
noncomputable def aAN (K:PySem.W.Frag) (t:DO):TO:=fun σ H Q=>∃ ρ M Q',gB K H ρ σ/\cG K M H/\t ρ M Q'/\∀ i H',(∃ M',cG K M' H'/\Ext H H'/\Q' i M')->Q i H'
noncomputable def aJu:DO:=fun _ M Q=>Q none M
noncomputable def dPt (t:DE):DO:=fun ρ M Q=>t ρ M fun x M1=>match x with
 | .int i=>Q (some i) M1
 | _=>False
theorem aFY:PO X none (aAN X.K aJu):=fun pins s σ H Q I ⟨ρ,M,Q',re,hm,q,k⟩=>aHm pins s σ H Q I (k none H ⟨M,hm,.refl H,q⟩)
theorem aF3 (h:PDE X e te):PO X (some e) (aAN X.K (dPt te)):=fun pins s σ H Q I ⟨ρ,M,Q',re,hm,q,k⟩=>aGQ h pins s σ H Q I ⟨ρ,M,_,re,hm,q,fun v H1 ⟨d,M1,rd,hm1,ex,q1⟩=>by
 cases d with
 | int i=>exact ⟨i,aU rd,k (some i) H1 ⟨M1,hm1,ex,q1⟩⟩
 | _=>exact q1.elim⟩
noncomputable def cutD (xs:List D) (lo hi:Option Int):List D:=(xs.drop (HT.sIx xs.length 0 lo)).take (HT.sIx xs.length xs.length hi - HT.sIx xs.length 0 lo)
theorem wM {K:PySem.W.Frag} {H:Hp} {ds:List D} {xs:List V} (r:bK K H ds xs) (lo hi:Option Int):bK K H (cutD ds lo hi) (aBk xs lo hi):=by
 unfold cutD aBk
 rw [r.length]
 exact (r.drop _).take _
noncomputable def aKq (x:D) (lo hi:Option Int) (M:DM) (Q:DQ):Prop:=match x with
 | .fz ds=>∀ p:Addr,M p = none->Q (.ref p) (bI M p (cutD ds lo hi))
 | .ref a=>∃ ds,M a = some ds/\∀ p:Addr,M p = none->Q (.ref p) (bI M p (cutD ds lo hi))
 | _=>False
noncomputable def dSl (te:DE) (tl th:DO):DE:=fun ρ M Q=>te ρ M fun x M1=>tl ρ M1 fun l M2=>th ρ M2 fun h M3=>aKq x l h M3 Q
variable {lo hi:Option Expr} {tl th:DO} {p2:Pos}
theorem aEe (he:PDE X e te) (hl:PO X lo (aAN X.K tl)) (hu:PO X hi (aAN X.K th)):PDE X (.Subscript e (.Slice lo hi none p2) pos) (dSl te tl th) :=
 cD (aBb aGx he hl hu) fun σ H Q ⟨ρ,M,Q',re,hm,q,k⟩=>⟨ρ,M,_,re,hm,q,fun v H1 ⟨d,M1,rd,hm1,e1,q1⟩=>⟨ρ,M1,_,re.ext e1,hm1,q1,fun l H2 ⟨M2,hm2,e2,q2⟩=>⟨ρ,M2,_,(re.ext e1).ext e2,hm2,q2,fun h H3 ⟨M3,hm3,e3,q3⟩=>by
  have rd3:=(rd.ext e2).ext e3
  have ex:=(e1.trans e2).trans e3
  cases d with
  | fz ds =>
   obtain ⟨a,us,rfl,sq,ru⟩:=pF rd3
   exact ⟨a,us,rfl,sq.sq,fun p hp=>k _ _ ⟨.ref p,_,iO,hm3.lnew hp (wM ru l h),ex.trans (Ext.new hp _),q3 p (hm3.fresh hp)⟩⟩
  | ref a =>
   obtain ⟨ds,ha,q3⟩:=q3
   obtain rfl:=aW rd
   obtain ⟨us,hu,ru⟩:=hm3.l a ds ha
   exact ⟨a,us,rfl,.of hu,fun p hp=>k _ _ ⟨.ref p,_,iO,hm3.lnew hp (wM ru l h),ex.trans (Ext.new hp _),q3 p (hm3.fresh hp)⟩⟩
  | _=>exact q3.elim⟩⟩⟩
noncomputable abbrev DSp:=List D->DM->DQ->Prop
noncomputable def qZ (K:PySem.W.Frag) (sp:DSp):Sp:=fun vs H Q _=>∃ ds M Q',bK K H ds vs/\cG K M H/\sp ds M Q'/\∀ v H',LQ K H Q' v H'->Q v H'
noncomputable def lZ (sp:DSp) (t:DA):DE:=fun ρ M Q=>t ρ M fun ds M1=>sp ds M1 Q
variable {CX:CXT} {k:Nat} {f:Addr} {fd:FuncData} {ps:List Str} {sp:DSp} {E:XK} {x:Str} {p:Pos}
theorem aHl (F:jH X.prog X.w X.K X.mg X.base CX k f fd ps (qZ X.K sp)) (hr:eQ k X.A) (hm:X.mg x = some (.ref f)) (hk:PySem.W.keepIn X.K (.ref f) = true) (hb:nO X.K fd ps []) (hx:sK CX X E) (ha:PDA X (e :: es) t) (hg:Gl X x:=by rfl)
  (hdb:(x == ("__debug__":Str)) = false:=by decide) (he:starEach (e :: es) X.env = (false,eval e X.env) :: starEach es X.env:=by rfl) (hpl:(backTo pos (starEach es X.env)).any (·.1) = false:=by rfl) :
  PDE X (.Call (.Name x p) (e :: es) [] pos) (lZ sp t) :=
 cD (aFR F hr hg hm hk hb .nil hx ha hdb he hpl) fun σ H Q ⟨ρ,M,Q',re,hm,q,k⟩=>⟨ρ,M,_,re,hm,q,fun vs H1 ⟨ds,M1,rs,hm1,ex,q1⟩=>⟨ds,M1,Q',by rw [List.append_nil];exact rs,hm1,q1,fun v H' z=>k v H' (z.back ex)⟩⟩
theorem aEu (F:jH X.prog X.w X.K X.mg X.base CX k f fd ps (qZ X.K sp)) (hr:eQ k X.A) (hm:X.mg x = some (.ref f)) (hk:PySem.W.keepIn X.K (.ref f) = true) (hb:nO X.K fd ps []) (hx:sK CX X E) (hg:Gl X x:=by rfl)
  (hdb:(x == ("__debug__":Str)) = false:=by decide):PDE X (.Call (.Name x p) [] [] pos) (lZ sp aAo) :=
 cD (aE6 F hr hg hm hk hb .nil hx hdb) fun σ H Q ⟨ρ,M,Q',re,hm,q,k⟩=>⟨[],M,Q',cP,hm,q,k⟩
noncomputable def gK (X:Cx) (fv:Value) (r:DSp):Prop:=lX X fv fun vs H Q=>∃ ds M Q',bK X.K H ds vs/\cG X.K M H/\r ds M Q'/\∀ v H',LQ X.K H Q' v H'->Q v H'
theorem gK.of {fv:Value} {r:List V->Hp->VK->Prop} {r':DSp} (h:lX X fv r) (l:∀ vs H M ds Q,bK X.K H ds vs->cG X.K M H->r' ds M Q->r vs H (LQ X.K H Q)):gK X fv r':=fun pins s σ H xs us Q I rs ⟨ds,M,Q',r1,hm,q,k⟩ =>
 thn (h pins s σ H xs us _ I rs (l xs H M ds Q' r1 hm q)) fun v s h=>aCX h k
theorem aEZ {r:DSp} {σ:L2.St} {H:Hp} {Q:VK} (h:low X.K (lZ r t) σ H Q):aLt X.K t σ H fun vs H1=>∃ ds M Q',bK X.K H1 ds vs/\cG X.K M H1/\r ds M Q'/\∀ v H',LQ X.K H1 Q' v H'->Q v H':=by
 obtain ⟨ρ,M,Q',re,hm,q,k⟩:=h
 exact ⟨ρ,M,_,re,hm,q,fun vs H1 ⟨ds,M1,rs,hm1,ex,q1⟩=>⟨ds,M1,Q',rs,hm1,q1,fun v H' z=>k v H' (z.back ex)⟩⟩
theorem aD0 {id:String} {r:DSp} (hc:gK X (.builtin id) r) (hm:X.mg x = none) (ha:PDA X (e :: es) t) (hv:bootBuiltins x = some (.builtin id):=by rfl) (hg:Gl X x:=by rfl) (hn:x ≠ "__name__":=by decide) (hdb:(x == ("__debug__":Str)) = false:=by decide)
  (he:starEach (e :: es) X.env = (false,eval e X.env) :: starEach es X.env:=by rfl) (hpl:(backTo pos (starEach es X.env)).any (·.1) = false:=by rfl):PDE X (.Call (.Name x p) (e :: es) [] pos) (lZ r t) :=
 cD (wY hc hg hm hv ha hn hdb he hpl) fun σ H Q h=>aEZ h
theorem aDx {T:String} {r:DSp} (hc:gK X (.type T) r) (hm:X.mg x = none) (ha:PDA X (e :: es) t) (hv:bootBuiltins x = some (.type T):=by rfl) (hg:Gl X x:=by rfl) (hn:x ≠ "__name__":=by decide) (hdb:(x == ("__debug__":Str)) = false:=by decide)
  (he:starEach (e :: es) X.env = (false,eval e X.env) :: starEach es X.env:=by rfl) (hpl:(backTo pos (starEach es X.env)).any (·.1) = false:=by rfl):PDE X (.Call (.Name x p) (e :: es) [] pos) (lZ r t) :=
 cD (aDf hc hg hm hv ha hn hdb he hpl) fun σ H Q h=>aEZ h
end
end Dd
namespace Dd
open PySem PySem.Spec PyProof.Rows L2
section
variable {X:Cx} {a b e o:Expr} {es:List Expr} {ta tb te to:DE} {t:DA} {pos:Pos}
noncomputable def aLr:DSp:=fun ds M Q=>match ds with
 | [.int i]=>Q (.int (if i < 0 then -i else i)) M
 | _=>False
theorem gM {K:PySem.W.Frag} {H:Hp} {d:D} {vs:List V} (h:bK K H [d] vs):∃ v,vs = [v]/\Rep K H d v:=by
 obtain ⟨v,r,rfl,rv,rr⟩:=aY h
 obtain rfl:=bM rr
 exact ⟨v,rfl,rv⟩
theorem aI0 {K:PySem.W.Frag} {H:Hp} {d d2:D} {vs:List V} (h:bK K H [d,d2] vs):∃ v v2,vs = [v,v2]/\Rep K H d v/\Rep K H d2 v2:=by
 obtain ⟨v,r,rfl,rv,rr⟩:=aY h
 obtain ⟨v2,rfl,rv2⟩:=gM rr
 exact ⟨v,v2,rfl,rv,rv2⟩
theorem aAu:gK X (.builtin "abs") aLr:=gK.of aFl fun vs H M ds Q rs hm q=>by
 rcases ds with _ | ⟨d,_ | ⟨d2,r⟩⟩
 ·exact q.elim
 ·cases d with
  | int i =>
   obtain ⟨v,rfl,rv⟩:=gM rs
   obtain rfl:=aU rv
   exact ⟨i,rfl,_,M,bT,hm,.refl H,q⟩
  | _=>exact q.elim
 ·cases d<;>exact q.elim
noncomputable def aKQ:DSp:=fun ds M Q=>match ds with
 | [.int i]=>Q (.int i) M
 | [.bl k]=>Q (.int (if k then 1 else 0)) M
 | _=>False
theorem vV:gK X (.type "int") aKQ:=gK.of aDv fun vs H M ds Q rs hm q=>by
 rcases ds with _ | ⟨d,_ | ⟨d2,r⟩⟩
 ·exact q.elim
 ·cases d with
  | int i =>
   obtain ⟨v,rfl,rv⟩:=gM rs
   obtain rfl:=aU rv
   exact .inl ⟨i,rfl,_,M,bT,hm,.refl H,q⟩
  | bl i =>
   obtain ⟨v,rfl,rv⟩:=gM rs
   obtain rfl:=cJ rv
   exact .inr ⟨i,rfl,_,M,bT,hm,.refl H,q⟩
  | _=>exact q.elim
 ·cases d<;>exact q.elim
noncomputable def rZ:DSp:=fun ds M Q=>match ds with
 | [.tup xs]=>Q (.int xs.length) M
 | [.fz xs]=>Q (.int xs.length) M
 | [.ref a]=>∃ xs,M a = some xs/\Q (.int xs.length) M
 | _=>False
theorem aAR:gK X (.builtin "len") rZ:=gK.of zM fun vs H M ds Q rs hm q=>by
 rcases ds with _ | ⟨d,_ | ⟨d2,r⟩⟩
 ·exact q.elim
 ·cases d with
  | tup xs =>
   obtain ⟨v,rfl,rv⟩:=gM rs
   obtain ⟨a,us,rfl,sq,ru⟩:=bH rv
   exact ⟨a,us,rfl,.inr sq,_,M,by rw [<- ru.length];exact bT,hm,.refl H,q⟩
  | fz xs =>
   obtain ⟨v,rfl,rv⟩:=gM rs
   obtain ⟨a,us,rfl,sq,ru⟩:=pF rv
   exact ⟨a,us,rfl,.inl sq.sq,_,M,by rw [<- ru.length];exact bT,hm,.refl H,q⟩
  | ref a =>
   obtain ⟨v,rfl,rv⟩:=gM rs
   obtain rfl:=aW rv
   obtain ⟨xs,ha,q⟩:=q
   obtain ⟨us,hu,ru⟩:=hm.l a xs ha
   exact ⟨a,us,rfl,.inl (.of hu),_,M,by rw [<- ru.length];exact bT,hm,.refl H,q⟩
  | _=>exact q.elim
 ·cases d<;>exact q.elim
noncomputable def aIT:DSp:=fun ds M Q=>match ds with
 | [.tup xs]=>Q (.tup xs) M
 | [.ref a]=>∃ xs,M a = some xs/\Q (.tup xs) M
 | _=>False
theorem nF:gK X (.type "tuple") aIT:=gK.of xY fun vs H M ds Q rs hm q=>by
 rcases ds with _ | ⟨d,_ | ⟨d2,r⟩⟩
 ·exact q.elim
 ·cases d with
  | tup xs =>
   obtain ⟨v,rfl,rv⟩:=gM rs
   obtain ⟨a,us,rfl,sq,ru⟩:=bH rv
   exact ⟨a,us,rfl,.inr ⟨sq,_,M,bJ sq ru,hm,.refl H,q⟩⟩
  | ref a =>
   obtain ⟨v,rfl,rv⟩:=gM rs
   obtain rfl:=aW rv
   obtain ⟨xs,ha,q⟩:=q
   obtain ⟨us,hu,ru⟩:=hm.l a xs ha
   exact ⟨a,us,rfl,.inl ⟨.of hu,fun p hp=>⟨.tup xs,M,bJ (.of eJ) (ru.ext (Ext.new hp _)),hm.new hp _,Ext.new hp _,q⟩⟩⟩
  | _=>exact q.elim
 ·cases d<;>exact q.elim
noncomputable def aAx (to te:DE):DE:=fun ρ M Q=>to ρ M fun x M1=>match x with
 | .ref p=>(∃ ds,M1 p = some ds)/\zK te aAo ρ M1 fun ys M2=>∃ ds y,ys = [y]/\M2 p = some ds/\ds.length < 1000/\Q .non (bI M2 p (ds ++ [y]))
 | _=>False
theorem aDo {apos cpos:Pos} (ho:PDE X o to) (he:PDE X e te) (hse:starEach [e] X.env = (false,eval e X.env) :: starEach [] X.env:=by rfl)
  (hbase:attributeBase o "append" X.env (eval o X.env) = eval o X.env:=by rfl)
  (hfew:((backTo cpos (starEach [e] X.env)).all (fun x=>!x.1) && (backToKw cpos (keywordEach [] X.env)).all (fun x=>x.1.isSome)
   && decide ([e].length + ([]:List Keyword).length + (if ([]:List Keyword).isEmpty then 0 else 1) < 30)) = true:=by rfl)
  (hline:(apos.endLine == cpos.line) = true:=by rfl) (hplain:(backTo cpos (starEach [] X.env)).any (·.1) = false:=by rfl) :
  PDE X (.Call (.Attribute o "append" apos) [e] [] cpos) (aAx to te) :=
 cD (aEz PySem.F.plainAttrs_list PySem.F.slot_list_append PySem.F.type_list_append yQ ho (uH he zY hse) hbase hfew hline hse hplain) fun σ H Q ⟨ρ,M,Q',re,hm,q,k⟩=>⟨ρ,M,_,re,hm,q,fun v H1 ⟨d,M1,rd,hm1,e1,q1⟩=>by
  cases d with
  | ref p =>
   obtain rfl:=aW rd
   obtain ⟨⟨ds0,h0⟩,q1⟩:=q1
   obtain ⟨us0,hu0,_⟩:=hm1.l p ds0 h0
   refine ⟨.inl ⟨rfl,us0,.of hu0⟩,ρ,M1,_,re.ext e1,hm1,q1,fun vs H2 ⟨dvs,M2,rs,hm2,e2,ds,y,ey,hp,hl,q2⟩=>?_⟩
   subst ey
   obtain ⟨w,rfl,rw'⟩:=gM rs
   obtain ⟨us,hu,ru⟩:=hm2.l p ds hp
   exact ⟨p,us,w,rfl,rfl,hu,by rw [<- ru.length];exact eL (Nat.le_of_lt hl),k _ _ ⟨.non,_,qM,hm2.put hu (ru.append (bY rw' cP)),(e1.trans e2).trans (Ext.put hu _),q2⟩⟩
  | _=>exact q1.elim⟩
end
noncomputable def iB (N:List Str) (ds:List D):cB:=ds.map some ++ List.replicate (N.length - ds.length) none
noncomputable def Dn (Q:DQ):DQ:=fun d M=>∃ M',bG M' M/\Q d M'
section
variable {P:Program} {w:World} {K:PySem.W.Frag} {mg:Str->Option Value} {base:Heap}
theorem vZ {H:Hp} {ds:List D} {vs:List V} (r:bK K H ds vs) (N:List Str):gB K H (iB N ds) (L2.start N vs):=by
 have hl:=r.length
 refine ⟨by unfold iB L2.start;simp only [List.length_append,List.length_map,List.length_replicate,hl],fun i d q=>?_⟩
 unfold iB at q
 unfold L2.start
 by_cases hi:i < ds.length
 ·rw [List.getElem?_append_left (by simpa using hi),List.getElem?_map] at q
  rw [List.getElem?_append_left (by simpa [<- hl] using hi),List.getElem?_map]
  cases e:ds[i]? with
  | none=>rw [e] at q;cases q
  | some d' =>
   rw [e] at q
   cases q
   obtain ⟨v,e2,rv⟩:=r.get e
   exact ⟨v,by rw [e2];rfl,rv⟩
 ·rw [List.getElem?_append_right (by simpa using hi),List.getElem?_replicate] at q
  split at q<;>cases q
theorem Fun.okD {x qual:Str} {st:Stmt} {f:Addr} {fd:FuncData} {N ps:List Str} {k:Nat} {sp:DSp} (F:L2.Fun K x qual st f fd) (S:aP N ps (aI st)) (len:∀ ds M Q,sp ds M Q->ds.length = ps.length)
  (hbody:∀ (cdv:Value) (A:Around) (outer:List Env) (s:Shared) (H:Hp) (ds:List D) (M:DM) (Q:DQ) (E:XK),eQ k (A.deeper (envOfC qual (aI st) s.heap.objs.size f cdv))->sp ds M Q ->
   ∃ t,jS (nS CX0 P w K mg base N qual (aI st) f cdv A outer s H E).nox (eS st) t/\t { nx:=fun _ M'=>Dn Q .non M',rt:=Dn Q } (iB N ds) M):jH P w K mg base CX0 (k + 1) f fd ps (qZ K sp):=by
 refine F.ok S (fun vs H Q E ⟨ds,M,Q',rs,hm,q,_⟩=>by rw [<- rs.length];exact len ds M Q' q) fun cdv A outer s H vs Q E hr ⟨ds,M,Q',rs,hm,q,k'⟩=>?_
 obtain ⟨t,h1,h2⟩:=hbody cdv A outer s H ds M Q' E hr q
 have fin:∀ v H',LQ K H (Dn Q') v H'->Q v H':=fun v H' ⟨d,M1,rd,hm1,ex,M2,sub,q2⟩=>k' v H' ⟨d,M2,rd,hm1.sub sub,ex,q2⟩
 refine ⟨_,h1,iB N ds,M,_,vZ rs N,hm,h2,⟨fun σ' H' ⟨ρ',M',_,hm',ex,q'⟩=>fin _ H' ⟨.non,M',qM,hm',ex,q'⟩,fin,fun σ' H' ⟨_,_,_,_,_,z⟩=>z.elim,fun σ' H' ⟨_,_,_,_,_,z⟩=>z.elim⟩⟩
end
theorem aDC {P:Program} {w:World} {K:PySem.W.Frag} {mg mb:Str->Option Value} {CX:CXT} {k:Nat} {fa a:Addr} {fd:FuncData} {x:Str} {sp:Sp} {s₁:Shared} {vs:List Value} {ns:List Int}
  (KX:K.In s₁.heap) (hns:s₁.heap.Ns mainGlobals mg) (hb:s₁.heap.Ns builtinsNs mb) (hbb:∀ x:Str,x ≠ "__name__"->mb x = bootBuiltins x) (hlim:s₁.heap.NoLimit) (hg:s₁.gens = #[])
  (ha:s₁.heap.get? a = some { cls:=.type "list",data:=.seq vs.toArray }) (hi:IntsAre vs ns) (hl:ns.length<=sizeLine) (hr:eQ k callerA)
  (F:∀ base:Heap,K.In base->base.Ns mainGlobals mg->jH P w K mg base CX k fa fd [x] sp) (hbind:∀ (s:Shared) (u:Value),BindsTo s fd ⟨[u],[]⟩ [(x,u)])
  (hsp:∀ H:Hp,aH1 H->SqX K H a (ns.map V.int)->sp [.ref a] H (fun v _=>v = .bl true) fun _ _ _=>False)
  (hCX:∀ H e s',CX [] H s₁ (fun _ _ _=>False) e s'->False) :
  codeAny (model P w) callerA (.call (.ref fa) ⟨[.ref a],[]⟩) (fun r s'=>r = .ok (.ret (.bool true))/\OldK s₁.heap s'.heap/\s'.os = s₁.os/\AllBare s'.gens) s₁:=by
 have rv:=sD hi
 have lenV:=hi.length
 refine aFv (ns:=ns) (sp:=fun vs H Q E=>SqX K H a (ns.map V.int)/\sp vs H Q E) KX hns hb hbb hlim hg ha hi hl hr (fun base h1 h2=>(F base h1 h2).imp fun _ _ _ _ z=>z.2) hbind (fun H hO hS=>?_) hCX
 have sx:SqX K H a (ns.map V.int):=by
  rcases hS with (h | h) | ⟨o,its,n,hk,hc,hd,hs,hz,r⟩
  ·rcases hO a with z | ⟨o,xs,z⟩
   ·rw [h] at z;cases z
   ·rw [h] at z;cases z
  ·exact .inl h
  ·have e:=KX a o hk
   rw [ha] at e
   cases e
   cases hs
   exact .inr ⟨_,_,hk,hz,r⟩
 exact ⟨sx,hsp H hO sx⟩
theorem walk_ofD {l:PySem.W.OpenLaw} {n k:Nat} {q:Program} {loose:List Str} {XP:(Str->Option Value)->Heap->Prop} {YP:World->Heap->Prop} {d:DefRec} {K:Params->PySem.W.Frag} {sp:DSp} {x:Str}
  (hn:l.most = some n) (hn2:n<=sizeLine) (hdf:d.params.defaults = []) (hr:eQ k callerA)
  (hY:∀ (w:World) (h:Heap),YP w h->(K w.params).In h)
  (F:∀ (w:World) (mg:Str->Option Value) (fa:Addr) (h:Heap),(K w.params).In h->h.Ns mainGlobals mg->mg d.name = some (.ref fa) ->
   ∃ fd:FuncData,(∀ (s:Shared) (u:Value),BindsTo s fd ⟨[u],[]⟩ [(x,u)]) /\
    ∀ base:Heap,(K w.params).In base->base.Ns mainGlobals mg->jH l.prog w (K w.params) mg base CX0 k fa fd [x] (qZ (K w.params) sp))
  (hsp:∀ (ns:List Int),ns.length<=n->∀ M,sp [.fz (ns.map D.int)] M fun d _=>d = .bl true) :
  PySem.W.WalkO q loose XP YP l.row.toRowW d [] (fun f vs=>PySem.call f vs):=by
 refine Att.attach_call hn hdf fun w s₀ s₁ mg mb fa o pm cd doc a vs ns G Y ho hd hcd hmg hobj hints hlen hg=>?_
 have KX:=hY w _ Y
 obtain ⟨fd,hb,hF⟩:=F w mg fa _ KX G.T.g hmg
 refine aDC KX G.T.g G.T.b G.T.builtins G.T.nolimit hg hobj hints (Nat.le_trans hlen hn2) hr hF hb (fun H hO hS=>?_) fun H e s' h=>h
 refine ⟨[.fz (ns.map D.int)],fun _=>none,_,bY (by unfold Rep;exact ⟨a,_,rfl,hS,yZ ns⟩) cP,⟨(fun _ _ z=>by cases z),(fun _ _ z=>by cases z)⟩,hsp ns hlen _,fun v H' z=>?_⟩
 obtain ⟨d,M',rd,_,_,e⟩:=z
 have e':d = .bl true:=e
 subst e'
 exact cJ rd
end Dd
namespace Dd
open PySem PySem.Spec PyProof.Rows L2
noncomputable def bO (K:PySem.W.Frag) (mg:Str->Option Value) (x:Str) (st:Stmt) (ps:List Str):Prop:=∃ f fd,L2.Fun K x x st f fd/\mg x = some (.ref f)/\nO K fd ps []
noncomputable def Has (P:Program) (w:World) (K:PySem.W.Frag) (mg:Str->Option Value) (base:Heap) (k:Nat) (x:Str) (ps:List Str) (sp:DSp):Prop :=
 ∃ f fd,jH P w K mg base CX0 k f fd ps (qZ K sp)/\mg x = some (.ref f)/\PySem.W.keepIn K (.ref f) = true/\nO K fd ps []
noncomputable def fP (K:PySem.W.Frag) (mg:Str->Option Value) (x:Str) (d:D):Prop:=∃ u v,mg x = some u/\bW v u/\∀ H,Rep K H d v
section
variable {P:Program} {w:World} {K:PySem.W.Frag} {mg:Str->Option Value} {base:Heap}
theorem Has.mk {x:Str} {st:Stmt} {N ps:List Str} {k:Nat} {sp:DSp} (h:bO K mg x st ps) (S:aP N ps (aI st)) (len:∀ ds M Q,sp ds M Q->ds.length = ps.length)
  (hbody:∀ (f:Addr) (cdv:Value) (A:Around) (outer:List Env) (s:Shared) (H:Hp) (ds:List D) (M:DM) (Q:DQ) (E:XK),eQ k (A.deeper (envOfC x (aI st) s.heap.objs.size f cdv))->sp ds M Q ->
   ∃ t,jS (nS CX0 P w K mg base N x (aI st) f cdv A outer s H E).nox (eS st) t/\t { nx:=fun _ M'=>Dn Q .non M',rt:=Dn Q } (iB N ds) M):Has P w K mg base (k + 1) x ps sp:=by
 obtain ⟨f,fd,F,hm,hb⟩:=h
 exact ⟨f,fd,Fun.okD F S len fun cdv A outer s H ds M Q E hr q=>hbody f cdv A outer s H ds M Q E hr q,hm,F.kp,hb⟩
theorem Has.imp {x:Str} {ps:List Str} {k:Nat} {sp sp':DSp} (h:Has P w K mg base k x ps sp) (i:∀ ds M Q,sp' ds M Q->sp ds M Q):Has P w K mg base k x ps sp':=by
 obtain ⟨f,fd,F,hm,hk,hb⟩:=h
 exact ⟨f,fd,F.imp fun vs H Q E ⟨ds,M,Q',a,b,c,d⟩=>⟨ds,M,Q',a,b,i _ _ _ c,d⟩,hm,hk,hb⟩
end
section
variable {X:Cx} {a b c e:Expr} {es:List Expr} {ta tb te:DE} {t:DA} {pos p:Pos} {x:Str} {ps:List Str} {sp:DSp} {k j:Nat}
theorem aEY (h:Has X.prog X.w X.K X.mg X.base k x ps sp) (hr:eQ j X.A) (hkj:k<=j) (ha:PDA X (e :: es) t) (hg:Gl X x:=by rfl)
  (hdb:(x == ("__debug__":Str)) = false:=by decide) (he:starEach (e :: es) X.env = (false,eval e X.env) :: starEach es X.env:=by rfl) (hpl:(backTo pos (starEach es X.env)).any (·.1) = false:=by rfl) :
  PDE X (.Call (.Name x p) (e :: es) [] pos) (lZ sp t):=by
 obtain ⟨f,fd,F,hm,hk,hb⟩:=h
 exact aHl F (hr.mono hkj) hm hk hb aEw ha hg hdb he hpl
theorem aDA (h:Has X.prog X.w X.K X.mg X.base k x ps sp) (hr:eQ j X.A) (hkj:k<=j) (hg:Gl X x:=by rfl) (hdb:(x == ("__debug__":Str)) = false:=by decide):PDE X (.Call (.Name x p) [] [] pos) (lZ sp aAo):=by
 obtain ⟨f,fd,F,hm,hk,hb⟩:=h
 exact aEu F (hr.mono hkj) hm hk hb aEw hg hdb
theorem aFC {d:D} (h:fP X.K X.mg x d) (hg:Gl X x:=by rfl) (hd:(x == ("__debug__":Str)) = false:=by decide):PDE X (.Name x pos) (dC d):=by
 obtain ⟨u,v,hm,rv,hr⟩:=h
 exact aGh hg hm rv hr hd
noncomputable def aGg (i:Nat) (te:DE) (g:Int->Int->Int):DS:=fun E ρ M=>match ρ[i]? with
 | some (some (.int z))=>te ρ M fun y M1=>match y with
  | .int j=>E.nx (ρ.set i (some (.int (g z j)))) M1
  | _=>False
 | _=>False
theorem aF8 {i:Nat} {op:Operator} {g:Int->Int->Int} {pos':Pos} (ho:PIp X op (ipI g)) (hN:X.N.Nodup) (he:PDE X e te) (hi:X.N[i]? = some x:=by rfl) (hx:Loc X.env.scope x:=by first | exact Or.inl rfl | exact Or.inr rfl) (hf:X.fn x = true ∨ X.env.scope.names.lookup x = some .local:=by first | exact .inl rfl | exact .inr rfl | assumption) :
  PDS X (.AugAssign (.Name x pos') op e pos) (aGg i te g) :=
 hW (aEo (i:=i) hN hi hx he ho hf) fun E σ H ⟨ρ,M,Dn,re,hm,q,k⟩=>by
  unfold aGg at q
  split at q
  ·rename_i z e1
   obtain ⟨v,e2,rv⟩:=re.get i _ e1
   obtain rfl:=aU rv
   refine ⟨_,e2,ρ,M,_,re,hm,q,fun w H1 ⟨d,M1,rd,hm1,ex,q1⟩=>?_⟩
   cases d with
   | int j=>exact ⟨z,j,rfl,aU rd,k.nx _ H1 ⟨_,M1,(re.ext ex).set bT i,hm1,ex,q1⟩⟩
   | _=>exact q1.elim
  ·exact q.elim
end
theorem dif {c A B:Prop} [Decidable c] (h1:c->A) (h2:¬ c->B):if decide c = true then A else B:=by
 by_cases h:c
 ·rw [decide_eq_true h];exact h1 h
 ·rw [decide_eq_false h];exact h2 h
theorem aD7 {b:Bool} {A B:Prop} (h1:b = true->A) (h2:b = false->B):if b = true then A else B:=by
 cases b
 ·exact h2 rfl
 ·exact h1 rfl
end Dd
namespace Dd
open PySem PySem.Spec PyProof.Rows L2
section
variable {prog:Program} {w:World} {A:Around} {E:Value->Shared->Prop} {s:Shared}
theorem uV {h h':Heap} {it t:Addr} {items:Array Value} (ht:h.IsList t items) (hs:Heap.SameBut it h h') (hne:t ≠ it):h'.IsList t items:=by
 obtain ⟨o,e,r⟩:=ht
 exact ⟨o,(hs.2 t hne).trans e,r⟩
theorem sP {h:Heap} {t:Addr} {items:Array Value} (ht:h.IsList t items) (o:Obj):(h.push o).IsList t items:=by
 obtain ⟨o',e,r⟩:=ht
 exact ⟨o',Heap.get?_push_of_some _ e,r⟩
theorem yY {it t:Addr} {items:Array Value} (hne:t ≠ it):∀ (n i:Nat) (s:Shared) (Q:List Value->Shared->Prop),s.heap.IsListIter it t i->s.heap.IsList t items->i + n<=items.size ->
  (∀ h',h'.IsListIter it t (i + n)->Heap.SameBut it s.heap h'->Q ((items.toList.drop i).take n) { s with heap:=h' })->wpAny (model prog w) A (draw (.ref it) n) Q E s
 | 0,i,s,Q,hit,_,_,hQ=>by
  show wpAny _ _ (pure []) Q E s
  exact wpAny_pure (by simpa using hQ s.heap hit (Heap.SameBut.refl ..))
 | n + 1,i,s,Q,hit,ht,hle,hQ=>by
  have hlt:i < items.size:=by omega
  show wpAny _ _ (pyNext (.ref it) >>= _) Q E s
  refine wpAny_bind (wpAny_pyNext_list_item hit ht (x:=items[i]) (by simp [hlt]) fun h₁ hit₁ hs₁=>?_)
  refine wpAny_bind (wpAny_holding (yY hne n (i + 1) _ _ hit₁ (uV ht hs₁ hne) (by omega) fun h₂ hit₂ hs₂=>wpAny_pure ?_))
  have hd:items.toList.drop i = items[i] :: items.toList.drop (i + 1):=by simp [List.drop_eq_getElem_cons,hlt]
  have:=hQ h₂ (by rw [show i + (n + 1) = i + 1 + n by omega];exact hit₂) (hs₁.trans hs₂)
  rw [hd,List.take_succ_cons] at this
  exact this
theorem rP {t:Addr} {items:Array Value} {Q:List Value->Shared->Prop} (hh:A.handled = none) (ht:s.heap.IsList t items)
  (hQ:∀ h',Heap.ExtBut s.heap.objs.size s.heap h'->Q items.toList { s with heap:=h' }):wpAny (model prog w) A (unpackItems (.ref t) items.size none) Q E s:=by
 have hlt:t ≠ s.heap.objs.size:=by obtain ⟨o,ho,_⟩:=ht;exact Nat.ne_of_lt (Heap.lt_size ho)
 unfold unpackItems
 refine wpAny_bind ?_
 ·unfold notIterableAtAll
  refine wpAny_bind (wpAny_specialOf ht.typeIs slot_list_iter.lookup ?_)
  refine wpAny_pure ?_
  simp only [Bool.false_eq_true,if_false]
  refine wpAny_bind (wpAny_holding (wpAny_pyIter_list ht ?_))
  refine wpAny_bind (wpAny_holding (yY hlt items.size 0 _ _ ⟨_,Heap.get?_push_size _ rfl,rfl,rfl⟩ (sP ht _) (by omega) fun h₁ hit₁ hs₁=>?_))
  have hall:List.take items.size (List.drop 0 items.toList) = items.toList:=by
   rw [List.drop_zero];exact List.take_of_length_le (by simp)
  rw [hall]
  rw [if_neg (by simp)]
  have ht₁:h₁.IsList t items:=uV (sP ht _) hs₁ hlt
  refine wpAny_bind (wpAny_holding (wpAny_pyNext_list_end hh hit₁ ht₁ (by simp) fun h₂ he₂=>?_))
  simp only [Option.isSome_none,Bool.false_eq_true,if_false]
  refine wpAny_pure (hQ h₂ fun b o hb e=>he₂ b o hb (hs₁.extBut b o hb (Heap.get?_push_of_some _ e)))
theorem rF {env:Env} {elts:List Expr} {x1} {pos:Pos} {t:Addr} {items:Array Value} {Q:Unit->Shared->Prop} (hh:A.handled = none) (ht:s.heap.IsList t items)
  (hn:(assignEach elts env).length = items.size) (hstar:(assignEach elts env).findIdx? (·.1) = none)
  (h:∀ h',Heap.ExtBut s.heap.objs.size s.heap h'->wpAny (model prog w) A (assignInOrder ((assignEach elts env).map (·.2)) items.toList) Q E { s with heap:=h' }) :
  wpAny (model prog w) A (assign (.Tuple elts x1 pos) env (.ref t)) Q E s:=by
 rw [assign_Tuple]
 refine wpAny_bind (wpAny_standAt ?_)
 unfold unpack
 rw [hn,hstar]
 exact wpAny_bind (wpAny_holding (rP hh ht h))
end
section
variable {X:Cx} {pos:Pos} {e a b:Expr} {es:List Expr} {te ta tb:DE}
noncomputable def gU (n:Nat) (t:DGs):DG:=fun d ρ M Q=>match d with
 | .tup ds=>ds.length = n/\t ds ρ M Q
 | .ref a=>∃ ds,M a = some ds/\ds.length = n/\t ds ρ M Q
 | _=>False
theorem aJq {k:Nat} {t:DGs} {n:Nat} (hc:X.calm = true) (h:aBw X es t) (hn:(assignEach es X.env).length = n:=by rfl) (hst:(assignEach es X.env).findIdx? (·.1) = none:=by rfl):PDG X (.Tuple es k pos) (gU n t):=by
 intro pins s σ H v u Q I r ⟨d,ρ,M,Q',rd,re,hm,q,k'⟩
 cases d with
 | tup ds=>exact aH2 hc h hn hst pins s σ H v u Q I r ⟨.tup ds,ρ,M,Q',rd,re,hm,q,k'⟩
 | ref p =>
  obtain ⟨ds,hp,hl,q⟩:=q
  obtain rfl:=aW rd
  cases r
  obtain ⟨us,hu,ru⟩:=hm.l p ds hp
  obtain ⟨z,its,nn,rv,hlen,e1⟩:=I.lstM hu
  have l1:=ru.length
  refine rF (I.ok.hd hc) ⟨_,e1,rfl,_,rfl⟩ (by rw [hn,List.size_toArray];omega) hst fun h' hx=>?_
  have I1:Inv X pins σ H { s with heap:=h' }:=I.kept (t':=s.toks) fun b o e=>hx b o (Nat.ne_of_lt (Heap.lt_size e)) e
  exact h pins _ σ H us _ Q I1 (by simpa using rv) ⟨ds,ρ,M,Q',ru,re,hm,q,k'⟩
 | _=>exact q.elim
noncomputable def isV:D->D->Option Bool
 | .non,.non=>some true
 | .bl a,.bl b=>some (a == b)
 | .non,.bl _=>some false
 | .bl _,.non=>some false
 | .int _,.non=>some false
 | .str _,.non=>some false
 | .tup _,.non=>some false
 | .ref _,.non=>some false
 | .fz _,.non=>some false
 | .tup _,.bl _=>some false
 | _,_=>none
noncomputable def aFe (g:Bool->Bool):D2:=fun x y M Q=>match isV x y with
 | some k=>Q (.bl (g k)) M
 | none=>False
theorem aE2 {K:PySem.W.Frag} {H:Hp} {x y:V} {v u:Value} {dx dy:D} {k:Bool} (rx:bW x v) (ry:bW y u) (r1:Rep K H dx x) (r2:Rep K H dy y) (h:isV dx dy = some k):plainIs v u = true/\(v == u) = k:=by
 cases dx<;>cases dy<;>first
  | (cases (show (none:Option Bool) = some k from h))
  | (
    first
    | (rw [dZ r1] at rx;cases rx)
    | (rw [cJ r1] at rx;cases rx)
    | (rw [aU r1] at rx;obtain ⟨t,rfl⟩:=rx)
    | (rw [cU r1] at rx;obtain ⟨t,rfl⟩:=rx)
    | (rw [aW r1] at rx;cases rx)
    | (obtain ⟨a,us,rfl,_,_⟩:=bH r1;cases rx)
    | (obtain ⟨a,us,rfl,_,_⟩:=pF r1;cases rx)
    first
    | (rw [dZ r2] at ry;cases ry)
    | (rw [cJ r2] at ry;cases ry)
    simp only [isV,Option.some.injEq] at h
    subst h
    constructor<;>first | rfl | (rename_i b1 b2;cases b1<;>cases b2<;>rfl))
theorem aC0:OpD X (compareOp .Is) (aFe id):=fun pins s σ H x y v u Q I rx ry ⟨dx,dy,M,Q',r1,r2,hm,q,k⟩=>by
 unfold aFe at q
 split at q
 ·rename_i b e
  obtain ⟨h1,h2⟩:=aE2 rx ry r1 r2 e
  exact wpAny_is_plain h1 (by rw [h2];exact ⟨.bl b,H,I,rfl,k _ H ⟨_,M,eW,hm,.refl H,q⟩⟩)
 ·exact q.elim
theorem aFd:OpD X (compareOp .IsNot) (aFe not):=fun pins s σ H x y v u Q I rx ry ⟨dx,dy,M,Q',r1,r2,hm,q,k⟩=>by
 unfold aFe at q
 split at q
 ·rename_i b e
  obtain ⟨h1,h2⟩:=aE2 rx ry r1 r2 e
  exact wpAny_isNot_plain h1 (by rw [h2];exact ⟨.bl (!b),H,I,rfl,k _ H ⟨_,M,eW,hm,.refl H,q⟩⟩)
 ·exact q.elim
end
end Dd
namespace Dd
open PySem PySem.Spec PyProof.Rows L2
section
variable {M:DM} {Q:DQ} {g:Bool->Bool} {ds:List D} {i:Int} {a:Addr} {α:Type} {x0 x1 x2 x3 x4 x5:α} {l:List α}
theorem ixT:jZ (.tup ds) (.int i) M Q = (match atI ds i with | some d=>Q d M | none=>False):=rfl
theorem ixF:jZ (.fz ds) (.int i) M Q = (match atI ds i with | some d=>Q d M | none=>False):=rfl
theorem aL8:jZ (.ref a) (.int i) M Q = (∃ ds d,M a = some ds/\atI ds i = some d/\Q d M):=rfl
theorem aJg:atI [x0] 0 = some x0:=rfl
theorem aKa:atI [x0] (-1) = some x0:=rfl
theorem aHU:atI [x0,x1] 0 = some x0:=rfl
theorem aJP:atI [x0,x1] 1 = some x1:=rfl
theorem aIG:atI [x0,x1] (-1) = some x1:=rfl
theorem aIZ:atI [x0,x1,x2] 0 = some x0:=rfl
theorem aIS:atI [x0,x1,x2] 1 = some x1:=rfl
theorem aH7:atI [x0,x1,x2] 2 = some x2:=rfl
theorem aJS:atI [x0,x1,x2] (-1) = some x2:=rfl
theorem aHT:atI [x0,x1,x2,x3] 0 = some x0:=rfl
theorem aJR:atI [x0,x1,x2,x3] 1 = some x1:=rfl
theorem aIP:atI [x0,x1,x2,x3] 2 = some x2:=rfl
theorem aJT:atI [x0,x1,x2,x3] 3 = some x3:=rfl
theorem aH8:atI [x0,x1,x2,x3] (-1) = some x3:=rfl
theorem aJM:atI [x0,x1,x2,x3,x4] 0 = some x0:=rfl
theorem aIe:atI [x0,x1,x2,x3,x4] 1 = some x1:=rfl
theorem aIC:atI [x0,x1,x2,x3,x4] 2 = some x2:=rfl
theorem aJa:atI [x0,x1,x2,x3,x4] 3 = some x3:=rfl
theorem aIX:atI [x0,x1,x2,x3,x4] 4 = some x4:=rfl
theorem aIa:atI [x0,x1,x2,x3,x4] (-1) = some x4:=rfl
theorem aI6:atI [x0,x1,x2,x3,x4,x5] 0 = some x0:=rfl
theorem aIl:atI [x0,x1,x2,x3,x4,x5] 1 = some x1:=rfl
theorem aIB:atI [x0,x1,x2,x3,x4,x5] 2 = some x2:=rfl
theorem aJI:atI [x0,x1,x2,x3,x4,x5] 3 = some x3:=rfl
theorem aJz:atI [x0,x1,x2,x3,x4,x5] 4 = some x4:=rfl
theorem aI9:atI [x0,x1,x2,x3,x4,x5] 5 = some x5:=rfl
theorem aJY:atI [x0,x1,x2,x3,x4,x5] (-1) = some x5:=rfl
theorem aJh {n:Nat} {t:DGs} {ρ:cB} {R:cB->DM->Prop}:gU n t (.tup ds) ρ M R = (ds.length = n/\t ds ρ M R):=rfl
theorem aHR {n:Nat} {t:DGs} {ρ:cB} {R:cB->DM->Prop}:gU n t (.ref a) ρ M R = (∃ ds,M a = some ds/\ds.length = n/\t ds ρ M R):=rfl
theorem fM {i j:Int}:dEq g (.int i) (.int j) M Q = Q (.bl (g (decide (i = j)))) M:=by
 show (bB 60 (.int i) = true/\bB 60 (.int j) = true/\Q (.bl (g (eqD (.int i) (.int j)))) M) = _
 have e:eqD (.int i) (.int j) = decide (i = j):=by show (i == j) = _;by_cases h:i = j<;>simp [h]
 rw [e]
 exact propext ⟨fun h=>h.2.2,fun h=>⟨rfl,rfl,h⟩⟩
theorem aS {x y:Str}:dEq g (.str x) (.str y) M Q = Q (.bl (g (decide (x = y)))) M:=by
 show (bB 60 (.str x) = true/\bB 60 (.str y) = true/\Q (.bl (g (eqD (.str x) (.str y)))) M) = _
 have e:eqD (.str x) (.str y) = decide (x = y):=by show (x == y) = _;by_cases h:x = y<;>simp [h]
 rw [e]
 exact propext ⟨fun h=>h.2.2,fun h=>⟨rfl,rfl,h⟩⟩
theorem le2 {α:Type} {x y:α}:([x,y]:List α).length<=1000:=by show (2:Nat)<=1000;decide
end
end Dd
namespace L2
open PySem PySem.Spec PyProof.Rows
noncomputable def clo (cells:List (Str × Addr)):List (Str × NameKind)->List (Str × Addr)->List (Str × Addr)
 | [],cs=>cs
 | (n,k) :: r,cs=>clo cells r (if k == .free then (n,(cells.lookup n).getD 0) :: cs else cs)
noncomputable def aBn (env:Env) (x:Str × NameKind) (r:List (Str × Addr)):Sem (ForInStep (List (Str × Addr))) :=
 if (x.2 == NameKind.free) = true then do let a <- cellOf env x.1;pure (ForInStep.yield ((x.1,a) :: r)) else pure (ForInStep.yield r)
theorem aBx {env:Env}:∀ (names:List (Str × NameKind)) (cs:List (Str × Addr)),(∀ y ∈ names,y.2 = .free->∃ c,env.cells.lookup y.1 = some c)->(forIn names cs (aBn env):Sem (List (Str × Addr))) = pure (clo env.cells names cs)
 | [],cs,_=>rfl
 | (n,k) :: r,cs,hh=>by
  rw [List.forIn_cons]
  have ih:=fun cs=>aBx (env:=env) r cs fun z hz=>hh z (List.mem_cons_of_mem _ hz)
  cases hk:k == NameKind.free with
  | true =>
   have hf:k = .free:=by simpa using hk
   obtain ⟨c,hc⟩:=hh (n,k) List.mem_cons_self hf
   have hc:env.cells.lookup n = some c:=hc
   have e:aBn env (n,k) cs = pure (ForInStep.yield ((n,c) :: cs)):=by
    unfold aBn
    rw [if_pos hk]
    show (cellOf env n >>= _) = _
    unfold cellOf
    rw [hc]
    rfl
   rw [e]
   refine Eq.trans (b:=(forIn r ((n,c) :: cs) (aBn env):Sem (List (Str × Addr)))) rfl ?_
   rw [ih]
   show _ = pure (clo env.cells r (if k == .free then (n,(env.cells.lookup n).getD 0) :: cs else cs))
   rw [hk,if_pos rfl,hc]
   rfl
  | false =>
   have e:aBn env (n,k) cs = pure (ForInStep.yield cs):=by
    unfold aBn
    rw [if_neg (by rw [hk];decide)]
   rw [e]
   refine Eq.trans (b:=(forIn r cs (aBn env):Sem (List (Str × Addr)))) rfl ?_
   rw [ih]
   show _ = pure (clo env.cells r (if k == .free then (n,(env.cells.lookup n).getD 0) :: cs else cs))
   rw [hk,if_neg (by decide)]
theorem aBq {scope:Scope} {env:Env} (h:∀ y ∈ scope.names,y.2 = .free->∃ c,env.cells.lookup y.1 = some c):closureFor scope env = pure (clo env.cells scope.names []):=by
 have e:closureFor scope env = ((forIn scope.names [] (aBn env):Sem (List (Str × Addr))) >>= fun cs=>pure cs):=rfl
 rw [e,aBx _ _ h]
 rfl
theorem aCE {cells:List (Str × Addr)} {x:Str} {c:Addr}:∀ {names:List (Str × NameKind)} {cs:List (Str × Addr)},(∀ y ∈ names,y.2 = .free->∃ c,cells.lookup y.1 = some c)->(cs.lookup x = some c->cells.lookup x = some c)->(clo cells names cs).lookup x = some c->cells.lookup x = some c
 | [],cs,_,h,e=>h e
 | (n,k) :: r,cs,hh,h,e=>by
  unfold clo at e
  refine aCE (fun y hy=>hh y (List.mem_cons_of_mem _ hy)) (fun e2=>?_) e
  cases hk:k == NameKind.free with
  | false=>rw [hk,if_neg (by decide)] at e2;exact h e2
  | true =>
   rw [hk,if_pos rfl] at e2
   have hk':k = .free:=by simpa using hk
   obtain ⟨c',hc'⟩:=hh (n,k) List.mem_cons_self hk'
   have hc':cells.lookup n = some c':=hc'
   rw [List.lookup_cons] at e2
   cases hx:x == n with
   | true =>
    rw [hx] at e2
    have:x = n:=by simpa using hx
    subst this
    rw [hc'] at e2 ⊢
    exact e2
   | false=>rw [hx] at e2;exact h e2
theorem aAz {cells:List (Str × Addr)} {x:Str}:∀ {names:List (Str × NameKind)} {cs:List (Str × Addr)},((x,NameKind.free) ∈ names ∨ ∃ c,cs.lookup x = some c)->∃ c,(clo cells names cs).lookup x = some c
 | [],cs,h=>by
  rcases h with h | h
  ·exact nomatch h
  ·exact h
 | (n,k) :: r,cs,h=>by
  unfold clo
  refine aAz ?_
  have ins:∀ {v:Addr},(∃ c,cs.lookup x = some c)->∃ c,((n,v) :: cs).lookup x = some c:=fun {v} ⟨c,e⟩=>by
   rw [List.lookup_cons]
   cases x == n with
   | true=>exact ⟨_,rfl⟩
   | false=>exact ⟨c,e⟩
  rcases h with h | h
  ·rcases List.mem_cons.mp h with e | e
   ·cases e
    refine .inr ⟨_,by rw [if_pos (by rfl),List.lookup_cons,beq_self_eq_true]⟩
   ·exact .inl e
  ·cases hk:k == NameKind.free with
   | true=>rw [if_pos rfl];exact .inr (ins h)
   | false=>rw [if_neg (by decide)];exact .inr h
theorem tE {g:Str->NameKind->NameKind} {x:Str}:∀ {names:List (Str × NameKind)},(names.map fun p=>(p.1,g p.1 p.2)).lookup x = (names.lookup x).map (g x)
 | []=>rfl
 | (n,k) :: r=>by
  rw [List.map_cons,List.lookup_cons,List.lookup_cons]
  cases hx:x == n with
  | true =>
   have:x = n:=by simpa using hx
   subst this
   rfl
  | false=>exact tE
theorem nJ {scope:Scope} {env:Env} {x:Str}:(relabel scope env).names.lookup x = (scope.names.lookup x).map fun k=>if (k == NameKind.free && env.scope.kind == .function && env.kindOf x == some .cell) = true then .cell else k:=by
 rw [<- tE (g:=fun x k=>if (k == NameKind.free && env.scope.kind == .function && env.kindOf x == some .cell) = true then .cell else k)]
 unfold relabel
 dsimp only
 congr 1
 refine List.map_congr_left fun p _=>?_
 obtain ⟨n,k⟩:=p
 dsimp only
 split<;>rfl
noncomputable abbrev Cx.blk (X:Cx) (N':List Str) (scope:Scope) (C:Addr) (s:Shared) (H:Hp) (fp:List Addr) (pins:List (Addr × Obj)):Cx :=
 { X with N:=N',s₀:=s,H₀:=H,env:=compEnvC scope (clo X.env.cells scope.names []) C X.env,outer:=X.stack,ex:=fp,fn:=fun _=>false,pn:=X.pn ++ pins,xe:=fun _ _=>False }
structure fJ (X:Cx) (N':List Str) (fr:List (Option Nat)) (scope:Scope):Prop where
 kind:scope.kind = .function
 nocell:∀ y ∈ scope.names,y.2 ≠ .cell
 names:∀ y ∈ scope.names,y.2 = .local->scope.names.lookup y.1 = some .local
 free:∀ y ∈ scope.names,y.2 = .free->X.env.scope.names.lookup y.1 = some .cell
 len:fr.length = N'.length
 at':∀ (i j:Nat) (x:Str),N'[i]? = some x->fr[i]? = some (some j)->X.N[j]? = some x/\scope.names.lookup x = some .free
structure qR (oN:List Str) (osc:Scope) (N':List Str) (fr:List (Option Nat)) (scope:Scope):Prop where
 kind:scope.kind = .function
 nocell:∀ y ∈ scope.names,y.2 ≠ .cell
 names:∀ y ∈ scope.names,y.2 = .local->scope.names.lookup y.1 = some .local
 free:∀ y ∈ scope.names,y.2 = .free->osc.names.lookup y.1 = some .cell
 len:fr.length = N'.length
 at':∀ p ∈ N'.zip fr,∀ j ∈ p.2,oN[j]? = some p.1/\scope.names.lookup p.1 = some .free
theorem qR.scope {X:Cx} {oN:List Str} {osc:Scope} {N':List Str} {fr:List (Option Nat)} {scope:Scope} (B:qR oN osc N' fr scope) (hN:X.N = oN) (ho:X.env.scope = osc):fJ X N' fr scope:=by
 subst hN ho
 refine ⟨B.kind,B.nocell,B.names,B.free,B.len,fun i j x h1 h2=>?_⟩
 have:(x,some j) ∈ N'.zip fr:=by
  refine List.mem_of_getElem? (i:=i) ?_
  rw [List.getElem?_zip_eq_some]
  exact ⟨h1,h2⟩
 exact B.at' _ this j rfl
noncomputable def sG (fr:List (Option Nat)) (σ:St):St:=fr.map fun o=>match o with
 | some j=>(σ[j]?).join
 | none=>none
section
variable {X:Cx} {pins:List (Addr × Obj)} {σ:St} {H:Hp} {s:Shared} {N':List Str} {fr:List (Option Nat)} {scope:Scope} {C:Addr} {fp:List Addr}
theorem fJ.hasC (S:fJ X N' fr scope) (ok:X.Ok):∀ y ∈ scope.names,y.2 = .free->∃ c,X.env.cells.lookup y.1 = some c:=fun y hy e=>ok.has y.1 (.inl (S.free y hy e))
theorem fJ.sub (S:fJ X N' fr scope) (ok:X.Ok) {x:Str} {c:Addr} (h:(clo X.env.cells scope.names []).lookup x = some c):X.env.cells.lookup x = some c:=aCE (S.hasC ok) (fun z=>by cases z) h
theorem aCu (S:fJ X N' fr scope) (I:Inv X pins σ H s) {h':Heap} {m:Str->Option Value} (k:∀ x c v,(clo X.env.cells scope.names []).lookup x = some c->s.heap.IsCell c v->h'.IsCell c v) :
  ∀ (i:Nat) (x:Str) (v:V),N'[i]? = some x->(sG fr σ)[i]? = some (some v)->∃ u,bW v u/\aKw (compEnvC scope (clo X.env.cells scope.names []) C X.env) h' m x u:=by
 intro i x v hx hv
 unfold sG at hv
 rw [List.getElem?_map] at hv
 cases hf:fr[i]? with
 | none=>rw [hf] at hv;cases hv
 | some o =>
  rw [hf] at hv
  cases o with
  | none=>cases hv
  | some j =>
   have hv:(σ[j]?).join = some v:=Option.some.inj hv
   obtain ⟨hN,hfree⟩:=S.at' i j x hx hf
   have hσ:σ[j]? = some (some v):=by
    cases e:σ[j]? with
    | none=>rw [e] at hv;cases hv
    | some o=>rw [e] at hv;rw [show o = some v from hv]
   have hmem:(x,NameKind.free) ∈ scope.names:=PySem.mem_of_lookup hfree
   have hcell:=S.free _ hmem rfl
   obtain ⟨mm,_,hl⟩:=I.loc
   obtain ⟨u,r,l⟩:=hl j x v hN hσ (.inr (.inl hcell))
   refine ⟨u,r,.inr ⟨.inl ?_,?_⟩⟩
   ·show (relabel scope X.env).names.lookup x = some .cell
    rw [nJ,hfree]
    have h1:X.env.scope.kind = .function:=I.ok.kind
    have h2:X.env.kindOf x = some .cell:=hcell
    rw [h1,h2]
    rfl
   ·rcases l with ⟨k1,_⟩ | ⟨_,c,e,z⟩
    ·have:X.env.scope.names.lookup x = some .local:=k1
     rw [hcell] at this;cases this
    ·obtain ⟨c',e'⟩:=aAz (cells:=X.env.cells) (x:=x) (names:=scope.names) (cs:=[]) (.inl hmem)
     have e2:=S.sub I.ok e'
     rw [e] at e2
     cases e2
     exact ⟨c,e',k x c _ e' z⟩
theorem aFW (S:fJ X N' fr scope) (I:Inv X pins σ H s) (hf:∀ b ∈ fp,aBs X pins H b) (ho:∀ b ∈ fp,∃ o,s.heap.get? b = some o) {s1:Shared} {m:Str->Option Value} (hos:s1.os = s.os) (hg:s1.gens = s.gens) (hC:s.heap.objs.size<=C) (k:∀ b o,s.heap.get? b = some o->s1.heap.get? b = some o) (hn:s1.heap.Ns C m) :
  Inv (X.blk N' scope C s H fp pins) [] (sG fr σ) H s1:=by
 have lt:∀ b o,s.heap.get? b = some o->b ≠ C:=fun b o e=>Nat.ne_of_lt (Nat.lt_of_lt_of_le (Heap.lt_size e) hC)
 have stk:∀ b,b ≠ X.env.locals->b ∉ X.fs->b ∉ frs X.stack:=fun b h1 h2 hb=>(List.mem_cons.mp (I.stkSub b hb)).elim h1 h2
 have cellK:∀ x c v,(clo X.env.cells scope.names []).lookup x = some c->s.heap.IsCell c v->s1.heap.IsCell c v:=fun x c v _ ⟨o,e,d⟩=>⟨o,k c o e,d⟩
 refine ⟨⟨I.ok.mod,S.kind,I.ok.glob,I.ok.blt,hC,fun x y c h1 h2=>I.ok.inj x y c (S.sub I.ok h1) (S.sub I.ok h2),fun x hx=>?_,(fun x c z=>by cases z),I.ok.hd,I.ok.frames,.inl rfl,fun b hb=>?_,I.bs,Nat.le_trans I.ok.bsz I.sz,fun b o e hb=>?_,fun b hb=>?_,I.stack,I.stkFree⟩,
  hos,by rw [hg];exact I.bare,Un.kept k,⟨m,hn,fun i x v h1 h2 _=>aCu S I cellK i x v h1 h2⟩,fun x c e=>?_,I.hok.fresh hC,fun x c e=>I.freeC x c (S.sub I.ok e),fun p hp=>?_,I.hok.kept k,?_⟩
 ·have hx:(relabel scope X.env).names.lookup x = some .cell ∨ (relabel scope X.env).names.lookup x = some .free:=hx
  rw [nJ] at hx
  have hfree:(x,NameKind.free) ∈ scope.names:=by
   cases e:scope.names.lookup x with
   | none=>rw [e] at hx;rcases hx with z | z<;>cases z
   | some kk =>
    rw [e] at hx
    have hm:=PySem.mem_of_lookup e
    cases kk with
    | free=>exact hm
    | cell=>exact absurd rfl (S.nocell _ hm)
    | _=>rcases hx with z | z<;>cases z
  exact aAz (.inl hfree)
 ·obtain ⟨o,e⟩:=ho b hb
  obtain ⟨_,_,_,_,f4,_⟩:=hf b hb
  exact ⟨lt b o e,fun x c z=>f4 x c (S.sub I.ok z)⟩
 ·obtain ⟨_,_,_,f3,_⟩:=hf b hb
  rcases f3 with z | z
  ·exact I.ok.noex b o e z
  ·exact absurd (Nat.lt_of_lt_of_le (Heap.lt_size e) (Nat.le_trans I.ok.bsz z)) (Nat.lt_irrefl _)
 ·obtain ⟨_,f1,f2,_⟩:=hf b hb
  exact stk b f1 f2
 ·obtain ⟨v,z⟩:=I.cell x c (S.sub I.ok e)
  exact ⟨v,cellK x c v e z⟩
 ·rw [List.append_nil] at hp
  obtain ⟨e,n,ne,nf,d⟩:=I.pin p hp
  exact ⟨k p.1 p.2 e,n,lt p.1 p.2 e,stk p.1 ne nf,d⟩
 ·unfold sG
  rw [List.length_map]
  exact S.len
theorem aDE (S:fJ X N' fr scope) {s1:Shared} {H1:Hp} {σ1:St} {pl:List (Addr × Obj)} (I:Inv X pins σ H s) (J:Inv (X.blk N' scope C s H fp pins) pl σ1 H1 s1):Inv (X.blk N' scope C s H fp pins) pl (sG fr σ) H1 s1:=by
 obtain ⟨m,hn,_⟩:=id J.loc
 refine ⟨J.ok,J.os,J.bare,J.base,⟨m,hn,fun i x v h1 h2 _=>aCu S I (fun x c v e z=>?_) i x v h1 h2⟩,J.cell,J.free,J.freeC,J.pin,J.hok,?_⟩
 ·obtain ⟨o,eo,d⟩:=z
  have e':=S.sub I.ok e
  have hfree:=I.freeC x c e'
  have nex:c ∉ fp:=fun hb=>(J.ok.exf c hb).2 x c e rfl
  by_cases hfs:c ∈ frs X.stack
  ·obtain ⟨sl,q⟩:=J.base.slot c o eo hfree hfs nex
   exact ⟨_,q,d⟩
  ·exact ⟨o,J.base.keep c o eo hfree hfs nex,d⟩
 ·unfold sG
  rw [List.length_map]
  exact S.len
end
section
variable {prog:Program} {w:World} {A:Around} {R:Result->Shared->Prop} {s:Shared}
theorem nE {elt target iter:Expr} {scope:Scope} {pos:Pos} {it acc:Value} {env:Env} (I:Nat->Shared->Prop)
  (turn:∀ n s,I n s->wpAny (model prog w) A (pyNext it) (fun r s₁=>match r with
   | none=>R (.ok .next) s₁
   | some v=>wpAny (model prog w) A (letOwnedTupleGo target it v) (fun _ s₁'=>wpAny (model prog w) A (assign target env v) (fun _ s₂=>wpAny (model prog w) A (eval elt env) (fun x s₃ =>
     wpAny (model prog w) A (call (.builtin "list.append") [acc,x]) (fun _ s₄=>∃ m,m < n/\I m s₄) (fun _ _=>False) s₃)
     (fun _ _=>False) s₂) (fun _ _=>False) s₁') (fun _ _=>False) s₁) (fun _ _=>False) s)
  (n:Nat) (h:I n s):codeAny (model prog w) A (.compLoop (.ListComp elt [⟨target,iter,[],0⟩] scope pos) 0 it acc env) R s:=by
 refine codeAny_loop rfl I (fun n s hI=>?_) n h
 show wpAny _ _ ((compTurn (.ListComp elt [⟨target,iter,[],0⟩] scope pos) 0 it acc env).onRaise (fun x=>do noteFrame x env;theTreesLotGoes x)) _ _ s
 refine wpAny_noted ?_
 rw [compTurn_list1]
 refine wpAny_bind (wpAny_standAt (wpAny_bind (wpAny_mono (turn n s hI) (fun r s₁ h₁=>?_) fun _ _ h'=>h'.elim)))
 cases r with
 | none=>exact wpAny_pure h₁
 | some v =>
  exact wpAny_bind (wpAny_mono h₁ (fun _ s₁' h₁'=>wpAny_bind (wpAny_mono h₁' (fun _ s₂ h₂=>wpAny_bind (wpAny_bind (wpAny_mono h₂ (fun x s₃ h₃=>wpAny_bind (wpAny_mono h₃
   (fun _ s₄ h₄=>wpAny_pure (wpAny_pure ⟨rfl,h₄⟩)) fun _ _ h'=>h'.elim)) fun _ _ h'=>h'.elim))) fun _ _ h'=>h'.elim)) fun _ _ h'=>h'.elim)
end
theorem Inv.track {X:Cx} {pins:List (Addr × Obj)} {σ:St} {H:Hp} {s:Shared} {d:Addr} {ys:List V} (I:Inv X pins σ H s) (hn:H d = none) (hs:X.s₀.heap.objs.size<=d) (hL:d ≠ X.env.locals) (hc:∀ x c,X.env.cells.lookup x = some c->c ≠ d) (hp:∀ p ∈ X.pn ++ pins,p.1 ≠ d) (new:gJ X.prog X.w (upd H d (.lst ys)) s.heap d (.lst ys)):Inv X pins σ (upd H d (.lst ys)) s:=by
 have ne0:∀ b o,X.s₀.heap.get? b = some o->b ≠ d:=fun b o e=>Nat.ne_of_lt (Nat.lt_of_lt_of_le (Heap.lt_size e) hs)
 refine ⟨I.ok,I.os,I.bare,⟨I.base.keep,I.base.slot,fun b o e n hx=>?_,I.base.there,fun b xs e=>?_,fun b o u e=>?_,fun b ps e=>?_⟩,I.loc,I.cell,?_,fun x c e=>?_,fun p hpp=>?_,fun b u e=>?_,I.len⟩
 ·rw [bU (ne0 b o e)];exact I.base.free b o e n hx
 ·have:=I.base.tups b xs e
  rw [bU (cA this hn)];exact this
 ·have:=I.base.frzs b o u e
  rw [bU (cA this hn)];exact this
 ·obtain ⟨more,q⟩:=I.base.tbls b ps e
  exact ⟨more,by rw [bU (cA q hn)];exact q⟩
 ·rw [bU (Ne.symm hL)];exact I.free
 ·rw [bU (hc x c e)];exact I.freeC x c e
 ·obtain ⟨e,n,r⟩:=I.pin p hpp
  exact ⟨e,by rw [bU (hp p hpp)];exact n,r⟩
 ·by_cases hb:b = d
  ·subst hb;rw [eJ] at e;cases e;exact new
  ·rw [bU hb] at e
   exact (I.hok b u e).stay (fun c v _ q=>q) (fun c q=>by rw [bU (cA q hn)];exact q) fun c xs q=>by rw [bU (cA q hn)];exact q
noncomputable def tLc (wi:TI) (fr:List (Option Nat)) (g:TG) (te:TE):TE:=fun σ H Q=>wi σ H fun J H1=>∃ W:Nat->Nat->List V->Hp->Prop,(∃ m,W 0 m [] H1)/\∀ i m ys H,W i m ys H ->
 (J.stop i H/\ys.length<=sizeLine/\∀ p,H p = none->Q (.ref p) (upd H p (.lst ys))) ∨
 (J.go i H/\ys.length<=sizeLine/\∀ x H',J.yld i H x H'->g x (sG fr σ) H' fun σ2 H2=>te σ2 H2 fun y H3=>∃ m',m' < m/\W (i + 1) m' (ys ++ [y]) H3)
structure CF (X:Cx) (pins:List (Addr × Obj)) (H:Hp) (C:Addr):Prop where
 none:H C = none
 loc:C ≠ X.env.locals
 sz:X.s₀.heap.objs.size<=C
 cel:∀ x c,X.env.cells.lookup x = some c->c ≠ C
 pin:∀ p ∈ X.pn ++ pins,p.1 ≠ C
theorem aHp {X:Cx} {elt iter tg:Expr} {scope:Scope} {pos pos2:Pos} {N':List Str} {fr:List (Option Nat)} {wi:TI} {g:TG} {te:TE} (S:fJ X N' fr scope) (hc:X.calm = true) (hi:PI X tg iter wi)
  (hg:∀ C s H fp pins,PG (X.blk N' scope C s H fp pins) tg g) (he:∀ C s H fp pins,PE (X.blk N' scope C s H fp pins) elt te) (hs:∀ x,foldedSetIterable iter X.env x = pure x)
  {pins:List (Addr × Obj)} {s:Shared} {σ:St} {H:Hp} {Q:VK} (I:Inv X pins σ H s) (h:tLc wi fr g te σ H Q) (use:Option (Value->Sem Unit)) (Post:Value->Shared->Prop)
  (fin:∀ D C H' s4 m,Inv X pins σ H' s4->s4.heap.Ns C m->CF X pins H' C->Q (.ref D) H'->compPost (model X.prog X.w) X.A X.xe use Post (.ref D) C (.ok .next) s4) :
  wpAny (model X.prog X.w) X.A (comprehension (.ListComp elt [⟨tg,iter,[],0⟩] scope pos) scope X.env pos2 (newList []) false (eval iter X.env) use) Post X.xe s:=by
 refine wpAny_comprehension_free (use:=use) rfl hs (aBq (S.hasC I.ok)) S.kind S.names ?_
 show wpAny _ _ (eval iter X.env) _ _ s
 refine thn (hi pins s σ H _ I h) fun v s1 h1=>thn h1 fun itv s2 h2=>?_
 obtain ⟨it,fp,tn,J,H2,e,I2,T,st2,f2,W,⟨m0,w0⟩,turn⟩:=h2
 subst e
 refine wpAny_newObj_type (wpAny_newFunctionEnv S.nocell (by intro y hy;simp at hy) (fun h₁ hns₁ hsb₁=>?_) S.kind)
 dsimp only at hns₁ hsb₁ ⊢
 generalize hHp:s2.heap.push { cls:=.type "list",dict:=none,data:=.seq ([]:List Value).toArray } = HP at hns₁ hsb₁ ⊢
 have hC:HP.objs.size = s2.heap.objs.size + 1:=by rw [<- hHp,Heap.size_push]
 generalize hCe:HP.objs.size = C at hns₁ hsb₁ ⊢
 generalize hDe:s2.heap.objs.size = D at hC ⊢
 have hDC:D ≠ C:=by omega
 have hCle:s2.heap.objs.size<=C:=by omega
 have old:∀ b o,s2.heap.get? b = some o->h₁.get? b = some o:=fun b o e=>hsb₁.extBut b o (Nat.ne_of_lt (Nat.lt_of_lt_of_le (Heap.lt_size e) hCle)) (Heap.get?_push_of_some _ (hHp ▸ Heap.get?_push_of_some _ e))
 have hD1:h₁.PlainList D #[]:=⟨_,by
  refine hsb₁.extBut _ _ hDC (Heap.get?_push_of_some _ ?_)
  rw [<- hHp,<- hDe]
  exact Heap.get?_push_size _ rfl⟩
 have ltf:∀ b ∈ fp,b < D:=fun b hb=>by
  obtain ⟨o,e,_⟩:=T.obj _ _ st2 b hb
  exact Nat.lt_of_lt_of_eq (Heap.lt_size e) hDe
 have J0:=aFW (s1:={ s2 with heap:=h₁,toks:=s2.toks + ([]:List (Str × Value)).length }) S I2 f2 (fun b hb=>let ⟨o,e,_⟩:=T.obj _ _ st2 b hb;⟨o,e⟩) rfl rfl hCle old hns₁
 have ltC:∀ b,b < D->b ≠ C:=fun b hb=>Nat.ne_of_lt (Nat.lt_of_lt_of_le hb (by rw [<- hDe];exact hCle))
 have old2:∀ b o,s2.heap.get? b = some o->b < D:=fun b o e=>Nat.lt_of_lt_of_eq (Heap.lt_size e) hDe
 have neD:∀ b o,s2.heap.get? b = some o->b ≠ D:=fun b o e=>Nat.ne_of_lt (old2 b o e)
 have hDs:s2.heap.objs.size<=D:=Nat.le_of_eq hDe
 have hDfs:D ∉ frs X.stack:=fun hb=>by
  rcases List.mem_cons.mp (I2.stkSub D hb) with z | z
  ·have:=I2.lt
   rw [<- z] at this
   exact absurd (Nat.lt_of_lt_of_le this hDs) (Nat.lt_irrefl _)
  ·exact I2.nofs hDs z
 have cellD:∀ x c,X.env.cells.lookup x = some c->c ≠ D/\c ≠ C:=fun x c e=>by
  obtain ⟨v,o,ho,_⟩:=I2.cell x c e
  exact ⟨neD c o ho,ltC c (old2 c o ho)⟩
 have pinD:∀ p ∈ X.pn ++ pins,p.1 ≠ D/\p.1 ≠ C:=fun p hp=>by
  have e:=(I2.pin p hp).1
  exact ⟨neD _ _ e,ltC _ (old2 _ _ e)⟩
 have fpok:∀ (pl:List (Addr × Obj)) (H':Hp),(∀ b ∈ fp,H' b = none)->(∀ p ∈ pl,∀ b ∈ fp,p.1 ≠ b)->∀ b ∈ fp,aBs (X.blk N' scope C s2 H2 fp pins) pl H' b:=fun pl H' hn hpl b hb=>by
  refine ⟨hn b hb,ltC b (ltf b hb),J0.ok.exfs b hb,.inl hb,(J0.ok.exf b hb).2,fun p hp=>?_⟩
  rcases List.mem_append.mp hp with z | z
  ·exact (f2 b hb).2.2.2.2.2 p z
  ·exact hpl p z b hb
 have loop:codeAny (model X.prog X.w) X.A (.compLoop (.ListComp elt [⟨tg,iter,[],0⟩] scope pos) 0 (.ref it) (.ref D) (compEnvC scope (clo X.env.cells scope.names []) C X.env))
   (compPost (model X.prog X.w) X.A X.xe use Post (.ref D) C) { s2 with heap:=h₁,toks:=s2.toks + ([]:List (Str × Value)).length }:=by
  refine nE (fun n s'=>∃ i H' ys its,Inv (X.blk N' scope C s2 H2 fp pins) [] (sG fr σ) H' s'/\tn i s'.heap/\(∀ b ∈ fp,H' b = none)/\s'.heap.PlainList D its/\H' D = none/\bR ys its.toList/\W i n ys H') ?_ m0
   ⟨0,H2,[],#[],J0,T.keep _ _ _ st2 fun b hb o e=>old b o e,fun b hb=>(f2 b hb).1,hD1,I2.hok.fresh hDs,.nil,w0⟩
  rintro n s3 ⟨i,H3,ys,its,I3,st3,fr3,⟨nn,pl3⟩,hD3,rv3,w3⟩
  have I3p:Inv (X.blk N' scope C s2 H2 fp pins) [(D,{ cls:=.type "list",data:=.seq its nn })] (sG fr σ) H3 s3:=I3.pins_of fun p hp=>by
   have e:=List.mem_singleton.mp hp
   subst e
   exact ⟨pl3,hD3,hDC,hDfs,fun v z=>by cases z⟩
  have pf:∀ p ∈ [((D,{ cls:=.type "list",data:=.seq its nn }):Addr × Obj)],∀ b ∈ fp,p.1 ≠ b:=fun p hp b hb=>by
   have e:=List.mem_singleton.mp hp
   subst e
   exact (Nat.ne_of_lt (ltf b hb)).symm
  rcases turn i n ys H3 w3 with ⟨stop,hz,q⟩ | ⟨go,hz,step⟩
  ·refine thn (T.done (X.blk N' scope C s2 H2 fp pins) rfl rfl rfl hc i _ s3 _ H3 (fun _ _=>False) I3p (fpok _ H3 fr3 pf) st3 stop) fun r s4 ⟨hr,I4⟩=>?_
   subst hr
   obtain ⟨mm,hn4,_⟩:=id I4.loc
   have pD:=(I4.pin _ (List.mem_append_right _ List.mem_cons_self)).1
   have IX:Inv X pins σ H3 s4:=I2.call' I4.os I4.base I4.hok I4.bare fun b hb=>⟨(f2 b hb).2.2.2.1,(f2 b hb).2.1,(f2 b hb).2.2.2.2.1,(f2 b hb).2.2.2.2.2⟩
   have CL:C ≠ X.env.locals:=(Nat.ne_of_lt (Nat.lt_of_lt_of_le I2.lt hCle)).symm
   have DL:D ≠ X.env.locals:=(Nat.ne_of_lt (Nat.lt_of_lt_of_le I2.lt hDs)).symm
   refine fin D C (upd H3 D (.lst ys)) s4 mm (IX.track hD3 (Nat.le_trans I2.sz hDs) DL (fun x c e=>(cellD x c e).1) (fun p hp=>(pinD p hp).1) ⟨hz,its.toList,nn,rv3,pD⟩) hn4 ⟨by rw [bU (Ne.symm hDC)];exact I4.free,CL,Nat.le_trans I2.sz hCle,fun x c e=>(cellD x c e).2,fun p hp=>(pinD p hp).2⟩ (q D hD3)
  ·refine thn (T.item (X.blk N' scope C s2 H2 fp pins) rfl rfl rfl hc i _ s3 _ H3 (fun _ _=>False) I3p (fpok _ H3 fr3 pf) st3 go) fun r s4 ⟨u,hr,h4⟩=>?_
   subst hr
   refine thn h4 fun _ s5 ⟨x,H5,I5,r5,y5,st5,fr5⟩=>?_
   have I5':=I5.pinned (fpok _ H5 fr5 pf) (T.obj _ _ st5)
   refine thn (hg C s2 H2 fp pins _ s5 _ H5 x u _ I5' r5 (step x H5 y5)) fun _ s6 ⟨σ6,H6,I6,q6⟩=>?_
   refine thn (he C s2 H2 fp pins _ s6 σ6 H6 _ I6 q6) fun yv s7 ⟨y,H7,I7,ry,m',hm,w7⟩=>?_
   obtain ⟨pD,nD,_⟩:=I7.pin _ (List.mem_append_right _ (List.mem_append_left _ List.mem_cons_self))
   have lz:its.size<=sizeLine:=by
    have e:ys.length = its.size:=by rw [rv3.length];simp
    rw [<- e];exact hz
   refine wpAny_list_append_plain (hsz:=lz) ⟨nn,pD⟩ fun h8 pl8 sb8=>?_
   have I7a:Inv (X.blk N' scope C s2 H2 fp pins) [] σ6 H7 s7:=I7.pins_of fun p hp=>nomatch hp
   have I8:Inv (X.blk N' scope C s2 H2 fp pins) [] σ6 H7 { s7 with heap:=h8,toks:=s7.toks }:=I7a.turned (it:=D) (fun b o hb e=>sb8.extBut b o hb e) nD hDC (.inr hDs) (fun x c e=>(cellD x c (S.sub I2.ok e)).1) fun p hp=>by
    rw [List.append_nil] at hp
    exact (pinD p hp).1
   refine ⟨m',hm,i + 1,H7,ys ++ [y],its.push yv,aDE S I2 I8,?_,fun b hb=>?_,pl8,nD,?_,w7⟩
   ·refine T.keep _ _ _ st5 fun b hb o e=>sb8.extBut b o (Nat.ne_of_lt (ltf b hb)) (I7.pin (b,o) (List.mem_append_right _ (List.mem_append_right _ (lA hb e)))).1
   ·obtain ⟨o,e,d⟩:=T.obj _ _ st5 b hb
    exact (I7.pin (b,o) (List.mem_append_right _ (List.mem_append_right _ (lA hb e)))).2.1
   ·rw [Array.toList_push]
    exact rv3.append (.cons ry .nil)
 exact codeAny_compStart_list loop (T.self _ _ _ _ _ (T.keep _ _ _ st2 fun b hb o e=>old b o e) loop)
theorem aHz {X:Cx} {elt iter tg:Expr} {scope:Scope} {pos:Pos} {N':List Str} {fr:List (Option Nat)} {wi:TI} {g:TG} {te:TE} (S:fJ X N' fr scope) (hc:X.calm = true) (hi:PI X tg iter wi)
  (hg:∀ C s H fp pins,PG (X.blk N' scope C s H fp pins) tg g) (he:∀ C s H fp pins,PE (X.blk N' scope C s H fp pins) elt te) (hs:∀ x,foldedSetIterable iter X.env x = pure x:=by intro _;rfl) :
  PE X (.ListComp elt [⟨tg,iter,[],0⟩] scope pos) (tLc wi fr g te):=by
 intro pins s σ H Q I h
 rw [eval_ListComp]
 refine aHp S hc hi hg he hs I h none (EP X pins σ Q) fun D C H' s4 m J hn F q=>⟨m,hn,fun h' sb=>?_⟩
 exact ⟨.ref D,H',J.turned (t':=s4.toks) (it:=C) (fun b o hb e=>sb.extBut b o hb e) F.none F.loc (.inr F.sz) F.cel F.pin,rfl,q⟩
end L2
namespace Dd
open PySem PySem.Spec PyProof.Rows L2
noncomputable def xS (fr:List (Option Nat)) (ρ:cB):cB:=fr.map fun o=>match o with
 | some j=>(ρ[j]?).join
 | none=>none
section
variable {K:PySem.W.Frag} {H:Hp} {ρ:cB} {σ:L2.St}
theorem aD2 (re:gB K H ρ σ) (fr:List (Option Nat)):gB K H (xS fr ρ) (sG fr σ):=by
 refine ⟨by unfold xS sG;rw [List.length_map,List.length_map],fun i d e=>?_⟩
 unfold xS at e
 unfold sG
 rw [List.getElem?_map] at e ⊢
 cases hf:fr[i]? with
 | none=>rw [hf] at e;cases e
 | some o =>
  rw [hf] at e
  cases o with
  | none=>cases e
  | some j =>
   have e:(ρ[j]?).join = some d:=Option.some.inj e
   have e2:ρ[j]? = some (some d):=by
    cases h:ρ[j]? with
    | none=>rw [h] at e;cases e
    | some o=>rw [h] at e;rw [show o = some d from e]
   obtain ⟨v,hv,r⟩:=re.get j d e2
   refine ⟨v,?_,r⟩
   show some (σ[j]?).join = some (some v)
   rw [hv]
   rfl
end
noncomputable def aAi (at':Option Addr) (ds:List D) (ρ0:cB) (g:DG) (te:DE) (M:DM) (Q:DQ):Prop:=ds.length<=1000/\∃ Pv:Nat->List D->DM->Prop,Pv 0 [] M /\
 (∀ i ys M,i<=ds.length->Pv i ys M->∀ a,at' = some a->M a = some ds) /\
 (∀ i d ys M,ds[i]? = some d->Pv i ys M->g d ρ0 M fun ρ2 M2=>te ρ2 M2 fun y M3=>Pv (i + 1) (ys ++ [y]) M3) /\
 ∀ ys M,ys.length = ds.length->Pv ds.length ys M->∀ p:Addr,M p = none->Q (.ref p) (bI M p ys)
noncomputable def aII (tl:DE) (fr:List (Option Nat)) (g:DG) (te:DE):DE:=fun ρ M Q=>tl ρ M fun d M1=>match d with
 | .fz ds=>aAi none ds (xS fr ρ) g te M1 Q
 | .ref a=>∃ ds,M1 a = some ds/\aAi (some a) ds (xS fr ρ) g te M1 Q
 | _=>False
noncomputable def aIv (tl:DE) (fr:List (Option Nat)) (g:DG) (te:DE):DE:=fun ρ M Q=>tl ρ M fun d M1=>match d with
 | .tup ds=>aAi none ds (xS fr ρ) g te M1 Q
 | _=>False
section
variable {X:Cx} {g:DG} {te:DE}
theorem aBI {K:PySem.W.Frag} {a':Option Addr} {ds:List D} {fr:List (Option Nat)} {σ:L2.St} {ρ:cB} {M:DM} {H0 H:Hp} {J:It} {Q:VK} {Q':DQ} (ex0:Ext H0 H) (re:gB K H ρ σ) (hm:cG K M H) (h:aAi a' ds (xS fr ρ) g te M Q') (kq:∀ v H',LQ K H0 Q' v H'->Q v H')
  (seq:∀ H',Ext H H'->(∀ M',cG K M' H'->(∀ a,a' = some a->M' a = some ds)->∃ xs,bK K H' ds xs/\(∀ i,xs.length<=i->J.stop i H')/\(∀ i,i < xs.length->J.go i H')/\∀ i x H2,J.yld i H' x H2->H2 = H'/\xs[i]? = some x)) :
  ∃ W:Nat->Nat->List V->Hp->Prop,(∃ m,W 0 m [] H)/\∀ i m ys H,W i m ys H ->
   (J.stop i H/\ys.length<=sizeLine/\∀ p,H p = none->Q (.ref p) (upd H p (.lst ys))) ∨
   (J.go i H/\ys.length<=sizeLine/\∀ x H',J.yld i H x H'->aCh K g x (sG fr σ) H' fun σ2 H2=>low K te σ2 H2 fun y H3=>∃ m',m' < m/\W (i + 1) m' (ys ++ [y]) H3):=by
 obtain ⟨hl,Pv,p0,hat,step,done⟩:=h
 refine ⟨fun i m ysV H'=>∃ ys M',bK K H' ys ysV/\cG K M' H'/\Ext H H'/\m = ds.length - i/\i<=ds.length/\ys.length = i/\Pv i ys M',⟨ds.length,[],M,cP,hm,.refl H,rfl,Nat.zero_le _,rfl,p0⟩,?_⟩
 rintro i m ysV H1 ⟨ys,M1,ry,hm1,e1,rfl,hi,ly,w1⟩
 obtain ⟨xs,rs,hst,hgo,hy⟩:=seq H1 e1 M1 hm1 (hat i ys M1 hi w1)
 have hll:=rs.length
 have lz:ysV.length<=sizeLine:=by rw [<- ry.length];exact Nat.le_of_lt (eL (by omega))
 by_cases hlt:i < ds.length
 ·refine .inr ⟨hgo i (by omega),lz,fun x H' y=>?_⟩
  obtain ⟨rfl,hx⟩:=hy i x H' y
  obtain ⟨d,hd,rd⟩:=rs.getV hx
  refine ⟨d,xS fr ρ,M1,_,rd,aD2 (re.ext e1) fr,hm1,step i d ys M1 hd w1,fun σ2 H2 ⟨ρ2,M2,re2,hm2,e2,q2⟩=>?_⟩
  refine ⟨ρ2,M2,_,re2,hm2,q2,fun v H3 ⟨dy,M3,rdy,hm3,e3,q3⟩=>?_⟩
  exact ⟨ds.length - (i + 1),by omega,ys ++ [dy],M3,(ry.ext (e2.trans e3)).append (bY rdy cP),hm3,(e1.trans e2).trans e3,rfl,hlt,by rw [List.length_append,ly];rfl,q3⟩
 ·have e:i = ds.length:=by omega
  subst e
  exact .inl ⟨hst _ (by omega),lz,fun p hp=>kq _ _ ⟨.ref p,_,iO,hm1.lnew hp ry,(ex0.trans e1).trans (Ext.new hp _),done ys M1 ly w1 p (hm1.fresh hp)⟩⟩
variable {elt iter tg:Expr} {scope:Scope} {pos:Pos} {N':List Str} {fr:List (Option Nat)} {tl:DE} {ta:DA} {oN:List Str} {osc:Scope}
theorem aIU (B:qR oN osc N' fr scope) (hc:X.calm = true) (hi:PDE X iter tl) (hg:∀ C s H fp pins,PG (X.blk N' scope C s H fp pins) tg (aCh X.K g)) (he:∀ C s H fp pins,PE (X.blk N' scope C s H fp pins) elt (low X.K te)) (hN:X.N = oN:=by rfl) (ho:X.env.scope = osc:=by rfl) (hs:∀ x,foldedSetIterable iter X.env x = pure x:=by intro _;rfl) :
  PDE X (.ListComp elt [⟨tg,iter,[],0⟩] scope pos) (aII tl fr g te) :=
 cD (aHz (B.scope hN ho) hc (aDa hi) hg he hs) fun σ H Q ⟨ρ,M,Q',re,hm,q,k⟩=>⟨ρ,M,_,re,hm,q,fun v H1 ⟨d,M1,rd,hm1,ex,q1⟩=>by
  cases d with
  | fz ds =>
   obtain ⟨a,xs,rfl,sq,rs⟩:=pF rd
   exact ⟨a,rfl,⟨xs,sq.sq⟩,aBI ex (re.ext ex) hm1 q1 k fun H' e' M' hm' _=>⟨xs,rs.ext e',fun i hi=>⟨xs,(lJ e' sq).sq,hi⟩,fun i hi=>⟨xs,xs[i],(lJ e' sq).sq,by simp [hi]⟩,fun i x H2 y=>⟨y.1,y.2 xs (lJ e' sq).sq⟩⟩⟩
  | ref a =>
   obtain ⟨ds,ha,q1⟩:=q1
   obtain rfl:=aW rd
   obtain ⟨xs,hx,rs⟩:=hm1.l a ds ha
   refine ⟨a,rfl,⟨xs,.of hx⟩,aBI ex (re.ext ex) hm1 q1 k fun H' e' M' hm' hat=>?_⟩
   obtain ⟨ys,hy,rs'⟩:=hm'.l a ds (hat a rfl)
   exact ⟨ys,rs',fun i hi=>⟨ys,.of hy,hi⟩,fun i hi=>⟨ys,ys[i],.of hy,by simp [hi]⟩,fun i x H2 y=>⟨y.1,y.2 ys (.of hy)⟩⟩
  | _=>exact q1.elim⟩
theorem aID (B:qR oN osc N' fr scope) (hc:X.calm = true) (hi:PDE X iter tl) (hg:∀ C s H fp pins,PG (X.blk N' scope C s H fp pins) tg (aCh X.K g)) (he:∀ C s H fp pins,PE (X.blk N' scope C s H fp pins) elt (low X.K te)) (hN:X.N = oN:=by rfl) (ho:X.env.scope = osc:=by rfl) (hs:∀ x,foldedSetIterable iter X.env x = pure x:=by intro _;rfl) :
  PDE X (.ListComp elt [⟨tg,iter,[],0⟩] scope pos) (aIv tl fr g te) :=
 cD (aHz (B.scope hN ho) hc (aDO hi) hg he hs) fun σ H Q ⟨ρ,M,Q',re,hm,q,k⟩=>⟨ρ,M,_,re,hm,q,fun v H1 ⟨d,M1,rd,hm1,ex,q1⟩=>by
  cases d with
  | tup ds =>
   obtain ⟨a,xs,rfl,sq,rs⟩:=bH rd
   exact ⟨a,rfl,⟨xs,sq⟩,aBI ex (re.ext ex) hm1 q1 k fun H' e' M' hm' _=>⟨xs,rs.ext e',fun i hi=>⟨xs,kT e' sq,hi⟩,fun i hi=>⟨xs,xs[i],kT e' sq,by simp [hi]⟩,fun i x H2 y=>⟨y.1,y.2 xs (kT e' sq)⟩⟩⟩
  | _=>exact q1.elim⟩
end
end Dd
namespace L2
open PySem PySem.Spec PyProof.Rows
variable {X:Cx}
end L2
namespace Dd
open PySem PySem.Spec PyProof.Rows L2
variable {X:Cx}
section
variable {g:DG} {te:DE} {tb:DS} {Q:DQ} {ρ0:cB}
noncomputable def itT (d:D) (ρ0:cB) (g:DG) (te:DE) (M:DM) (Q:DQ):Prop:=match d with
 | .tup ds=>aAi none ds ρ0 g te M Q
 | _=>False
theorem aGG {tl:DE} {fr:List (Option Nat)} {ρ:cB} {M:DM}:aIv tl fr g te ρ M Q = tl ρ M fun d M1=>itT d (xS fr ρ) g te M1 Q:=rfl
theorem aGJ {ds:List D} {M:DM}:itT (.tup ds) ρ0 g te M Q = aAi none ds ρ0 g te M Q:=rfl
noncomputable def foT (d:D) (g:DG) (tb:DS) (E:fZ) (ρ:cB) (M:DM):Prop:=match d with
 | .tup ds=>dIt none ds g tb E ρ M
 | _=>False
theorem aFw {tl:DE} {E:fZ} {ρ:cB} {M:DM}:aBc tl g tb E ρ M = tl ρ M fun d M1=>foT d g tb E ρ M1:=rfl
theorem aGq {ds:List D} {E:fZ} {ρ:cB} {M:DM}:foT (.tup ds) g tb E ρ M = dIt none ds g tb E ρ M:=rfl
noncomputable def goC (g:DG) (te:DE) (ρ0:cB) (Q:DQ):List D->List D->DM->Prop
 | [],ys,M=>∀ p:Addr,M p = none->Q (.ref p) (bI M p ys)
 | d :: r,ys,M=>g d ρ0 M fun ρ2 M2=>te ρ2 M2 fun y M3=>goC g te ρ0 Q r (ys ++ [y]) M3
theorem aJG {ds:List D} {M:DM} (hl:ds.length<=1000) (h:goC g te ρ0 Q ds [] M):aAi none ds ρ0 g te M Q:=by
 refine ⟨hl,fun i ys M=>goC g te ρ0 Q (ds.drop i) ys M,h,fun _ _ _ _ _ a e=>(by cases e),fun i d ys M hd hp=>?_,fun ys M _ hp p hn=>?_⟩
 ·obtain ⟨hi,e⟩:=List.getElem?_eq_some_iff.mp hd
  have hp:goC g te ρ0 Q (ds.drop i) ys M:=hp
  rw [List.drop_eq_getElem_cons hi,e] at hp
  exact hp
 ·have hp:goC g te ρ0 Q (ds.drop ds.length) ys M:=hp
  rw [List.drop_length] at hp
  exact hp p hn
end
section
variable {e:Expr} {te:DE} {pos:Pos}
end
end Dd
namespace Dd
open PySem PySem.Spec PyProof.Rows L2
section
variable {X:Cx} {e:Expr} {te:DE} {pos p2:Pos} {lo hi:Option Expr} {tl th:DO}
noncomputable def aLh (g:Bool->Bool):D2:=fun x y M Q=>match x,y with
 | .int k,.ref a=>∃ ns:List Int,M a = some (ns.map D.int)/\Q (.bl (g (ns.any (· == k)))) M
 | .str k,.ref a=>∃ ns:List Str,M a = some (ns.map D.str)/\Q (.bl (g (ns.any (· == k)))) M
 | _,_=>False
theorem uU {K:PySem.W.Frag} {H:Hp}:∀ {ns:List Int} {vs:List V} {its:List Value},bK K H (ns.map D.int) vs->bR vs its->IntsAre its ns
 | [],_,_,h,r=>by rw [bM h] at r;cases r;exact .nil
 | n :: ns,_,_,h,r=>by
  obtain ⟨v,rr,rfl,hv,hr⟩:=aY h
  rw [aU hv] at r
  cases r with
  | cons q w =>
   obtain ⟨t,rfl⟩:=q
   exact .cons _ _ (uU hr w)
theorem wP {K:PySem.W.Frag} {H:Hp}:∀ {ns:List Str} {vs:List V} {its:List Value},bK K H (ns.map D.str) vs->bR vs its->StrsAre its ns
 | [],_,_,h,r=>by rw [bM h] at r;cases r;exact .nil
 | n :: ns,_,_,h,r=>by
  obtain ⟨v,rr,rfl,hv,hr⟩:=aY h
  rw [cU hv] at r
  cases r with
  | cons q w =>
   obtain ⟨t,rfl⟩:=q
   exact .cons _ _ (wP hr w)
theorem sY:OpD X (compareOp .In) (aLh id):=fun pins s σ H x y v u Q I rx ry ⟨dx,dy,M,Q',r1,r2,hm,q,k⟩=>by
 cases dx with
 | int z =>
  cases dy with
  | ref a =>
   obtain ⟨ns,ha,q⟩:=q
   obtain rfl:=aU r1
   obtain rfl:=aW r2
   obtain ⟨t,rfl⟩:=rx
   cases ry
   obtain ⟨us,hu,ru⟩:=hm.l a _ ha
   obtain ⟨zz,its,nn,rv,hlen,e1⟩:=I.lstM hu
   exact in_list_ints ⟨_,e1,rfl,_,rfl⟩ (uU ru rv) ⟨.bl _,H,I,rfl,k _ H ⟨_,M,eW,hm,.refl H,q⟩⟩
  | _=>exact q.elim
 | str z =>
  cases dy with
  | ref a =>
   obtain ⟨ns,ha,q⟩:=q
   obtain rfl:=cU r1
   obtain rfl:=aW r2
   obtain ⟨t,rfl⟩:=rx
   cases ry
   obtain ⟨us,hu,ru⟩:=hm.l a _ ha
   obtain ⟨zz,its,nn,rv,hlen,e1⟩:=I.lstM hu
   exact in_list_strs ⟨_,e1,rfl,_,rfl⟩ (wP ru rv) ⟨.bl _,H,I,rfl,k _ H ⟨_,M,eW,hm,.refl H,q⟩⟩
  | _=>exact q.elim
 | _=>cases dy<;>exact q.elim
end
end Dd
namespace L2
open PySem PySem.Spec PyProof.Rows
open PySem.AutoSeq1 (wpAny_loadPart')
section
variable {X:Cx} {a n:Expr} {ta:TE} {tn:TA} {pos:Pos}
end
end L2
namespace Dd
open PySem PySem.Spec PyProof.Rows L2
section
variable {X:Cx} {a n:Expr} {ta:DE} {tn:DA} {pos p pos':Pos}
end
end Dd
namespace Dd
open PySem PySem.Spec PyProof.Rows L2
section
variable {X:Cx} {a b c e o:Expr} {es:List Expr} {ta tb tc te to:DE} {pos:Pos}
noncomputable def aEf (g:Int->Int->Int):DSp:=fun ds M Q=>match ds with
 | [.int i,.int j]=>Q (.int (g i j)) M
 | _=>False
theorem aGd {g:Int->Int->Int} {fv:Value} (h:lX X fv (fun xs H Q=>∃ i j,xs = [.int i,.int j]/\Q (.int (g i j)) H)):gK X fv (aEf g):=gK.of h fun vs H M ds Q rs hm q=>by
 rcases ds with _ | ⟨d,_ | ⟨d2,_ | ⟨d3,r⟩⟩⟩
 ·exact q.elim
 ·cases d<;>exact q.elim
 ·cases d with
  | int i =>
   cases d2 with
   | int j =>
    obtain ⟨v,v2,rfl,rv,rv2⟩:=aI0 rs
    obtain rfl:=aU rv
    obtain rfl:=aU rv2
    exact ⟨i,j,rfl,_,M,bT,hm,.refl H,q⟩
   | _=>exact q.elim
  | _=>exact q.elim
 ·cases d<;>first | exact q.elim | (cases d2<;>exact q.elim)
noncomputable def aKj:DSp:=aEf fun i j=>if j < i then j else i
theorem aIk (hc:X.calm = true):gK X (.builtin "min") aKj:=aGd (aDF hc)
end
mutual
theorem aAS:∀ (n:Nat) (d:D),bB n d = true->eqD d d = true
 | n,.non,_=>rfl
 | n,.bl b,_=>by simp [eqD]
 | n,.int i,_=>by simp [eqD]
 | n,.str x,_=>by simp [eqD]
 | n,.ref a,h=>by cases n<;>exact absurd h Bool.false_ne_true
 | n,.fz a,h=>by cases n<;>exact absurd h Bool.false_ne_true
 | 0,.tup xs,h=>absurd h Bool.false_ne_true
 | n + 1,.tup xs,h=>zA n xs h
theorem zA:∀ (n:Nat) (ds:List D),ds.all (bB n) = true->jI ds ds = true
 | n,[],_=>rfl
 | n,d :: ds,h=>by
  rw [List.all_cons,Bool.and_eq_true] at h
  show (eqD d d && jI ds ds) = true
  rw [aAS n d h.1,zA n ds h.2]
  rfl
end
theorem vN {g:Bool->Bool} {d:D} {M:DM} {Q:DQ} (h:bB 60 d = true) (q:Q (.bl (g true)) M):dEq g d d M Q:=by
 cases d with
 | ref a=>exact absurd h Bool.false_ne_true
 | _=>exact ⟨h,h,by rw [aAS 60 _ h];exact q⟩
theorem ifF {b:Bool} {A B:Prop} (h:b = false) (q:B):if b = true then A else B:=by subst h;exact q
theorem ifT {b:Bool} {A B:Prop} (h:b = true) (q:A):if b = true then A else B:=by subst h;exact q
end Dd
set_option maxHeartbeats 400000
namespace L2
open PySem PySem.Spec PyProof.Rows
end L2
namespace Dd
open PySem PySem.Spec PyProof.Rows L2
section
variable {X:Cx} {e k:Expr} {te tk:DE} {pos p2:Pos}
end
end Dd
namespace Zp
open PySem PySem.Spec PyProof.Rows
section
variable {prog:Program} {w:World} {A:Around} {E:Value->Shared->Prop} {s:Shared}
end
end Zp
namespace L2
open PySem PySem.Spec PyProof.Rows
end L2
namespace Dd
open PySem PySem.Spec PyProof.Rows L2
section
variable {X:Cx} {pos:Pos} {iter tg:Expr} {body:List Stmt} {tl:DE} {g:DG} {tb:DS} {ta:DA}
end
end Dd
set_option maxHeartbeats 1000000
namespace Dd
open PySem PySem.Spec PyProof.Rows L2
theorem gJ.there {P:Program} {w:World} {H:Hp} {h:Heap} {a:Addr} {o:HO} (x:gJ P w H h a o):∃ u,h.get? a = some u:=by
 cases o with
 | lst xs=>obtain ⟨_,_,_,_,e⟩:=x;exact ⟨_,e⟩
 | tup xs=>obtain ⟨_,_,_,ob,e,_⟩:=x;exact ⟨_,e⟩
 | dK kvs=>obtain ⟨_,_,_,_,o,_,_,e,_⟩:=x;exact ⟨_,e⟩
 | dT kvs=>obtain ⟨_,_,_,_,o,_,_,e,_⟩:=x;exact ⟨_,e⟩
 | set S n=>obtain ⟨o,_,_,_,e,_⟩:=x;exact ⟨_,e⟩
 | ins C dx fs=>obtain ⟨_,_,_,e,_⟩:=x;exact ⟨_,e⟩
 | own y=>obtain ⟨_,e⟩:=x;exact ⟨_,e⟩
 | xd fs=>obtain ⟨_,⟨_,_,_,e,_⟩,_⟩:=x;exact ⟨_,e⟩
 | rng lo hi=>obtain ⟨_,_,_,e⟩:=x;exact ⟨_,e⟩
 | frz ob u=>obtain ⟨e,_⟩:=x;exact ⟨_,e⟩
 | tbl ps=>exact ⟨_,(show h.get? a = some _ from x)⟩
 | met f y=>exact ⟨_,(show h.get? a = some _ from x)⟩
 | ext φ=>obtain ⟨_,⟨_,e⟩,_⟩:=x;exact ⟨_,e⟩
noncomputable def FpN (X:Cx) (pins:List (Addr × Obj)) (H:Hp) (b:Addr):Prop :=
 H b = none/\b ≠ X.env.locals/\X.s₀.heap.get? b = none/\(∀ x c,X.env.cells.lookup x = some c->c ≠ b)/\∀ p ∈ X.pn ++ pins,p.1 ≠ b
section
variable {X:Cx} {pins:List (Addr × Obj)} {σ:L2.St} {H H':Hp} {s:Shared} {h':Heap}
theorem _root_.L2.Inv.fpN (I:Inv X pins σ H s) (hex:X.ex = []) {b:Addr} (h:s.heap.get? b = none) (hn:H' b = none):FpN X pins H' b:=by
 refine ⟨hn,fun z=>?_,?_,fun x c e z=>?_,fun p hp z=>?_⟩
 ·obtain ⟨m,⟨o,_,_,ho,_⟩,_⟩:=I.loc
  rw [<- z,h] at ho;cases ho
 ·cases q:X.s₀.heap.get? b with
  | none=>rfl
  | some o =>
   obtain ⟨o',e⟩:=I.base.there b o q (by rw [hex];simp)
   rw [h] at e;cases e
 ·obtain ⟨v,o,ho,_⟩:=I.cell x c e
  rw [z,h] at ho;cases ho
 ·obtain ⟨e,_⟩:=I.pin p hp
  rw [z,h] at e;cases e
theorem _root_.L2.Inv.untr (I:Inv X pins σ H s) {b:Addr} (h:s.heap.get? b = none):H b = none:=by
 cases q:H b with
 | none=>rfl
 | some o=>obtain ⟨u,e⟩:=gJ.there (I.hok b o q);rw [h] at e;cases e
theorem _root_.L2.Inv.mark {ch:List Addr} (I:Inv X pins σ H s) (hch:∀ b ∈ ch,FpN X pins H b) (keep:∀ b o,b ∉ frs X.stack->b ∉ ch->s.heap.get? b = some o->h'.get? b = some o)
  (slot:∀ b o,b ∉ ch->s.heap.get? b = some o->∃ sl,h'.get? b = some { o with slots:=sl }):Inv X pins σ H { s with heap:=h' }:=by
 have neL:∀ b o,X.s₀.heap.get? b = some o->b ≠ X.env.locals:=fun b o e=>Nat.ne_of_lt (Nat.lt_of_lt_of_le (Heap.lt_size e) I.ok.above)
 have neC:∀ b o,X.s₀.heap.get? b = some o->b ∉ ch:=fun b o e hb=>by rw [(hch b hb).2.2.1] at e;cases e
 have stk:∀ b,b ≠ X.env.locals->b ∉ X.fs->b ∉ frs X.stack:=fun b h1 h2 hb=>(List.mem_cons.mp (I.stkSub b hb)).elim h1 h2
 have cellK:∀ x c,X.env.cells.lookup x = some c->∀ v,s.heap.IsCell c v->h'.IsCell c v:=fun x c e v ⟨o,ho,hd⟩=>by
  obtain ⟨sl,q⟩:=slot c o (fun z=>(hch c z).2.2.2.1 x c e rfl) ho
  exact ⟨_,q,hd⟩
 refine ⟨I.ok,I.os,I.bare,⟨fun b o e n hb hx=>?_,fun b o e n hb hx=>?_,I.base.free,fun b o e hx=>?_,I.base.tups,I.base.frzs,I.base.tbls⟩,?_,fun x c e=>?_,I.free,I.freeC,fun p hp=>?_,fun a o e=>?_,I.len⟩
 ·exact keep b o (stk b (neL b o e) hb) (neC b o e) (I.base.keep b o e n hb hx)
 ·obtain ⟨sl,e1⟩:=I.base.slot b o e n hb hx
  obtain ⟨sl',e2⟩:=slot b _ (neC b o e) e1
  exact ⟨sl',e2⟩
 ·obtain ⟨o',e1⟩:=I.base.there b o e hx
  obtain ⟨sl,e2⟩:=slot b o' (neC b o e) e1
  exact ⟨_,e2⟩
 ·obtain ⟨m,⟨o,es,ep,ho,r⟩,hl⟩:=I.loc
  obtain ⟨sl,e2⟩:=slot _ o (fun z=>(hch _ z).2.1 rfl) ho
  refine ⟨m,⟨_,es,ep,e2,r⟩,fun i x v e1 e2 e3=>?_⟩
  obtain ⟨u,r,l⟩:=hl i x v e1 e2 e3
  refine ⟨u,r,?_⟩
  rcases l with l | ⟨k,c,e,z⟩
  ·exact .inl l
  ·exact .inr ⟨k,c,e,cellK x c e _ z⟩
 ·obtain ⟨v,z⟩:=I.cell x c e
  exact ⟨v,cellK x c e v z⟩
 ·obtain ⟨e,n,ne,nf,d⟩:=I.pin p hp
  exact ⟨keep p.1 p.2 (stk _ ne nf) (fun z=>(hch _ z).2.2.2.2 p hp rfl) e,n,ne,nf,d⟩
 ·refine (I.hok a o e).stay (fun b u hb q=>keep b u (fun z=>?_) (fun z=>?_) q) (fun _ q=>q) fun _ _ q=>q
  ·have:=I.stkFree b z
   rcases hb with hb | hb
   ·rw [hb,e] at this;cases this
   ·rw [hb] at this;cases this
  ·have:=(hch b z).1
   rcases hb with hb | hb
   ·rw [hb,e] at this;cases this
   ·rw [hb] at this;cases this
end
theorem vX (f:Array Value->Array Value) (o:Obj):(o.mapFields f).dict = o.dict:=by unfold Obj.mapFields;split<;>rfl
noncomputable def Nw (h:Heap) (e:Addr) (cls:Value):Prop:=∃ oe vs,h.get? e = some oe/\(oe.cls = cls/\oe.dict = none)/\oe.data = .fields vs/\vs[1]? = some Value.none
noncomputable def Tr (h:Heap) (e:Addr) (cls:Value) (T:Addr) (fl:Value):Prop :=
 ∃ oe vs oT ts,h.get? e = some oe/\(oe.cls = cls/\oe.dict = none)/\oe.data = .fields vs/\vs[1]? = some (.ref T)/\T ≠ e/\h.get? T = some oT/\oT.data = .fields ts/\ts[3]? = some fl
section
variable {X:Cx} {pins:List (Addr × Obj)} {σ:L2.St} {H:Hp} {s:Shared} {M:Model} {A:Around} {E:Value->Shared->Prop} {e T:Addr} {cls:Value}
theorem yV {oe:Obj} {vs:Array Value} {head:Value} {hadNext:Bool} {Q:Unit->Shared->Prop} (I:Inv X pins σ H s) (hs:X.stack = X.env :: X.outer) (hf:X.env.frame = some X.env.locals) (hex:X.ex = [])
  (hA:A.frames = some X.stack) (he:s.heap.get? e = some oe) (hdi:oe.dict = none) (hd:oe.data = .fields vs) (hsz:1 < vs.size) (fe:FpN X pins H e)
  (h:∀ s' T,Inv X pins σ H s'->Tr s'.heap e oe.cls T (rawInt X.env.locals)->FpN X pins H T->s.heap.get? T = none->Q () s') :
  wpAny M A (do let a <- frameOf X.env;let pl <- entryPlaceOf X.env.locals hadNext;let b <- EntryCells.newEntry head a .none (rawInt X.env.locals) .none pl;setField (.ref e) 1 b) Q E s:=by
 have hfr:A.frames = some (X.env :: X.outer):=by rw [hA,hs]
 have hl:s.heap.FunFrames X.base (X.env :: X.outer):=hs ▸ I.stack
 have hene:e ∉ (X.env :: X.outer).filterMap (·.frame):=fun hm=>by
  obtain ⟨_,o,ho,hnf⟩:=hl.mem hm
  rw [he] at ho;cases ho;exact hnf vs hd
 have hfs:frs X.stack = (X.env :: X.outer).filterMap (·.frame):=by rw [hs];rfl
 refine wpAny_bind (wpAny_frameOf_fun hfr hl hf fun h₁ hs₁=>?_)
 refine wpAny_bind (wpAny_entryPlaceOf fun pl hpl=>?_)
 unfold EntryCells.newEntry newFields
 refine wpAny_bind (wpAny_newObj_type ?_ (hpl.sizeOk5 _ _ _ _ _))
 have he₁:h₁.get? e = some oe:=(hs₁.2.1 e hene).trans he
 have he₂:=Heap.get?_push_of_some (h:=h₁) { cls:=.type "traceback",dict:=none,data:=.fields ([head,.ref X.env.locals,.none,rawInt X.env.locals,.none] ++ (if pl.isEmpty then List.replicate 6 Value.none else pl)).toArray } he₁
 refine wpAny_setField he₂ hd hsz ?_
 have hTe:h₁.objs.size ≠ e:=Nat.ne_of_gt (Heap.lt_size he₁)
 have hd₃:=Obj.data_mapFields hd (·.setIfInBounds 1 (Value.ref h₁.objs.size))
 have he₃:=Heap.get?_update_self (Obj.mapFields (·.setIfInBounds 1 (Value.ref h₁.objs.size))) he₂ (Obj.isFreed_of_fields hd₃)
 have hT₃:=(Heap.get?_update_other (h₁.push { cls:=.type "traceback",dict:=none,data:=.fields ([head,.ref X.env.locals,.none,rawInt X.env.locals,.none] ++ (if pl.isEmpty then List.replicate 6 Value.none else pl)).toArray })
  (Obj.mapFields (·.setIfInBounds 1 (Value.ref h₁.objs.size))) (Ne.symm hTe)).trans (Heap.get?_push_size h₁ rfl)
 have hTn:s.heap.get? h₁.objs.size = none:=Heap.get?_none_of_le (by rw [hs₁.1];exact Nat.le_refl _)
 refine h _ h₁.objs.size (L2.Inv.mark (s:=s) (ch:=[e]) I (fun b hb=>by rw [List.mem_singleton.mp hb];exact fe) (fun b o hb hc q=>?_) fun b o hc q=>?_) ?_ (L2.Inv.fpN (s:=s) I hex hTn (L2.Inv.untr (s:=s) I hTn)) hTn
 ·have hbe:b ≠ e:=fun z=>hc (by simp [z])
  rw [Heap.get?_update_other _ _ (Ne.symm hbe)]
  exact Heap.get?_push_of_some _ ((hs₁.2.1 b (by rw [<- hfs];exact hb)).trans q)
 ·have hbe:b ≠ e:=fun z=>hc (by simp [z])
  obtain ⟨sl,z⟩:=hs₁.2.2 b o q
  exact ⟨sl,by rw [Heap.get?_update_other _ _ (Ne.symm hbe)];exact Heap.get?_push_of_some _ z⟩
 ·exact ⟨_,_,_,_,he₃,⟨Obj.cls_mapFields _ _,(vX _ _).trans hdi⟩,hd₃,by simp [hsz],hTe,hT₃,rfl,by first | (simp;done) | (rcases hpl with rfl | ⟨_,_,_,_,_,_,_,rfl⟩<;>simp)⟩
theorem aEq {Q:Unit->Shared->Prop} (I:Inv X pins σ H s) (hs:X.stack = X.env :: X.outer) (hf:X.env.frame = some X.env.locals) (hex:X.ex = []) (hA:A.frames = some X.stack) (n:Nw s.heap e cls) (fe:FpN X pins H e)
  (h:∀ s' T,Inv X pins σ H s'->Tr s'.heap e cls T (rawInt X.env.locals)->FpN X pins H T->s.heap.get? T = none->Q () s'):wpAny M A (noteFrame (.ref e) X.env) Q E s:=by
 obtain ⟨oe,vs,he,⟨rfl,hdi⟩,hd,h1⟩:=n
 unfold noteFrame
 simp only [hf]
 refine wpAny_bind (wpAny_field he hd h1 ?_)
 rw [if_neg (by decide)]
 exact yV I hs hf hex hA he hdi hd (Array.getElem?_eq_some_iff.mp h1).1 fe h
theorem aCn {ts:Array Value} {oT:Obj} {f:Array Value->Array Value} (I:Inv X pins σ H s) (fT:FpN X pins H T) (hT:s.heap.get? T = some oT) :
  Inv X pins σ H { s with heap:=s.heap.update T (Obj.mapFields f) }:=by
 refine I.mark (ch:=[T]) (fun b hb=>by rw [List.mem_singleton.mp hb];exact fT) (fun b o _ hc q=>?_) fun b o hc q=>⟨o.slots,?_⟩ <;>
 ·rw [Heap.get?_update_other _ _ (Ne.symm (fun z=>hc (by simp [z])))];exact q
theorem pX {fl:Value} {Q:Unit->Shared->Prop} (I:Inv X pins σ H s) (t:Tr s.heap e cls T fl) (fT:FpN X pins H T) (h:∀ s',Inv X pins σ H s'->Tr s'.heap e cls T .none->Q () s'):wpAny M A (setFlight (.ref e) none) Q E s:=by
 obtain ⟨oe,vs,oT,ts,he,hcls,hd,h1,hTe,hT,hdT,h3⟩:=t
 have hsz3:3 < ts.size:=(Array.getElem?_eq_some_iff.mp h3).1
 unfold setFlight
 refine wpAny_bind (wpAny_field he hd h1 ?_)
 rw [if_pos (show (Value.ref T != Value.none) = true from by simp)]
 refine wpAny_setField hT hdT hsz3 (h _ (aCn (ts:=ts) I fT hT) ?_)
 exact ⟨oe,vs,_,_,(Heap.get?_update_other _ _ hTe).trans he,hcls,hd,h1,hTe,Heap.get?_update_self _ hT (Obj.isFreed_of_fields (Obj.data_mapFields hdT _)),Obj.data_mapFields hdT _,by simp [hsz3]⟩
theorem aDM {Q:Unit->Shared->Prop} (I:Inv X pins σ H s) (hs:X.stack = X.env :: X.outer) (hf:X.env.frame = some X.env.locals) (hex:X.ex = []) (hA:A.frames = some X.stack) (t:Tr s.heap e cls T .none) (fe:FpN X pins H e) (fT:FpN X pins H T)
  (h:∀ s' T',Inv X pins σ H s'->Tr s'.heap e cls T' (rawInt X.env.locals)->FpN X pins H T'->Q () s'):wpAny M A (noteFrame (.ref e) X.env) Q E s:=by
 obtain ⟨oe,vs,oT,ts,he,⟨rfl,hdi⟩,hd,h1,hTe,hT,hdT,h3⟩:=t
 unfold noteFrame
 simp only [hf]
 refine wpAny_bind (wpAny_field he hd h1 ?_)
 rw [if_pos (show (Value.ref T != Value.none) = true from by simp)]
 refine wpAny_bind (wpAny_field hT hdT h3 ?_)
 rw [if_neg (show ¬ ((Value.none == rawInt X.env.locals) = true) from by simp [rawInt])]
 refine wpAny_bind (wpAny_setField hT hdT (Array.getElem?_eq_some_iff.mp h3).1 ?_)
 exact yV (aCn (ts:=ts) I fT hT) hs hf hex hA ((Heap.get?_update_other _ _ hTe).trans he) hdi hd (Array.getElem?_eq_some_iff.mp h1).1 fe fun s' T' I' t' f' _=>h s' T' I' t' f'
theorem aDn {Q:Unit->Shared->Prop} (I:Inv X pins σ H s) (hs:X.stack = X.env :: X.outer) (hf:X.env.frame = some X.env.locals) (hex:X.ex = []) (hA:A.frames = some X.stack) (n:Nw s.heap e cls) (fe:FpN X pins H e)
  (h:∀ s' T,Inv X pins σ H s'->Tr s'.heap e cls T .none->FpN X pins H T->s.heap.get? T = none->Q () s'):wpAny M A (leaving X.env (.ref e)) Q E s:=by
 unfold leaving
 exact wpAny_bind (aEq I hs hf hex hA n fe fun s1 T I1 t1 f1 n1=>pX I1 t1 f1 fun s2 I2 t2=>h s2 T I2 t2 f1 n1)
end
end Dd
namespace Dd
open PySem PySem.Spec PyProof.Rows L2
noncomputable def CXr (P:Program) (w:World):CXT:=fun outer H s E e s'=>∃ (a:Addr) (cls:Value) (T:Addr) (H':Hp),e = Value.ref a/\s'.os = s.os/\AllBare s'.gens/\Un (frs outer) [] H H' s.heap s'.heap/\HOk P w H' s'.heap /\
 Tr s'.heap a cls T .none/\s.heap.get? a = none/\s.heap.get? T = none/\H' a = none/\H' T = none/\E cls none H'
theorem aGF {K:PySem.W.Frag} {h:Heap} {C:Addr} {bmB:List Value} {newId:String} (X:K.In h) (q:PySem.W.excIn K C bmB newId = true) :
  ∃ bm N nm qn bs hdct sn sub ab col dd k0 k1 k2 k3 k5,∃ mN:Str->Option Value,h.get? C = some (excClassObj nm qn C N bs bm hdct sn sub ab col dd k0 k1 k2 k3 k5 newId)/\h.Ns N mN/\mN "__init__" = none/\OwnTail h bmB bm:=by
 unfold PySem.W.excIn at q
 split at q
 ·rename_i dd cd sl ho
  split at q
  ·rename_i C' bm k0 k1 k2 k3 n k5 hm hs
   simp only [Bool.and_eq_true,beq_iff_eq,Bool.not_eq_true'] at q
   obtain ⟨⟨⟨⟨⟨rfl,rfl⟩,hdel⟩,ht⟩,hok⟩,hni⟩:=q
   cases cd
   dsimp only at hm hdel hok hni
   subst hm hdel
   cases sl
   simp only at hs
   subst hs
   exact ⟨_,_,_,_,_,_,_,_,_,_,_,_,_,_,_,_,_,X _ _ ho,.of_isNs (PySem.W.isNs_of_in X hok),PySem.W.nsMap_none_of_in X hok hni,PySem.W.tail_of_in X ht⟩
  ·cases q
 ·cases q
noncomputable def rJ (X:Cx) (x:Str) (V:DM->Prop):Prop:=X.calm = true/\X.ex = []/\∃ C bmB newId B initId,X.mg x = some (.ref C)/\PySem.W.excIn X.K C bmB newId = true/\ExcBaseFacts B newId initId bmB /\
 ∀ pins σ H s a M',Inv X pins σ H s->Nw s.heap a (.ref C)->FpN X pins H a->cG X.K M' H->V M'->X.xe (.ref a) s
noncomputable def aBW (V:DM->Prop) (t:DA):DS:=fun _ ρ M=>t ρ M fun ds M1=>ds.length<=1000/\V M1
section
variable {X:Cx} {x:Str} {V:DM->Prop} {e:Expr} {es:List Expr} {t:DA} {np cpos pos:Pos}
theorem aEI (R:rJ X x V) (ha:PDA X (e :: es) t) (hg:Gl X x:=by rfl) (hd:(x == ("__debug__":Str)) = false:=by decide)
  (he:starEach (e :: es) X.env = (false,eval e X.env) :: starEach es X.env:=by rfl) (hpl:(backTo cpos (starEach es X.env)).any (·.1) = false:=by rfl) :
  PDS X (.Raise (some (.Call (.Name x np) (e :: es) [] cpos)) none pos) (aBW V t):=by
 intro pins s σ H D I ⟨ρ,M,D',re,hm,q,k⟩
 obtain ⟨calm,hex,C,bmB,newId,B,initId,hmg,hq,FB,fly⟩:=R
 obtain ⟨tl,N,nm,qn,bs,hdct,sn,sub,ab,col,dd,k0,k1,k2,k3,k5,mN,hC,hN,hni,T⟩:=aGF I.ok.mod.kin hq
 refine wpAny_Raise_call_subT (C:=C) (nm:=nm) (q:=qn) (N:=N) (bs:=bs) (bm:=tl) (hdct:=hdct) (sn:=sn) (sub:=sub) (ab:=ab) (col:=col) (dd:=dd) (k0:=k0) (k1:=k1) (k2:=k2) (k3:=k3) (k5:=k5)
  FB (mN:=mN) (T.hasType FB.hasBase) (I.ok.hd calm) (by rw [he];show (false || (backTo cpos (starEach es X.env)).any (·.1)) = false;rw [hpl];rfl) hni (lT I hg hmg ⟨rfl,?_⟩ hd)
 have h:=ha cpos pins s σ H (LA X.K H fun ds M1=>ds.length<=1000/\V M1) I ⟨ρ,M,_,re,hm,q,fun vs H' z=>z⟩
 rw [he] at h ⊢
 refine Calls.evalArgs_plain (wpAny_mono h (fun us s₂ ⟨vs,H2,I2,rv,ds,M2,rs,hm2,ex,hl,hV⟩=>⟨rfl,?_,I2.bk _ _ hC,hN.keeps I2.bk,T.keeps I2.bk,fun h' a mk=>?_⟩) fun _ _ y=>y)
 ·show us.length<=sizeLine
  rw [<- rv.length,<- rs.length];exact Nat.le_of_lt (eL hl)
 ·obtain ⟨tt,ht,_⟩:=mk.there
  have I3:Inv X pins σ H2 { s₂ with heap:=h' }:=I2.kept (t':=s₂.toks) mk.keeps
  have hn:=I2.untr mk.new
  exact fly pins σ H2 _ a M2 I3 ⟨_,_,ht,⟨rfl,rfl⟩,rfl,rfl⟩ (I2.fpN hex mk.new hn) hm2 hV
end
noncomputable def spX (K:PySem.W.Frag) (C:Addr) (cond:List D->DM->Prop):Sp:=fun vs H _ E=>∃ ds M,bK K H ds vs/\cG K M H/\cond ds M/\∀ M' H',cG K M' H'->bG M M'->E (.ref C) none H'
noncomputable def bmV:List Value:=[.type "ValueError",.type "Exception",.type "BaseException",.type "object"]
noncomputable def tP (K:PySem.W.Frag) (mg:Str->Option Value) (x:Str) (C:Addr):Prop:=mg x = some (.ref C)/\PySem.W.excIn K C bmV "ValueError.__new__" = true
noncomputable def mO (P:Program) (w:World) (K:PySem.W.Frag) (mg:Str->Option Value) (base:Heap) (k:Nat) (x:Str) (ps:List Str) (C:Addr) (cond:List D->DM->Prop):Prop :=
 ∃ f fd,jH P w K mg base (CXr P w) k f fd ps (spX K C cond)/\mg x = some (.ref f)/\PySem.W.keepIn K (.ref f) = true/\nO K fd ps []
section
variable {P:Program} {w:World} {K:PySem.W.Frag} {mg:Str->Option Value} {base:Heap}
theorem mO.mk {x c:Str} {C:Addr} {st:Stmt} {N ps:List Str} {k:Nat} {cond:List D->DM->Prop} (h:bO K mg x st ps) (hc:tP K mg c C) (S:aP N ps (aI st)) (len:∀ ds M,cond ds M->ds.length = ps.length)
  (hbody:∀ (f:Addr) (cdv:Value) (A:Around) (outer:List Env) (s:Shared) (H:Hp) (ds:List D) (M:DM) (E:XK),eQ k (A.deeper (envOfC x (aI st) s.heap.objs.size f cdv))->cond ds M ->
   rJ (nS (CXr P w) P w K mg base N x (aI st) f cdv A outer s H E) c (bG M) ->
   ∃ t,jS (nS (CXr P w) P w K mg base N x (aI st) f cdv A outer s H E) (eS st) t/\t { nx:=fun _ _=>False,rt:=fun _ _=>False } (iB N ds) M)  :mO P w K mg base (k + 1) x ps C cond:=by
 obtain ⟨f,fd,F,hm,hb⟩:=h
 refine ⟨f,fd,?_,hm,F.kp,hb⟩
 obtain ⟨oc,od,kV,doc,pm,an,cdv,ct,osl,rfl,lk,hcd⟩:=F.ex
 refine aHq lk hcd S (fun vs H Q E ⟨ds,M,rs,hm,q,_⟩=>by rw [<- rs.length];exact len ds M q) fun A outer s H vs Q E hr ⟨ds,M,rs,hm,q,k'⟩=>?_
 have RO:rJ (nS (CXr P w) P w K mg base N x (aI st) f cdv A outer s H E) c (bG M) :=
  ⟨rfl,rfl,C,bmV,_,_,_,hc.1,hc.2,PySem.F.excBase_ValueError,fun pins σ H' s1 a M' I n fe hm' sub =>
   aDn (X:=nS (CXr P w) P w K mg base N x (aI st) f cdv A outer s H E) I rfl rfl rfl I.ok.frames n fe fun s' T I' t' fT _ =>
    ⟨a,.ref C,T,H',rfl,I'.os,I'.bare,I'.base,I'.hok,t',fe.2.2.1,fT.2.2.1,fe.1,fT.1,k' M' H' hm' sub⟩⟩
 obtain ⟨t,h1,h2⟩:=hbody f cdv A outer s H ds M E hr q RO
 exact ⟨_,h1,iB N ds,M,_,vZ rs N,hm,h2,⟨fun σ' H' ⟨_,_,_,_,_,z⟩=>z.elim,fun v H' ⟨_,_,_,_,_,z⟩=>z.elim,fun σ' H' ⟨_,_,_,_,_,z⟩=>z.elim,fun σ' H' ⟨_,_,_,_,_,z⟩=>z.elim⟩⟩
noncomputable abbrev aHQ (P:Program) (w:World) (K:PySem.W.Frag) (mg:Str->Option Value) (base:Heap) (k:Nat) (x:Str) (ps:List Str) (C:Addr) (cond:List D->Prop):Prop:=mO P w K mg base k x ps C fun ds _=>cond ds
end
end Dd
namespace Dd
open PySem PySem.Spec PyProof.Rows L2
noncomputable def ExO (o:Obj) (C:Addr):Prop:=o.cls = .ref C/\o.dict = none/\∃ vs,o.data = .fields vs
noncomputable abbrev Exc (X:Cx) (a:Addr) (o:Obj):Cx:={ X with A:=X.A.mark (some (.ref a)),calm:=false,pn:=(a,o) :: X.pn }
section
variable {X:Cx} {pins:List (Addr × Obj)} {σ:L2.St} {H:Hp} {s:Shared} {a:Addr} {o:Obj}
theorem aIK (I:X.Ok):(Exc X a o).Ok :=
 ⟨I.mod,I.kind,I.glob,I.blt,I.above,I.inj,I.has,I.cab,(fun z=>nomatch z),I.frames,I.stk,I.exf,I.bs,I.bsz,I.noex,I.exfs,I.funs,I.frf⟩
theorem aEU (I:Inv X pins σ H s) (h:s.heap.get? a = some o) (n:H a = none) (nl:a ≠ X.env.locals) (nf:a ∉ X.fs) (nc:∀ v,o.data ≠ .cell v):Inv (Exc X a o) pins σ H s :=
 ⟨aIK I.ok,I.os,I.bare,I.base,I.loc,I.cell,I.free,I.freeC,fun p hp=>by
  rcases List.mem_cons.mp hp with z | z
  ·subst z;exact ⟨h,n,nl,nf,nc⟩
  ·exact I.pin p z,I.hok,I.len⟩
theorem uL (ok:X.Ok) (I:Inv (Exc X a o) pins σ H s):Inv X pins σ H s :=
 ⟨ok,I.os,I.bare,I.base,I.loc,I.cell,I.free,I.freeC,fun p hp=>I.pin p (List.mem_cons_of_mem _ hp),I.hok,I.len⟩
theorem oG {M:Model} {A:Around} {E:Value->Shared->Prop} {n:Str} {j:Nat} {pos:Pos} {Q:Unit->Shared->Prop} (I:Inv X pins σ H s) (hN:X.N.Nodup) (hj:X.N[j]? = some n) (hl:X.env.scope.names.lookup n = some .local)
  (h:∀ s',Inv X pins (σ.set j none) H s'->Q () s'):wpAny M A (do bindName X.env n .none;unbindBehindTheSuite X.env n pos) Q E s:=by
 obtain ⟨m,hn,hlo⟩:=id I.loc
 have hcls:(X.env.scope.kind == .class || (X.env.scope.kind == .module && X.env.locals != X.env.globals)) = false:=by rw [I.ok.kind];rfl
 have cne:=I.cne
 refine wpAny_nameGoes_keeps hl hn hcls fun h' v hn' hs=>h _ ?_
 obtain ⟨oL,_,_,hoL,_⟩:=id hn
 refine ⟨I.ok,I.os,I.bare,⟨fun b o e n hb hx=>?_,fun b o e n hb hx=>?_,I.base.free,fun b o e hx=>?_,I.base.tups,I.base.frzs,I.base.tbls⟩,⟨_,hn',fun i y v' e1 e2 e3=>?_⟩,fun y c e=>?_,I.free,I.freeC,fun p hp=>?_,fun b ob e=>?_,by simpa using I.len⟩
 ·exact (hs.2 b (Nat.ne_of_lt (Nat.lt_of_lt_of_le (Heap.lt_size e) I.ok.above))).trans (I.base.keep b o e n hb hx)
 ·obtain ⟨sl,e1⟩:=I.base.slot b o e n hb hx
  exact ⟨sl,(hs.2 b (Nat.ne_of_lt (Nat.lt_of_lt_of_le (Heap.lt_size e) I.ok.above))).trans e1⟩
 ·obtain ⟨o',e1⟩:=I.base.there b o e hx
  exact ⟨o',(hs.2 b (Nat.ne_of_lt (Nat.lt_of_lt_of_le (Heap.lt_size e) I.ok.above))).trans e1⟩
 ·have hij:i ≠ j:=fun z=>by
   subst z
   rw [List.getElem?_set] at e2
   rw [if_pos rfl] at e2
   split at e2<;>cases e2
  rw [List.getElem?_set_ne (Ne.symm hij)] at e2
  obtain ⟨u,r,q⟩:=hlo i y v' e1 e2 e3
  refine ⟨u,r,?_⟩
  rcases q with ⟨k,e⟩ | ⟨k,c,e,z⟩
  ·refine .inl ⟨k,?_⟩
   have:y ≠ n:=fun e=>hij (xK hN e1 (e ▸ hj))
   simp [this,e]
  ·exact .inr ⟨k,c,e,z.sameBut hs (cne y c e)⟩
 ·obtain ⟨w',z⟩:=I.cell y c e
  exact ⟨w',z.sameBut hs (cne y c e)⟩
 ·obtain ⟨e,n,ne,nf,d⟩:=I.pin p hp
  exact ⟨(hs.2 p.1 ne).trans e,n,ne,nf,d⟩
 ·refine (I.hok b ob e).stay (fun c w' hc q=>(hs.2 c ?_).trans q) (fun _ q=>q) fun _ _ q=>q
  rintro rfl
  rcases hc with rfl | hc
  ·rw [I.free] at e;cases e
  ·rw [I.free] at hc;cases hc
end
theorem gB.setN {K:PySem.W.Frag} {H:Hp} {ρ:cB} {σ:L2.St} (h:gB K H ρ σ) (i:Nat):gB K H (ρ.set i none) (σ.set i none):=by
 refine ⟨by rw [List.length_set,List.length_set,h.len],fun j d' q=>?_⟩
 rw [List.getElem?_set] at q
 by_cases hij:i = j
 ·subst hij
  rw [if_pos rfl] at q
  split at q<;>cases q
 ·rw [if_neg hij] at q
  obtain ⟨u,a,b⟩:=h.get j d' q
  exact ⟨u,by rw [List.getElem?_set,if_neg hij];exact a,b⟩
noncomputable def fZ.un (D:fZ) (j:Nat):fZ:={ nx:=fun ρ M=>D.nx (ρ.set j none) M,rt:=D.rt,bk:=fun ρ M=>D.bk (ρ.set j none) M,ct:=fun ρ M=>D.ct (ρ.set j none) M }
noncomputable def aFf (D:qH) (j:Nat):qH:={ nx:=fun ρ M=>D.nx (ρ.set j none) M,rt:=D.rt,bk:=fun ρ M=>D.bk (ρ.set j none) M,ct:=fun ρ M=>D.ct (ρ.set j none) M }
theorem jW.un {K:PySem.W.Frag} {H:Hp} {D:fZ} {E:qH} (k:jW K H D E) (j:Nat):jW K H (D.un j) (aFf E j) :=
 ⟨fun σ' H' ⟨ρ',M',re,hm,ex,q⟩=>k.nx _ H' ⟨_,M',re.setN j,hm,ex,q⟩,k.rt,fun σ' H' ⟨ρ',M',re,hm,ex,q⟩=>k.bk _ H' ⟨_,M',re.setN j,hm,ex,q⟩,fun σ' H' ⟨ρ',M',re,hm,ex,q⟩=>k.ct _ H' ⟨_,M',re.setN j,hm,ex,q⟩⟩
noncomputable def aJv (sp:DSp) (cond:List D->DM->Prop) (j:Nat) (t:DA) (nx:fZ->D->cB->DM->Prop) (ts:Addr->DS):DS:=fun D ρ M=>t ρ M fun ds M1 =>
 (cond ds M1/\∀ a,ts a (D.un j) (ρ.set j (some (.ref a))) M1) ∨ sp ds M1 fun d M2=>nx D d ρ M2
section
variable {X:Cx} {a:Expr} {e:Expr} {es:List Expr} {t:DA} {x f n cm:Str} {ps:List Str} {sp:DSp} {cond:List D->DM->Prop} {C Cm:Addr} {k1 k2 k i j:Nat} {ts:Addr->DS} {b0:Stmt} {suite:List Stmt} {px pf pc pa pcm ph pos:Pos}
theorem aIA {pins:List (Addr × Obj)} {σ:L2.St} {H1:Hp} {s1 s':Shared} {M1:DM} {ρ:cB} {De:fZ} {En:qH} {ev:Value} (ok:X.Ok) (hs:X.stack = X.env :: X.outer) (hf:X.env.frame = some X.env.locals) (hex:X.ex = [])
  (hX:∀ e s,X.xe e s->False) (hN:X.N.Nodup) (hj:X.N[j]? = some n) (hnl:X.env.scope.names.lookup n = some .local)
  (hcm:X.mg cm = some (.ref Cm)) (hgc:Gl X cm) (hdc:(cm == ("__debug__":Str)) = false) (hmt:PySem.W.exmOne X.K (.ref C) (.ref Cm) = some true)
  (hsu:∀ a o,ExO o C->jS (Exc X a o) (b0 :: suite) (ts a))
  (I1:Inv X pins σ H1 s1) (re:gB X.K H1 ρ σ) (k:jW X.K H1 De En) (q:∀ a,ts a (De.un j) (ρ.set j (some (.ref a))) M1)
  (h:CXr X.prog X.w X.stack H1 s1 (fun c _ H'=>c = .ref C/\∃ M',cG X.K M' H'/\bG M1 M') ev s') :
  wpAny (model X.prog X.w) X.A (noteFrame ev X.env) (fun _ s₂=>wpAny (model X.prog X.w) X.A (setFlight ev none)
   (fun _ s₃=>wpAny (model X.prog X.w) X.A (handleBy ev X.env [.ExceptHandler (some (.Name cm pcm)) (some n) (b0 :: suite) ph]) (SP X pins En) X.xe s₃) X.xe s₂) X.xe s':=by
 obtain ⟨a,cls,T,H',rfl,os,bare,un,hok,tr,na,nT,ha,hT,rfl,M',hm',sub⟩:=h
 have I2:Inv X pins σ H' s':=I1.call' (ch:=[]) os un hok bare (fun b z=>absurd z (by simp))
 have fa:FpN X pins H' a:=I1.fpN hex na ha
 have fT:FpN X pins H' T:=I1.fpN hex nT hT
 have ex:Ext H1 H':=⟨un.tups,un.frzs⟩
 refine aDM I2 hs hf hex I2.ok.frames tr fa fT fun s3 T3 I3 t3 f3=>?_
 refine pX I3 t3 f3 fun s4 I4 t4=>?_
 have noF:∀ {s:Shared} {oe:Obj} {vs:Array Value},Inv X pins σ H' s->s.heap.get? a = some oe->oe.data = .fields vs->a ∉ X.fs:=fun {s oe vs} I he hd hb=>by
  obtain ⟨_,o,ho,hnf⟩:=I.funs.mem hb
  rw [he] at ho;cases ho;exact hnf vs hd
 have inn:∀ {s:Shared} {T fl},Inv X pins σ H' s->Tr s.heap a (.ref C) T fl->∃ oe,oe.cls = .ref C/\s.heap.get? a = some oe/\Inv (Exc X a oe) pins σ H' s:=fun {s T fl} I t=>by
  obtain ⟨oe,vs,oT,ts,he,hc,hd,_⟩:=t
  exact ⟨oe,hc.1,he,aEU I he ha fa.2.1 (noF I he hd) fun v z=>by rw [hd] at z;cases z⟩
 obtain ⟨o4,hc4,he4,J4⟩:=inn I4 t4
 refine wpAny_handleBy_cons (codeAny_handlers_test ?_) (by intro z;cases z)
 refine lT (X:=Exc X a o4) J4 hgc hcm ?_ hdc
 have LT:∀ M:Model,PySem.W.Looks M s4.heap (typeOf (.ref a)) (.ref C):=fun M=>hc4 ▸ (PySem.W.Looks.ld he4).andThen .now
 refine (PySem.W.exm_one J4.kIn (LT _) hmt).here ?_
 simp only [if_true]
 refine codeAny_handlers_suite_as ?_
 refine pX I4 t4 f3 fun s5 I5 t5=>?_
 obtain ⟨oe,vs,oT,tts,he5,hc5,hd5,_⟩:=t5
 refine yW (v:=.ref a) I5 hN hj (.inl hnl) rfl (fun s6 I6 ⟨b,hsb,hb⟩=>?_) (.inr hnl)
 have hne:a ≠ b:=by
  rcases hb with hb | hb
  ·rw [hb];exact fa.2.1
  ·exact fun z=>fa.2.2.2.1 n b hb z.symm
 have he6:s6.heap.get? a = some oe:=(hsb.2 a hne).trans he5
 have J6:Inv (Exc X a oe) pins (σ.set j (some (.ref a))) H' s6:=aEU I6 he6 ha fa.2.1 (noF I5 he5 hd5) fun v z=>by rw [hd5] at z;cases z
 have run:=hsu a oe ⟨hc5.1,hc5.2,_,hd5⟩ pins s6 (σ.set j (some (.ref a))) H' (aFf En j) J6 ⟨_,M1,De.un j,(re.ext ex).set iO j,hm'.sub sub,q a,(k.at ex).un j⟩
 refine wpAny_mono run (fun fl s7 h7=>?_) fun x s7 h7=>(hX x s7 h7).elim
 cases fl with
 | next =>
  obtain ⟨σ',H7,I7,q7⟩:=h7
  exact oG (uL ok I7) hN hj hnl fun s8 I8=>⟨_,H7,I8,q7⟩
 | brk =>
  obtain ⟨σ',H7,I7,q7⟩:=h7
  exact oG (uL ok I7) hN hj hnl fun s8 I8=>⟨_,H7,I8,q7⟩
 | cont =>
  obtain ⟨σ',H7,I7,q7⟩:=h7
  exact oG (uL ok I7) hN hj hnl fun s8 I8=>⟨_,H7,I8,q7⟩
 | ret u =>
  obtain ⟨v,σ',H7,I7,r7,q7⟩:=h7
  exact oG (uL ok I7) hN hj hnl fun s8 I8=>⟨v,_,H7,I8,r7,q7⟩
theorem aF5 {pins:List (Addr × Obj)} {σ:L2.St} {H1:Hp} {s1:Shared} {M1:DM} {ds:List D} {us:List Value} {vs:List V} {Q:Value->Shared->Prop} {E:Value->Shared->Prop} {f':Addr} {Q':DQ}
  (hH:mO X.prog X.w X.K X.mg X.base k1 f ps C cond) (hh:Has X.prog X.w X.K X.mg X.base k2 f ps sp) (hr:eQ k X.A) (hk1:k1<=k) (hk2:k2<=k) (hmf:X.mg f = some (.ref f'))
  (I1:Inv X pins σ H1 s1) (rv:bR vs us) (rs:bK X.K H1 ds vs) (hm1:cG X.K M1 H1)
  (q:(cond ds M1/\∀ ev s',CXr X.prog X.w X.stack H1 s1 (fun c _ H'=>c = .ref C/\∃ M',cG X.K M' H'/\bG M1 M') ev s'->E ev s') ∨ sp ds M1 Q')
  (hQ:∀ u s',EP X pins σ (LQ X.K H1 Q') u s'->Q u s'):wpAny (model X.prog X.w) X.A (call (.ref f') us) Q E s1:=by
 rcases q with ⟨q,hE⟩ | q
 ·obtain ⟨f1,fd,F,hm,_,hb⟩:=hH
  have hf:f1 = f':=by have:=hm.symm.trans hmf;cases this;rfl
  subst hf
  have hsp:spX X.K C cond vs H1 (fun _ _=>False) (fun c _ H'=>c = .ref C/\∃ M',cG X.K M' H'/\bG M1 M'):=⟨ds,M1,rs,hm1,q,fun M' H' a b=>⟨rfl,M',a,b⟩⟩
  have hl:(us ++ []).length = ps.length:=by rw [List.append_nil,<- rv.length];exact F.len _ _ _ _ hsp
  have hbb:=hb s1 us I1.kIn hl
  rw [List.append_nil] at hbb
  refine wpAny_call (codeAny_mono (F.run X.A X.stack s1 H1 ⟨us,[]⟩ us vs _ _ (hr.mono hk1) I1.env0 hbb rv hsp) fun r s' hq=>?_)
  cases r with
  | error ev=>exact hE ev s' hq
  | ok fl =>
   cases fl with
   | ret u=>obtain ⟨_,_,_,_,_,_,_,z⟩:=(show CE _ _ _ _ _ _ _ _ from hq);exact z.elim
   | next=>exact False.elim hq
   | brk=>exact False.elim hq
   | cont=>exact False.elim hq
 ·obtain ⟨f1,fd,F,hm,_,hb⟩:=hh
  have hf:f1 = f':=by have:=hm.symm.trans hmf;cases this;rfl
  subst hf
  have hsp:qZ X.K sp vs H1 (LQ X.K H1 Q') (fun _ _ _=>False):=⟨ds,M1,Q',rs,hm1,q,fun v H' z=>z⟩
  have hl:(us ++ []).length = ps.length:=by rw [List.append_nil,<- rv.length];exact F.len _ _ _ _ hsp
  have hbb:=hb s1 us I1.kIn hl
  rw [List.append_nil] at hbb
  refine wpAny_call (codeAny_mono (F.run X.A X.stack s1 H1 ⟨us,[]⟩ us vs _ _ (hr.mono hk2) I1.env0 hbb rv hsp) fun r s' hq=>?_)
  cases r with
  | error ev=>exact False.elim hq
  | ok fl =>
   cases fl with
   | ret u=>exact hQ u s' (I1.after hq)
   | next=>exact False.elim hq
   | brk=>exact False.elim hq
   | cont=>exact False.elim hq
end
section
open PySem.W PySem.Calls
theorem aEG {K:PySem.W.Frag} {x t c:Value} {H:Heap->Prop} (ty:∀ (M:Model) (h:Heap),H h->Looks M h (typeOf x) t) (e:kitOne K t c = some true):Answers (fun s=>K.In s.heap/\H s.heap) x c true:=by
 intro dep tk prog w A R s hs
 obtain ⟨h0,g,d,tt,os⟩:=s
 obtain ⟨⟨X,p⟩,hq⟩:=hs
 have LT:=ty (model prog w) h0 p
 unfold kitOne at e
 unfold Builtin.«isinstance.nested»
 refine wpAny_bind (LT.at ?_)
 by_cases q:(t == c) = true
 ·rw [if_pos q]
  first
   | ((repeat lk);exact hq tt)
   | exact wpAny_bind (wpAny_rule (hq tt))
   | exact wpAny_bind (wpAny_rule (wpAny_pure (hq tt)))
 ·rw [if_neg q] at e
  rw [if_neg q]
  obtain ⟨hty,his,hsub⟩:=kit_cls (M:=model prog w) X e
  have LI:Looks (model prog w) h0 (isInstance x c) true:=LT.andThen hsub
  refine wpAny_bind (hty.at ?_)
  rw [if_pos (by decide)]
  k_delta "plainIsInstance"
  refine wpAny_bind (wpAny_bind (his.at ?_))
  simp only [Bool.not_true,Bool.false_eq_true,if_false]
  refine wpAny_bind (LI.at ?_)
  first
   | exact wpAny_pure (wpAny_pure (hq tt))
   | (simp only [if_true];first | exact wpAny_pure (wpAny_pure (hq tt)) | exact wpAny_pure (hq tt) | exact wpAny_bind (wpAny_pure (wpAny_pure (hq tt))))
theorem aBv {K:PySem.W.Frag} {x t c:Value} {H:Heap->Prop} {prog:Program} {w:World} {A:Around} {E:Value->Shared->Prop} {s:Shared} {Q:Value->Shared->Prop} (ty:∀ (M:Model) (h:Heap),H h->Looks M h (typeOf x) t) (X:K.In s.heap) (p:H s.heap)
  (e:kitOne K t c = some true) (hx:x ≠ .builtin "__main__.__loader__#opaque") (h:∀ tk,Q (.bool true) { s with toks:=tk }):wpAny (model prog w) A (call (.builtin "isinstance") [x,c]) Q E s :=
 call_isinstance (S:=fun _ R s=>(K.In s.heap/\H s.heap)/\∀ tk,R (.ok (.ret (.bool true))) { s with toks:=tk })
  (fun prog w A R s hs=>isinstance_outer (aEG ty e 0 _ prog w A R s hs) hx) ⟨⟨X,p⟩,h⟩
end
theorem aEa {K:PySem.W.Frag} {t:Value}:PySem.W.kitOne K t t = some true:=by unfold PySem.W.kitOne;rw [if_pos (beq_self_eq_true t)]
noncomputable def aEv (j:Nat) (a:Addr):DE:=fun ρ M Q=>ρ[j]? = some (some (.ref a))/\Q (.bl true) M
section
variable {X:Cx} {n c:Str} {C Cc a:Addr} {o:Obj} {p p1 p2 pos:Pos} {j:Nat}
theorem aKe (ho:ExO o C) (hcc:tP X.K X.mg c Cc) (hki:PySem.W.kitOne X.K (.ref C) (.ref Cc) = some true) (hmi:X.mg "isinstance" = none) (hj:X.N[j]? = some n:=by rfl) (hnl:Vis X.env.scope n:=by first | exact Or.inl rfl | exact Or.inr (Or.inl rfl) | exact Or.inr (Or.inr rfl))
  (hgi:Gl X "isinstance":=by rfl) (hgc:Gl X c:=by rfl) (hd1:(n == ("__debug__":Str)) = false:=by decide) (hd2:(n == ("__classdict__":Str)) = false:=by decide) (hd3:(c == ("__debug__":Str)) = false:=by decide)
  (hs:∀ env:Env,starEach [.Name n p1,.Name c p2] env = (false,eval (.Name n p1) env) :: starEach [.Name c p2] env:=by intro _;rfl) (hs2:∀ env:Env,starEach [.Name c p2] env = (false,eval (.Name c p2) env) :: starEach [] env:=by intro _;rfl)
  (hpl:(backTo pos (starEach [.Name c p2] X.env)).any (·.1) = false:=by rfl) :
  PDE (Exc X a o) (.Call (.Name "isinstance" p) [.Name n p1,.Name c p2] [] pos) (aEv j a):=by
 have hc:lX (Exc X a o) (.builtin "isinstance") fun vs H Q=>vs = [.ref a,.ref Cc]/\Q (.bl true) H:=by
  intro pins s σ H xs us Q I rs ⟨e,q⟩
  subst e
  obtain ⟨u1,us1,rfl,r1,rs1⟩:∃ u1 us1,us = u1 :: us1/\bW (.ref a) u1/\bR [.ref Cc] us1:=by cases rs with | cons r t=>exact ⟨_,_,rfl,r,t⟩
  obtain ⟨u2,us2,rfl,r2,rs2⟩:∃ u2 us2,us1 = u2 :: us2/\bW (.ref Cc) u2/\bR [] us2:=by cases rs1 with | cons r t=>exact ⟨_,_,rfl,r,t⟩
  obtain rfl:us2 = []:=by cases rs2;rfl
  obtain rfl:u1 = Value.ref a:=r1
  obtain rfl:u2 = Value.ref Cc:=r2
  have pn:=I.pin (a,o) (List.mem_append_left _ (List.mem_cons_self))
  exact aBv (K:=X.K) (H:=fun h=>h.get? a = some o) (fun M h e=>ho.1 ▸ (PySem.W.Looks.ld e).andThen .now) I.kIn pn.1 hki (fun z=>nomatch z) fun tk=>⟨.bl true,H,I.tok tk,rfl,q⟩
 refine cD (wY (X:=Exc X a o) hc hgi hmi rfl (qW (aB7 (X:=Exc X a o) (i:=j) hj hnl hd1 hd2) (qW (aC5 (X:=Exc X a o) (v:=.ref Cc) hgc hcc.1 rfl hd3) aB2 (hs2 _)) (hs _)) (by decide) (by decide) (hs _) hpl) fun σ H Q ⟨ρ,M,Q',re,hm,⟨e,q⟩,k⟩=>?_
 obtain ⟨v,e1,rv⟩:=re.get j _ e
 obtain rfl:=aW rv
 exact ⟨_,e1,rfl,k _ H ⟨_,M,eW,hm,.refl H,q⟩⟩
theorem aGO {T:String} (ho:ExO o C) (hki:PySem.W.kitOne X.K (.ref C) (.type T) = some true) (hmi:X.mg "isinstance" = none) (hmc:X.mg c = none) (hv:bootBuiltins c = some (.type T):=by rfl) (hj:X.N[j]? = some n:=by rfl) (hnl:Vis X.env.scope n:=by first | exact Or.inl rfl | exact Or.inr (Or.inl rfl) | exact Or.inr (Or.inr rfl))
  (hgi:Gl X "isinstance":=by rfl) (hgc:Gl X c:=by rfl) (hnn:c ≠ "__name__":=by decide) (hd1:(n == ("__debug__":Str)) = false:=by decide) (hd2:(n == ("__classdict__":Str)) = false:=by decide) (hd3:(c == ("__debug__":Str)) = false:=by decide)
  (hs:∀ env:Env,starEach [.Name n p1,.Name c p2] env = (false,eval (.Name n p1) env) :: starEach [.Name c p2] env:=by intro _;rfl) (hs2:∀ env:Env,starEach [.Name c p2] env = (false,eval (.Name c p2) env) :: starEach [] env:=by intro _;rfl)
  (hpl:(backTo pos (starEach [.Name c p2] X.env)).any (·.1) = false:=by rfl) :
  PDE (Exc X a o) (.Call (.Name "isinstance" p) [.Name n p1,.Name c p2] [] pos) (aEv j a):=by
 have hc:lX (Exc X a o) (.builtin "isinstance") fun vs H Q=>vs = [.ref a,.ty T]/\Q (.bl true) H:=by
  intro pins s σ H xs us Q I rs ⟨e,q⟩
  subst e
  obtain ⟨u1,us1,rfl,r1,rs1⟩:∃ u1 us1,us = u1 :: us1/\bW (.ref a) u1/\bR [.ty T] us1:=by cases rs with | cons r t=>exact ⟨_,_,rfl,r,t⟩
  obtain ⟨u2,us2,rfl,r2,rs2⟩:∃ u2 us2,us1 = u2 :: us2/\bW (.ty T) u2/\bR [] us2:=by cases rs1 with | cons r t=>exact ⟨_,_,rfl,r,t⟩
  obtain rfl:us2 = []:=by cases rs2;rfl
  obtain rfl:u1 = Value.ref a:=r1
  obtain rfl:u2 = Value.type T:=r2
  have pn:=I.pin (a,o) (List.mem_append_left _ (List.mem_cons_self))
  exact aBv (K:=X.K) (H:=fun h=>h.get? a = some o) (fun M h e=>ho.1 ▸ (PySem.W.Looks.ld e).andThen .now) I.kIn pn.1 hki (fun z=>nomatch z) fun tk=>⟨.bl true,H,I.tok tk,rfl,q⟩
 refine cD (wY (X:=Exc X a o) hc hgi hmi rfl (qW (aB7 (X:=Exc X a o) (i:=j) hj hnl hd1 hd2) (qW (aG2 (X:=Exc X a o) (v:=.ty T) hgc hmc hv rfl hnn hd3) aB2 (hs2 _)) (hs _)) (by decide) (by decide) (hs _) hpl) fun σ H Q ⟨ρ,M,Q',re,hm,⟨e,q⟩,k⟩=>?_
 obtain ⟨v,e1,rv⟩:=re.get j _ e
 obtain rfl:=aW rv
 exact ⟨_,e1,rfl,k _ H ⟨_,M,eW,hm,.refl H,q⟩⟩
end
section
open PySem.W PySem.Calls
variable {prog:Program} {w:World} {A:Around} {E:Value->Shared->Prop} {s:Shared} {K:Frag} {x C D:Addr} {ox:Obj}
structure aK5 (K:Frag) (D:Addr):Prop where
 ga:findIn K (.ref D) "__getattribute__" = some (some (.builtin "BaseException.__getattribute__"))
 gn:findIn K (.ref D) "__getattr__" = some none
 cl:findIn K (.ref D) "__class__" = some (some (.builtin "object.__class__"))
 nn:specialIn K (.builtin "object.__class__") "__get__" = some (some (.builtin "getset_descriptor.__get__"))
 tk:takesIn K (.builtin "object.__class__") = some true
 mo:mroIn K D (.type "object") = some true
 mb:mroIn K D (.type "BaseException") = some true
end
section
variable {X:Cx} {a C:Addr} {o:Obj}
end
end Dd
namespace Dd
open PySem PySem.Spec PyProof.Rows L2
section
open PySem.SeqAt
open PySem.AutoSeq1 (wpAny_loadPart')
open PySem.MeetsSeq PySem.MeetsSeq2 PySem.MeetsSeq3
end
section
variable {X:Cx} {j:Nat}
theorem aHx {K:PySem.W.Frag} {H:Hp} {a b:Int} {xs:List V} {its:List Value} (r:bK K H [.int a,.int b] xs) (v:bR xs its):∃ t u,its = [.int a t,.int b u]:=by
 obtain ⟨v1,r1,rfl,h1,r1'⟩:=aY r
 obtain rfl:=aU h1
 obtain ⟨v2,r2,rfl,h2,r2'⟩:=aY r1'
 obtain rfl:=aU h2
 obtain rfl:=bM r2'
 cases v with
 | cons q1 w1 =>
  cases w1 with
  | cons q2 w2 =>
   cases w2
   obtain ⟨t,rfl⟩:=q1
   obtain ⟨u,rfl⟩:=q2
   exact ⟨t,u,rfl⟩
end
end Dd
namespace Dd
open PySem PySem.Spec PyProof.Rows L2
noncomputable def aJ3 (t u:DS):DS:=fun D ρ M=>∃ R:cB->DM->Prop,t { D with nx:=R } ρ M/\∀ ρ' M',R ρ' M'->u D ρ' M'
section
variable {X:Cx} {st:Stmt} {cE:List Stmt} {t u:DS}
theorem aFO (h1:PDS X st t) (h2:jS X cE u):jS X (st :: cE) (aJ3 t u) :=
 aAC (aA8 h1 h2) fun E σ H ⟨ρ,M,D,re,hm,⟨R,q,k2⟩,k⟩ =>
  ⟨ρ,M,{ D with nx:=R },re,hm,q,⟨fun σ' H' ⟨ρ',M',re',hm',ex,r⟩=>⟨ρ',M',D,re',hm',k2 ρ' M' r,k.at ex⟩,k.rt,k.bk,k.ct⟩⟩
end
end Dd
namespace Dd
open PySem PySem.Spec PyProof.Rows L2
section
variable {X:Cx} {e:Expr} {es:List Expr} {t:DA} {x f cm:Str} {ps:List Str} {sp:DSp} {cond:List D->DM->Prop} {C Cm:Addr} {k1 k2 k i:Nat} {ts:DS} {b0:Stmt} {suite:List Stmt} {px pf pc pa pcm ph pos:Pos}
end
end Dd
namespace Dd
open PySem PySem.Spec PyProof.Rows L2
@[irreducible] noncomputable def ZE (X:Cx) (e:Expr) (t:DE):Prop:=PDE X e t
theorem ZE.o {X:Cx} {e:Expr} {t:DE} (h:ZE X e t):PDE X e t:=by unfold ZE at h;exact h
theorem ZE.i {X:Cx} {e:Expr} {t:DE} (h:PDE X e t):ZE X e t:=by unfold ZE;exact h
@[irreducible] noncomputable def ZT (X:Cx) (e:Expr) (t:DT):Prop:=PDT X e t
theorem ZT.o {X:Cx} {e:Expr} {t:DT} (h:ZT X e t):PDT X e t:=by unfold ZT at h;exact h
theorem ZT.i {X:Cx} {e:Expr} {t:DT} (h:PDT X e t):ZT X e t:=by unfold ZT;exact h
@[irreducible] noncomputable def ZW (X:Cx) (e:Expr) (t:DT):Prop:=PDW X e t
theorem ZW.o {X:Cx} {e:Expr} {t:DT} (h:ZW X e t):PDW X e t:=by unfold ZW at h;exact h
theorem ZW.i {X:Cx} {e:Expr} {t:DT} (h:PDW X e t):ZW X e t:=by unfold ZW;exact h
@[irreducible] noncomputable def ZA (X:Cx) (e:List Expr) (t:DA):Prop:=PDA X e t
theorem ZA.o {X:Cx} {e:List Expr} {t:DA} (h:ZA X e t):PDA X e t:=by unfold ZA at h;exact h
theorem ZA.i {X:Cx} {e:List Expr} {t:DA} (h:PDA X e t):ZA X e t:=by unfold ZA;exact h
@[irreducible] noncomputable def ZS (X:Cx) (e:Stmt) (t:DS):Prop:=PDS X e t
theorem ZS.o {X:Cx} {e:Stmt} {t:DS} (h:ZS X e t):PDS X e t:=by unfold ZS at h;exact h
theorem ZS.i {X:Cx} {e:Stmt} {t:DS} (h:PDS X e t):ZS X e t:=by unfold ZS;exact h
@[irreducible] noncomputable def ZSs (X:Cx) (e:List Stmt) (t:DS):Prop:=jS X e t
theorem ZSs.o {X:Cx} {e:List Stmt} {t:DS} (h:ZSs X e t):jS X e t:=by unfold ZSs at h;exact h
theorem ZSs.i {X:Cx} {e:List Stmt} {t:DS} (h:jS X e t):ZSs X e t:=by unfold ZSs;exact h
@[irreducible] noncomputable def ZG (X:Cx) (e:Expr) (t:DG):Prop:=PDG X e t
theorem ZG.o {X:Cx} {e:Expr} {t:DG} (h:ZG X e t):PDG X e t:=by unfold ZG at h;exact h
theorem ZG.i {X:Cx} {e:Expr} {t:DG} (h:PDG X e t):ZG X e t:=by unfold ZG;exact h
@[irreducible] noncomputable def ZGs (X:Cx) (e:List Expr) (t:DGs):Prop:=aBw X e t
theorem ZGs.o {X:Cx} {e:List Expr} {t:DGs} (h:ZGs X e t):aBw X e t:=by unfold ZGs at h;exact h
theorem ZGs.i {X:Cx} {e:List Expr} {t:DGs} (h:aBw X e t):ZGs X e t:=by unfold ZGs;exact h
@[irreducible] noncomputable def ZO (X:Cx) (e:Option Expr) (t:DO):Prop:=PO X e (aAN X.K t)
theorem ZO.o {X:Cx} {e:Option Expr} {t:DO} (h:ZO X e t):PO X e (aAN X.K t):=by unfold ZO at h;exact h
theorem ZO.i {X:Cx} {e:Option Expr} {t:DO} (h:PO X e (aAN X.K t)):ZO X e t:=by unfold ZO;exact h
section
variable {K:PySem.W.Frag} {H H':Hp}
end
section
variable {K:PySem.W.Frag} {H H':Hp} {M M':DM}
end
section
variable {K:PySem.W.Frag} {H H':Hp} {ρ:cB} {σ:L2.St}
end
section
variable {K:PySem.W.Frag} {H H1:Hp}
end
section
variable {X:Cx} {e:Expr} {st:Stmt} {sts:List Stmt}
end
section
variable {X:Cx} {a b c e:Expr} {es:List Expr} {ta tb tc te:DE} {tA tB:DT} {t:DA} {pos:Pos}
theorem aB (i:Nat) {x:Str} {pos:Pos} (hN:X.N[i]? = some x:=by rfl) (hv:Vis X.env.scope x:=by first | exact Or.inl rfl | exact Or.inr (Or.inl rfl) | exact Or.inr (Or.inr rfl)) (hd:(x == ("__debug__":Str)) = false:=by decide) (hcd:(x == ("__classdict__":Str)) = false:=by decide):ZE X (.Name x pos) (zZ i):=.i (aJK i hN hv hd hcd)
theorem aC {i j pos}:ZE X (.Constant (.int i) j pos) (dC (.int i)):=.i (aI7 (i:=i) (j:=j) (pos:=pos))
theorem aCl {i j pos}:ZE X (.Constant (.bool i) j pos) (dC (.bl i)):=.i (aLB (i:=i) (j:=j) (pos:=pos))
theorem fL {j pos}:ZE X (.Constant .none j pos) (dC .non):=.i (aIh (j:=j) (pos:=pos))
theorem aN {x j pos}:ZE X (.Constant (.str x) j pos) (dC (.str x)):=.i (aJU)
theorem aL {op:Operator} {r:D2} (ho:OpD X (binaryOp op) r) (ha:ZE X a ta) (hb:ZE X b tb):ZE X (.BinOp a op b pos) (dOp r ta tb):=.i (aKk (op:=op) ho ha.o hb.o)
theorem lU {op:CmpOp} {r:D2} (ho:OpD X (compareOp op) r) (ha:ZE X a ta) (hb:ZE X b tb) (hm:behindInMarks op b = false:=by exact aAl _):ZE X (.Compare a [op] [b] pos) (dOp r ta tb):=.i (aIf (op:=op) ho ha.o hb.o hm)
theorem aR {op:CmpOp} {r:D2} (ho:OpD X (compareOp op) r) (ha:ZE X a ta) (hb:ZE X b tb) (hm:behindInMarks op b = false:=by exact aAl _):ZT X (.Compare a [op] [b] pos) (yK (dOp r ta tb)):=.i (aJ8 (op:=op) ho ha.o hb.o hm)
theorem tY (h:ZE X e te) (he:∀ whole,isTrue e X.env whole = (do let v <- whole;standAt e.pos;holding [v] (truthy v)):=by intro _;rfl):ZT X e (yK te):=.i (aIc h.o he)
variable {cE:List Expr}
theorem kF (ha:ZT X a tA):ZW X (.BoolOp .And [a] pos) tA:=.i (aHi ha.o)
theorem aAL (ha:ZT X a tA):ZW X (.BoolOp .Or [a] pos) tA:=.i (aIq ha.o)
theorem lQ (ha:ZT X a tA) (hb:ZW X (.BoolOp .And (b :: cE) pos) tB):ZW X (.BoolOp .And (a :: b :: cE) pos) (aHP tA tB):=.i (aJZ ha.o hb.o)
theorem aBM (ha:ZT X a tA) (hb:ZW X (.BoolOp .Or (b :: cE) pos) tB):ZW X (.BoolOp .Or (a :: b :: cE) pos) (dOr tA tB):=.i (aKR ha.o hb.o)
theorem qO (h:ZW X e tA):ZT X e tA:=.i (aLO h.o)
theorem aCF {op} (h:ZE X a ta):ZE X (.BoolOp op [a] pos) ta:=.i (aIr (op:=op) h.o)
theorem aHh (ha:ZE X a ta) (hb:ZE X (.BoolOp .And (b :: cE) pos) tb):ZE X (.BoolOp .And (a :: b :: cE) pos) (aE5 ta tb):=.i (aJ6 ha.o hb.o)
theorem aIb (ha:ZE X a ta) (hb:ZE X (.BoolOp .Or (b :: cE) pos) tb):ZE X (.BoolOp .Or (a :: b :: cE) pos) (aIM ta tb):=.i (aKF ha.o hb.o)
theorem aC7 (ha:ZE X a ta):ZE X (.UnaryOp .Not a pos) (aDV ta):=.i (aJo ha.o)
theorem gR (hc:ZT X c tA) (ha:ZE X a ta) (hb:ZE X b tb):ZE X (.IfExp c a b pos) (aIY tA ta tb):=.i (aEX hc.o ha.o hb.o)
theorem aD :ZA X [] aAo:=.i (zY)
theorem aA (ha:ZE X e te) (hr:ZA X es t) (hs:starEach (e :: es) X.env = (false,eval e X.env) :: starEach es X.env:=by rfl):ZA X (e :: es) (zK te t):=.i (uH ha.o hr.o hs)
theorem aK {x1} (h:ZA X es t):ZE X (.Tuple es x1 pos) (aIz t):=.i (aJ1 h.o)
theorem bN (h:ZA X es t):ZE X (.List es pos) (aH5 t):=.i (aI1 h.o)
end
section
variable {X:Cx} {st:Stmt} {cE:List Stmt} {t u:DS} {e:Expr} {te:DE} {pos:Pos}
theorem aX :ZSs X [] aEr:=.i (aGV)
theorem aE (h1:ZS X st t) (h2:ZSs X cE u):ZSs X (st :: cE) (aJH t u):=.i (aE9 h1.o h2.o)
theorem aF (h1:ZS X st t):ZSs X [st] t:=.i (aG1 h1.o)
theorem cX (he:ZE X e te) (hs:swapsWith e none pos.line X.env = pure false:=by rfl):ZS X (.Expr e pos) (aEt te):=.i (aHf he.o hs)
theorem aM (he:ZE X e te):ZS X (.Return (some e) pos) (aI2 te):=.i (aJx he.o)
theorem bA {c:Expr} {a b:List Stmt} {tc:DT} (hc:ZT X c tc) (ha:ZSs X a t) (hb:ZSs X b u):ZS X (.If c a b pos) (aJd tc t u):=.i (aLw hc.o ha.o hb.o)
theorem kP :ZS X st aCa:=.i (aFq)
end
section
variable {X:Cx} {pos:Pos} {e tg:Expr} {es:List Expr} {te:DE}
theorem aQ {i:Nat} {x:Str} (hN:X.N.Nodup) (hi:X.N[i]? = some x:=by rfl) (hx:Loc X.env.scope x:=by first | exact Or.inl rfl | exact Or.inr rfl) (hf:X.fn x = true ∨ X.env.scope.names.lookup x = some .local:=by first | exact .inl rfl | exact .inr rfl | assumption):ZG X (.Name x pos) (gN i):=.i (aHa (i:=i) hN hi hx hf)
theorem dG :ZGs X [] gNl:=.i (aGp)
theorem aV {t:DG} {u:DGs} (h1:ZG X e t) (h2:ZGs X es u) (hs:(assignEach (e :: es) X.env).map (·.2) = assign e X.env :: (assignEach es X.env).map (·.2):=by rfl):ZGs X (e :: es) (gCn t u):=.i (aEb h1.o h2.o hs)
theorem eT {g:DG} (he:ZE X e te) (hg:ZG X tg g) (hs:swapsWithSole [tg] e pos.line X.env = pure false:=by rfl) (hw:swappedStores [tg] e X.env = pure none:=by rfl) (h1:(assignEach [tg] X.env).map (·.2) = [assign tg X.env]:=by rfl):ZS X (.Assign [tg] e pos) (aDj te g):=.i (aJD he.o hg.o hs hw h1)
theorem aO {i:Nat} {x:Str} {pos':Pos} (hN:X.N.Nodup) (he:ZE X e te) (hi:X.N[i]? = some x:=by rfl) (hx:Loc X.env.scope x:=by first | exact Or.inl rfl | exact Or.inr rfl) (hs:swapsWith e (some (.Name x pos')) pos.line X.env = pure false:=by rfl) (hf:X.fn x = true ∨ X.env.scope.names.lookup x = some .local:=by first | exact .inl rfl | exact .inr rfl | assumption):ZS X (.Assign [.Name x pos'] e pos) (aDj te (gN i)):=.i (aJ7 (i:=i) hN he.o hi hx hs hf)
theorem rA {i j:Nat} {x y:Str} {a b:Expr} {ta:DA} {px py pt:Pos} {kt k2 pt2} (hc:X.calm = true) (hN:X.N.Nodup) (ha:ZA X [a,b] ta) (hi:X.N[i]? = some x:=by rfl) (hj:X.N[j]? = some y:=by rfl) (hij:i ≠ j:=by decide) (hx:X.env.scope.names.lookup x = some .local:=by rfl) (hy:X.env.scope.names.lookup y = some .local:=by rfl) (hw:swappedStores [.Tuple [.Name x px,.Name y py] kt pt] (.Tuple [a,b] k2 pt2) X.env = pure (some [x,y]):=by rfl) (hs:swapsWithSole [.Tuple [.Name x px,.Name y py] kt pt] (.Tuple [a,b] k2 pt2) pos.line X.env = pure false:=by rfl):ZS X (.Assign [.Tuple [.Name x px,.Name y py] kt pt] (.Tuple [a,b] k2 pt2) pos) (aIE i j ta):=.i (aIw (i:=i) (j:=j) hc hN ha.o hi hj hij hx hy hw hs)
end
section
variable {X:Cx} {pos:Pos}
theorem kD {c:Expr} {body:List Stmt} {tc:DT} {tb:DS} (hp:PassesOwn (model X.prog X.w) X.A X.env X.xe) (hc:ZT X c tc) (hb:ZSs X body tb):ZS X (.While c body [] pos) (aBV tc tb):=.i (aFs hp hc.o hb.o)
variable {iter tg:Expr} {body:List Stmt} {tl:DE} {g:DG} {tb:DS}
end
section
variable {X:Cx} {pos:Pos} {iter tg:Expr} {body:List Stmt} {tl:DE} {g:DG} {tb:DS} {ta:DA}
theorem kK (hp:PassesOwn (model X.prog X.w) X.A X.env X.xe) (hc:X.calm = true) (hi:ZE X iter tl) (hg:ZG X tg g) (hb:ZSs X body tb) (hs:∀ x,foldedSetIterable iter X.env x = pure x:=by intro _;rfl):ZS X (.For tg iter body [] pos) (aBc tl g tb):=.i (aCC hp hc hi.o hg.o hb.o hs)
theorem aBh (hp:PassesOwn (model X.prog X.w) X.A X.env X.xe) (hc:X.calm = true) (hi:ZE X iter tl) (hg:ZG X tg g) (hb:ZSs X body tb) (hs:∀ x,foldedSetIterable iter X.env x = pure x:=by intro _;rfl):ZS X (.For tg iter body [] pos) (aA2 tl g tb):=.i (aCO hp hc hi.o hg.o hb.o hs)
theorem qX {a:Expr} {p pos':Pos} (hp:PassesOwn (model X.prog X.w) X.A X.env X.xe) (hc:X.calm = true) (hmg:X.mg "range" = none) (ha:ZA X [a] ta) (hg:ZG X tg g) (hb:ZSs X body tb) (hgl:Gl X "range":=by rfl) (hse:starEach [a] X.env = [(false,eval a X.env)]:=by rfl) (hs:∀ x,foldedSetIterable (.Call (.Name "range" p) [a] [] pos') X.env x = pure x:=by intro _;rfl):ZS X (.For tg (.Call (.Name "range" p) [a] [] pos') body [] pos) (aDQ ta g tb):=.i (aGm hp hc hmg ha.o hg.o hb.o hgl hse hs)
end
section
variable {X:Cx} {pins:List (Addr × Obj)} {σ:L2.St} {H:Hp} {s:Shared}
end
section
variable {X:Cx} {a b e o:Expr} {es:List Expr} {ta tb te to:DE} {t:DA} {pos:Pos}
theorem eI (ha:ZE X a ta):ZE X (.UnaryOp .USub a pos) (aJp ta):=.i (aJQ ha.o)
theorem aH (ha:ZE X a ta) (hb:ZE X b tb) (hs:qI b:=by exact fun _ _=>rfl):ZE X (.Subscript a b pos) (dOp jZ ta tb):=.i (aKi ha.o hb.o hs)
theorem wD :ZO X none aJu:=.i (aFY)
theorem iW (h:ZE X e te):ZO X (some e) (dPt te):=.i (aF3 h.o)
variable {lo hi:Option Expr} {tl th:DO} {p2:Pos}
theorem zI (he:ZE X e te) (hl:ZO X lo tl) (hu:ZO X hi th):ZE X (.Subscript e (.Slice lo hi none p2) pos) (dSl te tl th):=.i (aEe he.o hl.o hu.o)
variable {CX:CXT} {k:Nat} {f:Addr} {fd:FuncData} {ps:List Str} {sp:DSp} {E:XK} {x:Str} {p:Pos}
theorem eN {id:String} {r:DSp} (hc:gK X (.builtin id) r) (hm:X.mg x = none) (ha:ZA X (e :: es) t) (hv:bootBuiltins x = some (.builtin id):=by rfl) (hg:Gl X x:=by rfl) (hn:x ≠ "__name__":=by decide) (hdb:(x == ("__debug__":Str)) = false:=by decide) (he:starEach (e :: es) X.env = (false,eval e X.env) :: starEach es X.env:=by rfl) (hpl:(backTo pos (starEach es X.env)).any (·.1) = false:=by rfl):ZE X (.Call (.Name x p) (e :: es) [] pos) (lZ r t):=.i (aD0 (id:=id) hc hm ha.o hv hg hn hdb he hpl)
theorem dU {T:String} {r:DSp} (hc:gK X (.type T) r) (hm:X.mg x = none) (ha:ZA X (e :: es) t) (hv:bootBuiltins x = some (.type T):=by rfl) (hg:Gl X x:=by rfl) (hn:x ≠ "__name__":=by decide) (hdb:(x == ("__debug__":Str)) = false:=by decide) (he:starEach (e :: es) X.env = (false,eval e X.env) :: starEach es X.env:=by rfl) (hpl:(backTo pos (starEach es X.env)).any (·.1) = false:=by rfl):ZE X (.Call (.Name x p) (e :: es) [] pos) (lZ r t):=.i (aDx (T:=T) hc hm ha.o hv hg hn hdb he hpl)
end
section
variable {X:Cx} {a b e o:Expr} {es:List Expr} {ta tb te to:DE} {t:DA} {pos:Pos}
theorem fR {apos cpos:Pos} (ho:ZE X o to) (he:ZE X e te) (hse:starEach [e] X.env = (false,eval e X.env) :: starEach [] X.env:=by rfl) (hbase:attributeBase o "append" X.env (eval o X.env) = eval o X.env:=by rfl) (hfew:((backTo cpos (starEach [e] X.env)).all (fun x=>!x.1) && (backToKw cpos (keywordEach [] X.env)).all (fun x=>x.1.isSome)
   && decide ([e].length + ([]:List Keyword).length + (if ([]:List Keyword).isEmpty then 0 else 1) < 30)) = true:=by rfl) (hline:(apos.endLine == cpos.line) = true:=by rfl) (hplain:(backTo cpos (starEach [] X.env)).any (·.1) = false:=by rfl):ZE X (.Call (.Attribute o "append" apos) [e] [] cpos) (aAx to te):=.i (aDo ho.o he.o hse hbase hfew hline hplain)
end
section
variable {P:Program} {w:World} {K:PySem.W.Frag} {mg:Str->Option Value} {base:Heap}
end
section
variable {P:Program} {w:World} {K:PySem.W.Frag} {mg:Str->Option Value} {base:Heap}
end
section
variable {X:Cx} {a b c e:Expr} {es:List Expr} {ta tb te:DE} {t:DA} {pos p:Pos} {x:Str} {ps:List Str} {sp:DSp} {k j:Nat}
theorem aG (h:Has X.prog X.w X.K X.mg X.base k x ps sp) (hr:eQ j X.A) (hkj:k<=j) (ha:ZA X (e :: es) t) (hg:Gl X x:=by rfl) (hdb:(x == ("__debug__":Str)) = false:=by decide) (he:starEach (e :: es) X.env = (false,eval e X.env) :: starEach es X.env:=by rfl) (hpl:(backTo pos (starEach es X.env)).any (·.1) = false:=by rfl):ZE X (.Call (.Name x p) (e :: es) [] pos) (lZ sp t):=.i (aEY h hr hkj ha.o hg hdb he hpl)
theorem pG (h:Has X.prog X.w X.K X.mg X.base k x ps sp) (hr:eQ j X.A) (hkj:k<=j) (hg:Gl X x:=by rfl) (hdb:(x == ("__debug__":Str)) = false:=by decide):ZE X (.Call (.Name x p) [] [] pos) (lZ sp aAo):=.i (aDA h hr hkj hg hdb)
theorem bD {d:D} (h:fP X.K X.mg x d) (hg:Gl X x:=by rfl) (hd:(x == ("__debug__":Str)) = false:=by decide):ZE X (.Name x pos) (dC d):=.i (aFC h hg hd)
theorem kE {i:Nat} {op:Operator} {g:Int->Int->Int} {pos':Pos} (ho:PIp X op (ipI g)) (hN:X.N.Nodup) (he:ZE X e te) (hi:X.N[i]? = some x:=by rfl) (hx:Loc X.env.scope x:=by first | exact Or.inl rfl | exact Or.inr rfl) (hf:X.fn x = true ∨ X.env.scope.names.lookup x = some .local:=by first | exact .inl rfl | exact .inr rfl | assumption):ZS X (.AugAssign (.Name x pos') op e pos) (aGg i te g):=.i (aF8 (i:=i) (op:=op) ho hN he.o hi hx hf)
end
section
variable {prog:Program} {w:World} {A:Around} {E:Value->Shared->Prop} {s:Shared}
end
section
variable {X:Cx} {pos:Pos} {e a b:Expr} {es:List Expr} {te ta tb:DE}
theorem eH {k:Nat} {t:DGs} {n:Nat} (hc:X.calm = true) (h:ZGs X es t) (hn:(assignEach es X.env).length = n:=by rfl) (hst:(assignEach es X.env).findIdx? (·.1) = none:=by rfl):ZG X (.Tuple es k pos) (gU n t):=.i (aJq (n:=n) hc h.o hn hst)
end
section
variable {M:DM} {Q:DQ} {g:Bool->Bool} {ds:List D} {i:Int} {a:Addr} {α:Type} {x0 x1 x2 x3 x4 x5:α} {l:List α}
end
section
variable {K:PySem.W.Frag} {H:Hp} {ρ:cB} {σ:L2.St}
end
section
variable {X:Cx} {g:DG} {te:DE}
variable {elt iter tg:Expr} {scope:Scope} {pos:Pos} {N':List Str} {fr:List (Option Nat)} {tl:DE} {ta:DA} {oN:List Str} {osc:Scope}
theorem oF (B:qR oN osc N' fr scope) (hc:X.calm = true) (hi:ZE X iter tl) (hg:∀ C s H fp pins,ZG (X.blk N' scope C s H fp pins) tg g) (he:∀ C s H fp pins,ZE (X.blk N' scope C s H fp pins) elt te) (hN:X.N = oN:=by rfl) (ho:X.env.scope = osc:=by rfl) (hs:∀ x,foldedSetIterable iter X.env x = pure x:=by intro _;rfl):ZE X (.ListComp elt [⟨tg,iter,[],0⟩] scope pos) (aII tl fr g te):=.i (aIU B hc hi.o (fun C s H fp pins=>(hg C s H fp pins).o) (fun C s H fp pins=>(he C s H fp pins).o) hN ho hs)
theorem aDb (B:qR oN osc N' fr scope) (hc:X.calm = true) (hi:ZE X iter tl) (hg:∀ C s H fp pins,ZG (X.blk N' scope C s H fp pins) tg g) (he:∀ C s H fp pins,ZE (X.blk N' scope C s H fp pins) elt te) (hN:X.N = oN:=by rfl) (ho:X.env.scope = osc:=by rfl) (hs:∀ x,foldedSetIterable iter X.env x = pure x:=by intro _;rfl):ZE X (.ListComp elt [⟨tg,iter,[],0⟩] scope pos) (aIv tl fr g te):=.i (aID B hc hi.o (fun C s H fp pins=>(hg C s H fp pins).o) (fun C s H fp pins=>(he C s H fp pins).o) hN ho hs)
end
variable {X:Cx}
section
variable {g:DG} {te:DE} {tb:DS} {Q:DQ} {ρ0:cB}
end
section
variable {e:Expr} {te:DE} {pos:Pos}
end
section
variable {X:Cx} {e:Expr} {te:DE} {pos p2:Pos} {lo hi:Option Expr} {tl th:DO}
end
section
variable {X:Cx} {a n:Expr} {ta:DE} {tn:DA} {pos p pos':Pos}
end
section
variable {X:Cx} {a b c e o:Expr} {es:List Expr} {ta tb tc te to:DE} {pos:Pos}
end
section
variable {X:Cx} {e k:Expr} {te tk:DE} {pos p2:Pos}
end
section
variable {X:Cx} {pos:Pos} {iter tg:Expr} {body:List Stmt} {tl:DE} {g:DG} {tb:DS} {ta:DA}
end
section
variable {X:Cx} {x:Str} {V:DM->Prop} {e:Expr} {es:List Expr} {t:DA} {np cpos pos:Pos}
theorem yN (R:rJ X x V) (ha:ZA X (e :: es) t) (hg:Gl X x:=by rfl) (hd:(x == ("__debug__":Str)) = false:=by decide) (he:starEach (e :: es) X.env = (false,eval e X.env) :: starEach es X.env:=by rfl) (hpl:(backTo cpos (starEach es X.env)).any (·.1) = false:=by rfl):ZS X (.Raise (some (.Call (.Name x np) (e :: es) [] cpos)) none pos) (aBW V t):=.i (aEI R ha.o hg hd he hpl)
end
section
variable {P:Program} {w:World} {K:PySem.W.Frag} {mg:Str->Option Value} {base:Heap}
end
section
variable {X:Cx} {pins:List (Addr × Obj)} {σ:L2.St} {H:Hp} {s:Shared} {a:Addr} {o:Obj}
end
section
variable {X:Cx} {a:Expr} {e:Expr} {es:List Expr} {t:DA} {x f n cm:Str} {ps:List Str} {sp:DSp} {cond:List D->DM->Prop} {C Cm:Addr} {k1 k2 k i j:Nat} {ts:Addr->DS} {b0:Stmt} {suite:List Stmt} {px pf pc pa pcm ph pos:Pos}
end
section
end
section
variable {X:Cx} {n c:Str} {C Cc a:Addr} {o:Obj} {p p1 p2 pos:Pos} {j:Nat}
theorem aF4 (ho:ExO o C) (hcc:tP X.K X.mg c Cc) (hki:PySem.W.kitOne X.K (.ref C) (.ref Cc) = some true) (hmi:X.mg "isinstance" = none) (hj:X.N[j]? = some n:=by rfl) (hnl:Vis X.env.scope n:=by first | exact Or.inl rfl | exact Or.inr (Or.inl rfl) | exact Or.inr (Or.inr rfl)) (hgi:Gl X "isinstance":=by rfl) (hgc:Gl X c:=by rfl) (hd1:(n == ("__debug__":Str)) = false:=by decide) (hd2:(n == ("__classdict__":Str)) = false:=by decide) (hd3:(c == ("__debug__":Str)) = false:=by decide) (hs:∀ env:Env,starEach [.Name n p1,.Name c p2] env = (false,eval (.Name n p1) env) :: starEach [.Name c p2] env:=by intro _;rfl) (hs2:∀ env:Env,starEach [.Name c p2] env = (false,eval (.Name c p2) env) :: starEach [] env:=by intro _;rfl) (hpl:(backTo pos (starEach [.Name c p2] X.env)).any (·.1) = false:=by rfl):ZE (Exc X a o) (.Call (.Name "isinstance" p) [.Name n p1,.Name c p2] [] pos) (aEv j a):=.i (aKe ho hcc hki hmi hj hnl hgi hgc hd1 hd2 hd3 hs hs2 hpl)
theorem aFc {T:String} (ho:ExO o C) (hki:PySem.W.kitOne X.K (.ref C) (.type T) = some true) (hmi:X.mg "isinstance" = none) (hmc:X.mg c = none) (hv:bootBuiltins c = some (.type T):=by rfl) (hj:X.N[j]? = some n:=by rfl) (hnl:Vis X.env.scope n:=by first | exact Or.inl rfl | exact Or.inr (Or.inl rfl) | exact Or.inr (Or.inr rfl)) (hgi:Gl X "isinstance":=by rfl) (hgc:Gl X c:=by rfl) (hnn:c ≠ "__name__":=by decide) (hd1:(n == ("__debug__":Str)) = false:=by decide) (hd2:(n == ("__classdict__":Str)) = false:=by decide) (hd3:(c == ("__debug__":Str)) = false:=by decide) (hs:∀ env:Env,starEach [.Name n p1,.Name c p2] env = (false,eval (.Name n p1) env) :: starEach [.Name c p2] env:=by intro _;rfl) (hs2:∀ env:Env,starEach [.Name c p2] env = (false,eval (.Name c p2) env) :: starEach [] env:=by intro _;rfl) (hpl:(backTo pos (starEach [.Name c p2] X.env)).any (·.1) = false:=by rfl):ZE (Exc X a o) (.Call (.Name "isinstance" p) [.Name n p1,.Name c p2] [] pos) (aEv j a):=.i (aGO (T:=T) ho hki hmi hmc hv hj hnl hgi hgc hnn hd1 hd2 hd3 hs hs2 hpl)
end
section
variable {prog:Program} {w:World} {A:Around} {E:Value->Shared->Prop} {s:Shared} {K:Frag} {x C D:Addr} {ox:Obj}
end
section
variable {X:Cx} {a C:Addr} {o:Obj}
end
section
end
section
variable {X:Cx} {j:Nat}
end
section
variable {X:Cx} {st:Stmt} {cE:List Stmt} {t u:DS}
theorem mV (h1:ZS X st t) (h2:ZSs X cE u):ZSs X (st :: cE) (aJ3 t u):=.i (aFO h1.o h2.o)
end
section
variable {X:Cx} {e:Expr} {es:List Expr} {t:DA} {x f cm:Str} {ps:List Str} {sp:DSp} {cond:List D->DM->Prop} {C Cm:Addr} {k1 k2 k i:Nat} {ts:DS} {b0:Stmt} {suite:List Stmt} {px pf pc pa pcm ph pos:Pos}
end
section
variable {P:Program} {w:World} {K:PySem.W.Frag} {mg:Str->Option Value} {base:Heap}
theorem Fun.okZ {x qual:Str} {st:Stmt} {f:Addr} {fd:FuncData} {N ps:List Str} {k:Nat} {sp:DSp} (F:L2.Fun K x qual st f fd) (S:aP N ps (aI st)) (len:∀ ds M Q,sp ds M Q->ds.length = ps.length)
  (hbody:∀ (cdv:Value) (A:Around) (outer:List Env) (s:Shared) (H:Hp) (ds:List D) (M:DM) (Q:DQ) (E:XK),eQ k (A.deeper (envOfC qual (aI st) s.heap.objs.size f cdv))->sp ds M Q ->
   ∃ t,ZSs (nS CX0 P w K mg base N qual (aI st) f cdv A outer s H E).nox (eS st) t/\t { nx:=fun _ M'=>Dn Q .non M',rt:=Dn Q } (iB N ds) M):jH P w K mg base CX0 (k + 1) f fd ps (qZ K sp) :=
 Fun.okD F S len fun cdv A outer s H ds M Q E hr h=>let ⟨t,h1,h2⟩:=hbody cdv A outer s H ds M Q E hr h;⟨t,h1.o,h2⟩
theorem Has.mkZ {x:Str} {st:Stmt} {N ps:List Str} {k:Nat} {sp:DSp} (h:bO K mg x st ps) (S:aP N ps (aI st)) (len:∀ ds M Q,sp ds M Q->ds.length = ps.length)
  (hbody:∀ (f:Addr) (cdv:Value) (A:Around) (outer:List Env) (s:Shared) (H:Hp) (ds:List D) (M:DM) (Q:DQ) (E:XK),eQ k (A.deeper (envOfC x (aI st) s.heap.objs.size f cdv))->sp ds M Q ->
   ∃ t,ZSs (nS CX0 P w K mg base N x (aI st) f cdv A outer s H E).nox (eS st) t/\t { nx:=fun _ M'=>Dn Q .non M',rt:=Dn Q } (iB N ds) M):Has P w K mg base (k + 1) x ps sp :=
 Has.mk h S len fun f cdv A outer s H ds M Q E hr h=>let ⟨t,h1,h2⟩:=hbody f cdv A outer s H ds M Q E hr h;⟨t,h1.o,h2⟩
end
section
variable {P:Program} {w:World} {K:PySem.W.Frag} {mg:Str->Option Value} {base:Heap}
end
end Dd
namespace Mz
open PySem
noncomputable def Bd (n:Nat) (x:Int):Prop:=x.natAbs < 2 ^ n
theorem Bd.mono {m n:Nat} {x:Int} (h:Bd m x) (l:m<=n):Bd n x:=Nat.lt_of_lt_of_le h (Nat.pow_le_pow_right (by decide) l)
theorem Bd.neg {n:Nat} {x:Int} (h:Bd n x):Bd n (-x):=by unfold Bd at *;rw [Int.natAbs_neg];exact h
theorem Bd.add {m:Nat} {x y:Int} (h:Bd m x) (h2:Bd m y):Bd (m + 1) (x + y):=by
 unfold Bd at *
 have:=Int.natAbs_add_le x y
 rw [Nat.pow_succ]
 omega
theorem Bd.sub {m:Nat} {x y:Int} (h:Bd m x) (h2:Bd m y):Bd (m + 1) (x - y):=by
 rw [Int.sub_eq_add_neg];exact h.add h2.neg
theorem Bd.mul {m n:Nat} {x y:Int} (h:Bd m x) (h2:Bd n y):Bd (m + n) (x * y):=by
 unfold Bd at *
 rw [Int.natAbs_mul,Nat.pow_add]
 exact Nat.mul_lt_mul'' h h2
theorem Bd.of {n:Nat} {x:Int} (h1:-(2 ^ n:Nat) < x) (h2:x < (2 ^ n:Nat)):Bd n x:=by unfold Bd;omega
theorem Bd.log {n:Nat} {x:Int} (h:Bd n x) (h0:0 < n):x.natAbs.log2 < n:=by
 rcases Nat.eq_zero_or_pos x.natAbs with e | e
 ·rw [e];simpa using h0
 ·exact (Nat.log2_lt (Nat.ne_of_gt e)).mpr h
theorem Bd.bits {n:Nat} {x:Int} (h:Bd n x):Builtin.Int.intBits x<=n + 1:=by
 unfold Builtin.Int.intBits
 split
 ·exact Nat.zero_le _
 ·rcases Nat.eq_zero_or_pos n with e | e
  ·subst e
   have:x.natAbs < 1:=h
   have:x.natAbs = 0:=by omega
   rw [this];decide
  ·have:=h.log e
   omega
theorem dA {m n:Nat} {x y:Int} (h:Bd m x) (h2:Bd n y) (l:m + n<=100000000:=by decide):IntMulOk x y:=IntMulOk.of_le h.bits h2.bits (by omega)
theorem iD {x y:Int} (h:Bd 63 x):IntMulOk x y:=IntMulOk.of_left (by have:=h.bits;omega)
theorem pI {x y:Int} (h:Bd 63 y):IntMulOk x y:=IntMulOk.of_right (by have:=h.bits;omega)
theorem aCz {a b:Int} (h:b ≠ 0):(a.fmod b).natAbs < b.natAbs:=by
 rcases Int.lt_or_lt_of_ne h with hb | hb
 ·have e:=Int.fmod_eq_emod (a:=a) (b:=b)
  have h1:=Int.emod_nonneg a h
  have h2:=Int.emod_lt_of_neg a hb
  by_cases hd:b ∣ a
  ·rw [if_pos (.inr hd)] at e
   have:=Int.emod_eq_zero_of_dvd hd
   omega
  ·rw [if_neg (by omega)] at e
   have h3:a % b ≠ 0:=fun z=>hd (Int.dvd_of_emod_eq_zero z)
   omega
 ·have h1:=Int.fmod_nonneg_of_pos a hb
  have h2:=Int.fmod_lt_of_pos a hb
  omega
theorem aAV (a b:Int):Int.gcd b (a.fmod b) = Int.gcd a b:=by
 rw [Int.fmod_def,Int.mul_comm b,Int.gcd_sub_mul_right_right,Int.gcd_comm]
noncomputable def sg (t b:Int):Int:=if b < 0 then -(Int.gcd t b:Int) else (Int.gcd t b:Int)
noncomputable def fT (t b:Int):Int:=t.fdiv (sg t b)
noncomputable def fB (t b:Int):Int:=b.fdiv (sg t b)
theorem jL {t b:Int} (h:b ≠ 0):0 < Int.gcd t b:=Nat.pos_of_ne_zero fun z=>h (Int.gcd_eq_zero_iff.mp z).2
theorem aLl {t b:Int} (h:b ≠ 0):sg t b ≠ 0:=by
 have:=jL (t:=t) h
 unfold sg;split<;>omega
theorem nL (t b:Int):sg t b ∣ t:=by
 have h:=Int.gcd_dvd_left t b
 unfold sg
 split
 ·exact Int.neg_dvd.mpr h
 ·exact h
theorem nN (t b:Int):sg t b ∣ b:=by
 have h:=Int.gcd_dvd_right t b
 unfold sg
 split
 ·exact Int.neg_dvd.mpr h
 ·exact h
theorem aHN {t b:Int} (h:b ≠ 0):fT t b * sg t b = t:=by
 unfold fT;rw [Int.fdiv_eq_ediv_of_dvd (nL t b)];exact Int.ediv_mul_cancel (nL t b)
theorem aEW {t b:Int} (h:b ≠ 0):fB t b * sg t b = b:=by
 unfold fB;rw [Int.fdiv_eq_ediv_of_dvd (nN t b)];exact Int.ediv_mul_cancel (nN t b)
theorem aJ4 {t b:Int} (h:b ≠ 0):0 < fB t b:=by
 have e:=aEW (t:=t) h
 have hg:=jL (t:=t) h
 rcases Int.lt_trichotomy (fB t b) 0 with z | z | z
 ·exfalso
  unfold sg at e
  split at e
  ·rename_i hb
   have:=Int.mul_pos_of_neg_of_neg z (show -(Int.gcd t b:Int) < 0 by omega)
   omega
  ·rename_i hb
   have:=Int.mul_neg_of_neg_of_pos z (show 0 < (Int.gcd t b:Int) by omega)
   omega
 ·rw [z] at e;omega
 ·exact z
theorem aJ9 {t b:Int} (h:b ≠ 0):fT t b * b = fB t b * t:=by
 have e1:=aHN (t:=t) h
 have e2:=aEW (t:=t) h
 have:fT t b * (fB t b * sg t b) = fB t b * (fT t b * sg t b):=by grind
 rw [e1,e2] at this
 exact this
theorem zE (t b:Int):(sg t b).natAbs = Int.gcd t b:=by unfold sg;split<;>simp
theorem aL7 {t b:Int} (h:b ≠ 0):Int.gcd (fT t b) (fB t b) = 1:=by
 unfold fT fB
 rw [Int.fdiv_eq_ediv_of_dvd (nL t b),Int.fdiv_eq_ediv_of_dvd (nN t b),Int.gcd_ediv (nL t b) (nN t b),zE]
 exact Nat.div_self (jL h)
theorem Bd.fT {n:Nat} {t b:Int} (h:Bd n t):Bd n (fT t b):=by
 unfold Bd at *;unfold Mz.fT;rw [Int.fdiv_eq_ediv_of_dvd (nL t b)]
 exact Nat.lt_of_le_of_lt (Int.natAbs_ediv_le_natAbs _ _) h
theorem Bd.fB {n:Nat} {t b:Int} (h:Bd n b):Bd n (fB t b):=by
 unfold Bd at *;unfold Mz.fB;rw [Int.fdiv_eq_ediv_of_dvd (nN t b)]
 exact Nat.lt_of_le_of_lt (Int.natAbs_ediv_le_natAbs _ _) h
theorem Bd.sg {n:Nat} {t b:Int} (h:Bd n b) (h0:b ≠ 0):Bd n (sg t b):=by
 unfold Bd at *
 rw [zE]
 have:=Nat.le_of_dvd (by omega) (Int.natAbs_dvd_natAbs.mpr (Int.gcd_dvd_right t b))
 simp at this
 omega
theorem pS {a b c:Int} (h:b ∣ a * c) (g:Int.gcd b a = 1):b ∣ c:=by
 have h':b.natAbs ∣ a.natAbs * c.natAbs:=by rw [<- Int.natAbs_mul];exact Int.natAbs_dvd_natAbs.mpr h
 exact Int.natAbs_dvd_natAbs.mp (Nat.Coprime.dvd_of_dvd_mul_left g h')
theorem oM {t b t' b':Int} (h:0 < b) (h':0 < b') (g:Int.gcd t b = 1) (g':Int.gcd t' b' = 1) (e:t * b' = t' * b):t = t'/\b = b':=by
 have d1:b ∣ b':=by
  have:b ∣ t * b':=⟨t',by rw [e];exact Int.mul_comm _ _⟩
  exact pS this (by rw [Int.gcd_comm];exact g)
 have d2:b' ∣ b:=by
  have:b' ∣ t' * b:=⟨t,by rw [<- e];exact Int.mul_comm _ _⟩
  exact pS this (by rw [Int.gcd_comm];exact g')
 have e1:b = b':=Int.le_antisymm (Int.le_of_dvd h' d1) (Int.le_of_dvd h d2)
 subst e1
 exact ⟨Int.eq_of_mul_eq_mul_right (by omega) e,rfl⟩
end Mz
namespace Mz
open PySem
theorem den_pos (q:Rat):(0:Int) < (q.den:Int):=by have:=q.den_pos;omega
theorem eO (q:Rat):(q.den:Int) ≠ 0:=by have:=q.den_pos;omega
theorem vK (q:Rat):((q.den:Int):Rat) ≠ 0:=by
 intro h
 have:(q.den:Int) = 0:=by exact_mod_cast h
 exact eO q this
theorem aGR (q:Rat):(q.num:Rat) / ((q.den:Int):Rat) = q:=by
 have h:=Rat.num_divInt_den q
 rw [Rat.divInt_eq_div] at h
 exact h
theorem eP (q:Rat):(q.num:Rat) = q * ((q.den:Int):Rat):=by
 have h:=aGR q
 have h2:=vK q
 grind
theorem aCJ {t b:Int} (h:b ≠ 0):fT t b = ((t:Rat) / (b:Rat)).num/\fB t b = ((((t:Rat) / (b:Rat)).den:Nat):Int):=by
 have hb:(b:Rat) ≠ 0:=by exact_mod_cast h
 refine oM (aJ4 h) (den_pos _) (aL7 h) ?_ ?_
 ·have:=((t:Rat) / (b:Rat)).reduced
  unfold Nat.Coprime at this
  rw [<- this]
  rfl
 ·have e1:=aJ9 (t:=t) h
  have e2:=eP ((t:Rat) / (b:Rat))
  have e3:((fT t b:Int):Rat) * b = (fB t b:Int) * (t:Rat):=by rw [<- Rat.intCast_mul,<- Rat.intCast_mul,e1]
  have e4:((fT t b:Int):Rat) * ((((t:Rat) / (b:Rat)).den:Int):Rat) = ((((t:Rat) / (b:Rat)).num:Int):Rat) * (fB t b:Int):=by
   rw [e2]
   grind
  rw [<- Rat.intCast_mul,<- Rat.intCast_mul] at e4
  exact Rat.intCast_inj.mp e4
noncomputable def BQ (n:Nat) (q:Rat):Prop:=Bd n q.num/\Bd n (q.den:Int)
theorem BQ.mono {m n:Nat} {q:Rat} (h:BQ m q) (l:m<=n):BQ n q:=⟨h.1.mono l,h.2.mono l⟩
theorem BQ.make {n:Nat} {t b:Int} (h:b ≠ 0) (h1:Bd n t) (h2:Bd n b):BQ n ((t:Rat) / (b:Rat)):=by
 obtain ⟨e1,e2⟩:=aCJ (t:=t) h
 exact ⟨e1 ▸ h1.fT,e2 ▸ h2.fB⟩
theorem aKE (p q:Rat):(((p.num * q.den + q.num * p.den:Int)):Rat) / ((p.den * q.den:Int):Rat) = p + q:=by
 have h1:=vK p
 have h2:=vK q
 have e1:=eP p
 have e2:=eP q
 rw [Rat.intCast_add,Rat.intCast_mul,Rat.intCast_mul,Rat.intCast_mul,e1,e2]
 grind
theorem aK0 (p q:Rat):(((p.num * q.num:Int)):Rat) / ((p.den * q.den:Int):Rat) = p * q:=by
 have h1:=vK p
 have h2:=vK q
 have e1:=eP p
 have e2:=eP q
 rw [Rat.intCast_mul,Rat.intCast_mul,e1,e2]
 grind
theorem BQ.add {m n:Nat} {p q:Rat} (h:BQ m p) (h2:BQ n q):BQ (m + n + 1) (p + q):=by
 rw [<- aKE]
 exact .make (Int.mul_ne_zero (eO p) (eO q)) ((h.1.mul h2.2).add ((h2.1.mul h.2).mono (by omega))) ((h.2.mul h2.2).mono (by omega))
theorem BQ.mul {m n:Nat} {p q:Rat} (h:BQ m p) (h2:BQ n q):BQ (m + n) (p * q):=by
 rw [<- aK0]
 exact .make (Int.mul_ne_zero (eO p) (eO q)) (h.1.mul h2.1) (h.2.mul h2.2)
theorem aEm {q:Rat}:q.num = 0 ↔ q = 0:=Rat.num_eq_zero
theorem BQ.neg {m:Nat} {p:Rat} (h:BQ m p):BQ m (-p):=⟨by rw [Rat.neg_num];exact h.1.neg,by rw [Rat.neg_den];exact h.2⟩
theorem BQ.int {m:Nat} {z:Int} (h:Bd m z) (h0:0 < m):BQ m (z:Rat):=⟨by rw [Rat.num_intCast];exact h,by rw [Rat.den_intCast];unfold Bd;exact Nat.one_lt_two_pow (by omega)⟩
theorem ltQ (p q:Rat):(p.num * q.den < q.num * p.den) ↔ p < q:=(Rat.lt_iff p q).symm
theorem aHj {q:Rat}:0 < q.num ↔ 0 < q:=by
 have:=Rat.lt_iff 0 q
 simp at this
 exact this.symm
theorem vE {q:Rat}:q.num < 0 ↔ q < 0:=by
 have:=Rat.lt_iff q 0
 simp at this
 exact this.symm
end Mz
namespace Mz
open PySem
theorem aCv {t b:Int} {q:Rat} (hb:0 < b) (hg:Int.gcd t b = 1) (e:(t:Rat) = q * (b:Rat)):t = q.num/\b = (q.den:Int):=by
 refine oM hb (den_pos q) hg ?_ ?_
 ·have:=q.reduced
  unfold Nat.Coprime at this
  rw [<- this]
  rfl
 ·have e2:=eP q
  have:((t * (q.den:Int):Int):Rat) = ((q.num * b:Int):Rat):=by
   rw [Rat.intCast_mul,Rat.intCast_mul,e,e2]
   grind
  exact Rat.intCast_inj.mp this
theorem kU {a b c:Int} (h:Int.gcd a b = 1) (h2:Int.gcd a c = 1):Int.gcd a (b * c) = 1:=by
 unfold Int.gcd at *
 rw [Int.natAbs_mul]
 exact Nat.Coprime.mul_right h h2
theorem cW {a b:Int} (h:Int.gcd a b = 1):Int.gcd b a = 1:=by rw [Int.gcd_comm];exact h
theorem jK {a a' b:Int} (h:a ∣ a') (h2:Int.gcd a' b = 1):Int.gcd a b = 1:=by
 unfold Int.gcd at *
 exact Nat.Coprime.coprime_dvd_left (Int.natAbs_dvd_natAbs.mpr h) h2
theorem red (q:Rat):Int.gcd q.num (q.den:Int) = 1:=by
 have:=q.reduced
 unfold Nat.Coprime at this
 rw [<- this]
 rfl
theorem nZ {x y:Int} (h:y ≠ 0):∃ a b:Int,x = (Int.gcd x y:Int) * a/\y = (Int.gcd x y:Int) * b/\Int.gcd a b = 1/\x.fdiv (Int.gcd x y:Int) = a/\y.fdiv (Int.gcd x y:Int) = b:=by
 have hp:0 < Int.gcd x y:=jL h
 obtain ⟨a,ha⟩:=Int.gcd_dvd_left x y
 obtain ⟨b,hb⟩:=Int.gcd_dvd_right x y
 have e1:x.fdiv (Int.gcd x y:Int) = a:=by
  rw [Int.fdiv_eq_ediv_of_dvd (Int.gcd_dvd_left x y)]
  exact Int.ediv_eq_of_eq_mul_right (by omega) ha
 have e2:y.fdiv (Int.gcd x y:Int) = b:=by
  rw [Int.fdiv_eq_ediv_of_dvd (Int.gcd_dvd_right x y)]
  exact Int.ediv_eq_of_eq_mul_right (by omega) hb
 refine ⟨a,b,ha,hb,?_,e1,e2⟩
 rw [<- e1,<- e2,Int.fdiv_eq_ediv_of_dvd (Int.gcd_dvd_left x y),Int.fdiv_eq_ediv_of_dvd (Int.gcd_dvd_right x y),Int.gcd_ediv (Int.gcd_dvd_left x y) (Int.gcd_dvd_right x y)]
 simp
 exact Nat.div_self hp
theorem aLZ (p q:Rat):∀ g a t l:Int,g = (Int.gcd p.den q.den:Int)->a = (p.den:Int).fdiv g->t = p.num * (q.den:Int).fdiv g + q.num * a->l = (Int.gcd t g:Int) ->
  g ≠ 0/\l ≠ 0/\g ∣ (p.den:Int)/\l ∣ g/\t.fdiv l = (p + q).num/\a * (q.den:Int).fdiv l = ((p + q).den:Int):=by
 intro g a t l hg ha ht hl
 have d1:=den_pos p
 have d2:=den_pos q
 obtain ⟨a',b,e1,e2,cab,f1,f2⟩:=nZ (x:=p.den) (y:=q.den) (eO q)
 rw [<- hg] at e1 e2 f1 f2
 rw [f1] at ha
 subst ha
 rw [f2] at ht
 have g0:0 < g:=by have:=jL (t:=(p.den:Int)) (eO q);omega
 have a0:0 < a:=by
  rcases Int.lt_trichotomy a 0 with z | z | z
  ·have:=Int.mul_neg_of_pos_of_neg g0 z;omega
  ·subst z;omega
  ·exact z
 have b0:0 < b:=by
  rcases Int.lt_trichotomy b 0 with z | z | z
  ·have:=Int.mul_neg_of_pos_of_neg g0 z;omega
  ·subst z;omega
  ·exact z
 obtain ⟨t',g',e3,e4,ctg,f3,f4⟩:=nZ (x:=t) (y:=g) (by omega)
 rw [<- hl] at e3 e4 f3 f4
 have l0:0 < l:=by have:=jL (t:=t) (b:=g) (by omega);omega
 have g'0:0 < g':=by
  rcases Int.lt_trichotomy g' 0 with z | z | z
  ·have:=Int.mul_neg_of_pos_of_neg l0 z;omega
  ·subst z;omega
  ·exact z
 have f5:(q.den:Int).fdiv l = g' * b:=by
  have e:(q.den:Int) = l * (g' * b):=by rw [e2,e4];grind
  rw [Int.fdiv_eq_ediv_of_dvd ⟨_,e⟩]
  exact Int.ediv_eq_of_eq_mul_right (by omega) e
 refine ⟨by omega,by omega,⟨a,e1⟩,⟨g',e4⟩,?_⟩
 rw [f3,f5]
 have ca:Int.gcd t a = 1:=by
  have c1:Int.gcd p.num a = 1:=cW (jK ⟨g,by rw [e1];grind⟩ (cW (red p)))
  have:Int.gcd a (p.num * b) = 1:=kU (cW c1) cab
  rw [ht,Int.gcd_comm,Int.gcd_add_mul_right_right]
  exact this
 have cb:Int.gcd t b = 1:=by
  have c1:Int.gcd q.num b = 1:=cW (jK ⟨g,by rw [e2];grind⟩ (cW (red q)))
  have:Int.gcd b (q.num * a) = 1:=kU (cW c1) (cW cab)
  rw [ht,Int.gcd_comm,Int.add_comm,Int.gcd_add_mul_right_right]
  exact this
 have hd:t' ∣ t:=⟨l,by rw [e3];grind⟩
 refine aCv (q:=p + q) (Int.mul_pos a0 (Int.mul_pos g'0 b0)) (kU (jK hd ca) (kU ctg (jK hd cb))) ?_
 have n1:=eP p
 have n2:=eP q
 have r1:=vK p
 have r2:=vK q
 have k1:((p.den:Int):Rat) = (l:Rat) * g' * a:=by rw [e1,e4,Rat.intCast_mul,Rat.intCast_mul]
 have k2:((q.den:Int):Rat) = (l:Rat) * g' * b:=by rw [e2,e4,Rat.intCast_mul,Rat.intCast_mul]
 have k3:(l:Rat) * t' = (p.num:Rat) * b + (q.num:Rat) * a:=by rw [<- Rat.intCast_mul,<- e3,ht,Rat.intCast_add,Rat.intCast_mul,Rat.intCast_mul]
 have k4:(l:Rat) ≠ 0:=fun z=>by
                     have:l = 0:=by exact_mod_cast z
                     omega
 rw [n1,n2,k1,k2] at k3
 rw [Rat.intCast_mul,Rat.intCast_mul]
 have:(l:Rat) * (t':Rat) = l * ((p + q) * ((a:Rat) * (g' * b))):=by rw [k3];grind
 grind
theorem aLY (p q:Rat):∀ f r:Int,f = (Int.gcd p.num q.den:Int)->r = (Int.gcd q.num p.den:Int) ->
  f ≠ 0/\r ≠ 0/\f ∣ (q.den:Int)/\r ∣ (p.den:Int)/\p.num.fdiv f * q.num.fdiv r = (p * q).num/\(p.den:Int).fdiv r * (q.den:Int).fdiv f = ((p * q).den:Int):=by
 intro f r hf hr
 have d1:=den_pos p
 have d2:=den_pos q
 obtain ⟨x,v,e1,e2,c1,f1,f2⟩:=nZ (x:=p.num) (y:=q.den) (eO q)
 obtain ⟨y,u,e3,e4,c2,f3,f4⟩:=nZ (x:=q.num) (y:=p.den) (eO p)
 rw [<- hf] at e1 e2 f1 f2
 rw [<- hr] at e3 e4 f3 f4
 have f0:0 < f:=by have:=jL (t:=p.num) (eO q);omega
 have r0:0 < r:=by have:=jL (t:=q.num) (eO p);omega
 have v0:0 < v:=by
  rcases Int.lt_trichotomy v 0 with z | z | z
  ·have:=Int.mul_neg_of_pos_of_neg f0 z;omega
  ·subst z;omega
  ·exact z
 have u0:0 < u:=by
  rcases Int.lt_trichotomy u 0 with z | z | z
  ·have:=Int.mul_neg_of_pos_of_neg r0 z;omega
  ·subst z;omega
  ·exact z
 refine ⟨by omega,by omega,⟨v,e2⟩,⟨u,e4⟩,?_⟩
 rw [f1,f2,f3,f4]
 have cxu:Int.gcd x u = 1:=jK ⟨f,by rw [e1];grind⟩ (cW (jK ⟨r,by rw [e4];grind⟩ (cW (red p))))
 have cyv:Int.gcd y v = 1:=jK ⟨r,by rw [e3];grind⟩ (cW (jK ⟨f,by rw [e2];grind⟩ (cW (red q))))
 refine aCv (q:=p * q) (Int.mul_pos u0 v0) ?_ ?_
 ·exact cW (kU (cW (kU cxu c1)) (cW (kU c2 cyv)))
 have n1:=eP p
 have n2:=eP q
 have r1:=vK p
 have r2:=vK q
 have k1:((p.den:Int):Rat) = (r:Rat) * u:=by rw [e4,Rat.intCast_mul]
 have k2:((q.den:Int):Rat) = (f:Rat) * v:=by rw [e2,Rat.intCast_mul]
 have k3:(p.num:Rat) = (f:Rat) * x:=by rw [e1,Rat.intCast_mul]
 have k4:(q.num:Rat) = (r:Rat) * y:=by rw [e3,Rat.intCast_mul]
 have k5:(f:Rat) ≠ 0:=fun z=>by
                     have:f = 0:=by exact_mod_cast z
                     omega
 have k6:(r:Rat) ≠ 0:=fun z=>by
                     have:r = 0:=by exact_mod_cast z
                     omega
 rw [Rat.intCast_mul,Rat.intCast_mul]
 have:(f:Rat) * r * ((x:Rat) * y) = f * r * ((p * q) * ((u:Rat) * v)):=by
  have z1:(f:Rat) * x = p * (r * u):=by rw [<- k3,<- k1];exact n1
  have z2:(r:Rat) * y = q * (f * v):=by rw [<- k4,<- k2];exact n2
  grind
 grind
theorem aKT {q:Rat} (h:0 < q):(q.den:Int) = (1 / q).num/\q.num = ((1 / q).den:Int):=by
 refine aCv (q:=1 / q) (aHj.mpr h) (cW (red q)) ?_
 have:=eP q
 have r:=vK q
 grind
theorem aLX {q:Rat} (h:q < 0):-(q.den:Int) = (1 / q).num/\-q.num = ((1 / q).den:Int):=by
 have h':=vE.mpr h
 refine aCv (q:=1 / q) (by omega) (by rw [Int.gcd_neg,Int.neg_gcd];exact cW (red q)) ?_
 have:=eP q
 have r:=vK q
 rw [Rat.intCast_neg,Rat.intCast_neg]
 grind
theorem Bd.dvd {n:Nat} {x y:Int} (h:Bd n y) (d:x ∣ y) (h0:y ≠ 0):Bd n x:=by
 unfold Bd at *
 have:=Nat.le_of_dvd (by omega) (Int.natAbs_dvd_natAbs.mpr d)
 omega
theorem Bd.fdiv {n:Nat} {x y:Int} (h:Bd n x) (d:y ∣ x):Bd n (x.fdiv y):=by
 unfold Bd at *
 rw [Int.fdiv_eq_ediv_of_dvd d]
 exact Nat.lt_of_le_of_lt (Int.natAbs_ediv_le_natAbs _ _) h
end Mz
namespace Mz
open PySem
noncomputable def sgn (q:Rat):Int:=if 0 < q then 1 else if q < 0 then -1 else 0
noncomputable def uu (t:Rat):Rat:=(1 - t * t) / (1 + t * t)
noncomputable def vv (t:Rat):Rat:=(t + t) / (1 + t * t)
end Mz
namespace Mz
open PySem
noncomputable def rq (x y:Rat):Nat->Rat × Rat
 | 0=>(x,y)
 | n + 1=>(-(rq x y n).2,(rq x y n).1)
theorem aET {B:Nat} {x y:Rat} (h1:BQ B x) (h2:BQ B y):∀ n,BQ B (rq x y n).1/\BQ B (rq x y n).2
 | 0=>⟨h1,h2⟩
 | n + 1=>⟨(aET h1 h2 n).2.neg,(aET h1 h2 n).1⟩
noncomputable def ldX (px:Rat) (t h:Int) (s x y:Rat):Rat:=(rq x ((h:Rat) * y) t.toNat).1 * s + px
noncomputable def ldY (py:Rat) (t h:Int) (s x y:Rat):Rat:=(rq x ((h:Rat) * y) t.toNat).2 * s + py
noncomputable def tb (t h u:Int):Int:=(t + h * u).fmod 4
theorem aKf {t:Int} (h0:0<=t) (h1:t < 4):t = 0 ∨ t = 1 ∨ t = 2 ∨ t = 3:=by omega
theorem aA6 (t h u:Int):0<=tb t h u/\tb t h u < 4:=⟨Int.fmod_nonneg_of_pos _ (by decide),Int.fmod_lt_of_pos _ (by decide)⟩
theorem rq0 (x y:Rat):rq x y 0 = (x,y):=rfl
theorem rq1 (x y:Rat):rq x y 1 = (-y,x):=rfl
theorem rq2 (x y:Rat):rq x y 2 = (-x,-y):=rfl
theorem rq3 (x y:Rat):rq x y 3 = (- -y,-x):=rfl
theorem sU:(((1:Int)):Rat) = 1:=rfl
theorem pM:(((-1:Int)):Rat) = -1:=rfl
theorem aG5 (x y:Rat) {t h u k:Int} (t0:0<=t) (t1:t < 4) (u0:0<=u) (u1:u < 4) (hh:h = 1 ∨ h = -1) (hk:k = 1 ∨ k = -1) :
  rq x (((h * k:Int):Rat) * y) (tb t h u).toNat = rq (rq x ((k:Rat) * y) u.toNat).1 ((h:Rat) * (rq x ((k:Rat) * y) u.toNat).2) t.toNat:=by
 rcases aKf t0 t1 with rfl | rfl | rfl | rfl<;>rcases aKf u0 u1 with rfl | rfl | rfl | rfl<;>rcases hh with rfl | rfl<;>rcases hk with rfl | rfl <;>
  first
   | (show rq _ _ 0 = _;simp only [rq0,show (0:Int).toNat = 0 from rfl,show (1:Int).toNat = 1 from rfl,show (2:Int).toNat = 2 from rfl,show (3:Int).toNat = 3 from rfl,rq1,rq2,rq3,Int.reduceMul,sU,pM];refine Prod.ext ?_ ?_<;>grind)
   | (show rq _ _ 1 = _;simp only [rq0,show (0:Int).toNat = 0 from rfl,show (1:Int).toNat = 1 from rfl,show (2:Int).toNat = 2 from rfl,show (3:Int).toNat = 3 from rfl,rq1,rq2,rq3,Int.reduceMul,sU,pM];refine Prod.ext ?_ ?_<;>grind)
   | (show rq _ _ 2 = _;simp only [rq0,show (0:Int).toNat = 0 from rfl,show (1:Int).toNat = 1 from rfl,show (2:Int).toNat = 2 from rfl,show (3:Int).toNat = 3 from rfl,rq1,rq2,rq3,Int.reduceMul,sU,pM];refine Prod.ext ?_ ?_<;>grind)
   | (show rq _ _ 3 = _;simp only [rq0,show (0:Int).toNat = 0 from rfl,show (1:Int).toNat = 1 from rfl,show (2:Int).toNat = 2 from rfl,show (3:Int).toNat = 3 from rfl,rq1,rq2,rq3,Int.reduceMul,sU,pM];refine Prod.ext ?_ ?_<;>grind)
theorem aEL (a b c d s:Rat):∀ n,rq (a * s + c) (b * s + d) n = ((rq a b n).1 * s + (rq c d n).1,(rq a b n).2 * s + (rq c d n).2)
 | 0=>rfl
 | n + 1=>by
  have ih:=aEL a b c d s n
  show (-(rq (a * s + c) (b * s + d) n).2,(rq (a * s + c) (b * s + d) n).1) = (-(rq a b n).2 * s + -(rq c d n).2,(rq a b n).1 * s + (rq c d n).1)
  rw [ih]
  refine Prod.ext ?_ ?_<;>grind
theorem aGD {px py qx qy s r x y:Rat} {t h u k:Int} (t0:0<=t) (t1:t < 4) (u0:0<=u) (u1:u < 4) (hh:h = 1 ∨ h = -1) (hk:k = 1 ∨ k = -1) :
  ldX (ldX px t h s qx qy) (tb t h u) (h * k) (s * r) x y = ldX px t h s (ldX qx u k r x y) (ldY qy u k r x y)/\ldY (ldY py t h s qx qy) (tb t h u) (h * k) (s * r) x y = ldY py t h s (ldX qx u k r x y) (ldY qy u k r x y):=by
 unfold ldX ldY
 rw [aG5 x y t0 t1 u0 u1 hh hk]
 have e:(h:Rat) * ((rq x ((k:Rat) * y) u.toNat).2 * r + qy) = ((h:Rat) * (rq x ((k:Rat) * y) u.toNat).2) * r + (h:Rat) * qy:=by grind
 rw [e,aEL]
 constructor<;>grind
theorem aFA (x y:Rat):ldX 0 0 1 1 x y = x/\ldY 0 0 1 1 x y = y:=by
 unfold ldX ldY
 constructor
 ·show x * 1 + 0 = x;grind
 ·show (((1:Int):Rat)) * y * 1 + 0 = y;rw [sU];grind
noncomputable def tu (t h:Int):Int:=(-h * t).fmod 4
noncomputable def uX (px py:Rat) (t h:Int) (s:Rat):Rat:=ldX 0 (tu t h) h (1 / s) px py * -1
noncomputable def uY (px py:Rat) (t h:Int) (s:Rat):Rat:=ldY 0 (tu t h) h (1 / s) px py * -1
theorem qN (t h:Int):0<=tu t h/\tu t h < 4:=⟨Int.fmod_nonneg_of_pos _ (by decide),Int.fmod_lt_of_pos _ (by decide)⟩
theorem aFE {t h u k v:Int} (hh:h = 1 ∨ h = -1) (hk:k = 1 ∨ k = -1):tb (tb t h u) (h * k) v = tb t h (tb u k v):=by
 unfold tb
 simp only [Int.fmod_eq_emod_of_nonneg _ (show (0:Int)<=4 by decide)]
 rcases hh with rfl | rfl<;>rcases hk with rfl | rfl<;>omega
end Mz
namespace Dd
open PySem PySem.Spec PyProof.Rows L2 Mz
noncomputable def FQ (q:Rat):D:=.tup [.int q.num,.int (q.den:Int)]
theorem aGK {t b:Int} (h:b ≠ 0):(D.tup [.int (fT t b),.int (fB t b)]) = FQ ((t:Rat) / (b:Rat)):=by
 obtain ⟨e1,e2⟩:=aCJ (t:=t) h
 rw [e1,e2]
 rfl
noncomputable def fI:DSp:=fun ds M Q=>∃ a b,ds = [.int a,.int b]/\Q (.int (Int.gcd a b:Int)) M
noncomputable def vW (g:Rat->Rat->D) (C:Rat->Prop:=fun _=>True):DSp:=fun ds M Q=>∃ p q m n,ds = [FQ p,FQ q]/\C q/\BQ m p/\BQ n q/\m + n<=8998/\Q (g p q) M
noncomputable def uA:DSp:=vW fun p q=>FQ (p + q)
noncomputable def mU:DSp:=vW fun p q=>FQ (p * q)
noncomputable def aCq:DSp:=vW (fun p q=>FQ (p / q)) fun q=>q ≠ 0
noncomputable def aBf:DSp:=vW fun p q=>.bl (decide (p < q))
theorem oH {g:Rat->Rat->D} {C:Rat->Prop} (ds:List D) (M:DM) (Q:DQ) (h:vW g C ds M Q):ds.length = 2:=by obtain ⟨a,b,m,n,rfl,_⟩:=h;rfl
theorem aBe {n:Nat} {x y z:Int} (h:Bd n y) (l:n<=9000) (d:z ∣ y) (h0:y ≠ 0) (hz:z ≠ 0):CFd x z:=⟨hz,by
 rcases Nat.eq_zero_or_pos n with e | e
 ·subst e
  have:y.natAbs < 1:=h
  omega
 ·exact Nat.lt_of_lt_of_le ((h.dvd d h0).log e) l⟩
theorem zW (q:Rat):(D.tup [.int (-q.num),.int (q.den:Int)]) = FQ (-q):=by
 unfold FQ
 rw [Rat.neg_num,Rat.neg_den]
noncomputable def PQ (x y:Rat):D:=.tup [FQ x,FQ y]
noncomputable def tM:DSp:=fun ds M Q=>∃ x y u v,ds = [PQ x y,PQ u v]/\BQ 4400 x/\BQ 4400 y/\BQ 4400 u/\BQ 4400 v/\Q (PQ (x + u) (y + v)) M
theorem wN (p q:Rat):eqD (FQ p) (FQ q) = decide (p = q):=by
 show (p.num == q.num && ((p.den:Int) == (q.den:Int) && true)) = decide (p = q)
 by_cases h:p = q
 ·subst h;simp
 ·rw [decide_eq_false h]
  by_cases h1:p.num = q.num
  ·have h2:¬ ((p.den:Int) = (q.den:Int)):=fun z=>h (Rat.ext h1 (by exact_mod_cast z))
   simp [h1,h2]
  ·simp [h1]
theorem aFm (x y u v:Rat):eqD (PQ x y) (PQ u v) = (decide (x = u) && decide (y = v)):=by
 show (eqD (FQ x) (FQ u) && (eqD (FQ y) (FQ v) && true)) = _
 rw [wN,wN,Bool.and_true]
noncomputable def gQ:DSp:=fun ds M Q=>∃ x y,ds = [PQ x y]/\BQ 900 x/\BQ 900 y/\∀ X Y d:Int,0 < d->(X:Rat) = x * (d:Rat)->(Y:Rat) = y * (d:Rat)->Bd 1800 X->Bd 1800 Y->Bd 1800 d->Q (.tup [.int X,.int Y,.int d]) M
noncomputable def aAs:DSp:=fun ds M Q=>∃ z:Int,ds = [.int z]/\Q (.int (sgn (z:Rat))) M
theorem yA {d:Int} (h:0 < d):(0:Rat) < (d:Rat):=by exact_mod_cast h
noncomputable def bef (x y u v:Rat):Bool:=if x = u then decide (y < v) else decide (x < u)
noncomputable def zF:DSp:=fun ds M Q=>∃ x y u v,ds = [PQ x y,PQ u v]/\BQ 4400 x/\BQ 4400 y/\BQ 4400 u/\BQ 4400 v/\Q (.bl (bef x y u v)) M
structure Adv (M M':DM) (a:Addr):Prop where
 l:∀ b:Addr,b ≠ a->M' (.l b) = M (.l b)
 d:∀ b:Addr,M' (.d b) = M (.d b)
instance {M M':DM} {a:Addr}:CoeFun (Adv M M' a) (fun _=>∀ b:Addr,b ≠ a->M' (.l b) = M (.l b)):=⟨Adv.l⟩
theorem Adv.trans {M M1 M2:DM} {a:Addr} (h:Adv M M1 a) (h2:Adv M1 M2 a):Adv M M2 a:=⟨fun b n=>(h2.l b n).trans (h.l b n),fun b=>(h2.d b).trans (h.d b)⟩
theorem aGv {xs:List D} {lo hi:Option Int} {d:D} (h:d ∈ cutD xs lo hi):d ∈ xs:=List.mem_of_mem_drop (List.mem_of_mem_take h)
noncomputable def aFM:D:=.tup [.int 1,.int 1]
theorem bq1:BQ 1 1:=⟨by unfold Bd;decide,by unfold Bd;decide⟩
theorem aH6 {x y:Rat} {g:DG} {te:DE} {Q:DQ} {ρ0:cB} {M:DM}:itT (PQ x y) ρ0 g te M Q = aAi none [FQ x,FQ y] ρ0 g te M Q:=rfl
theorem aJt {q:Rat} {g:DG} {te:DE} {Q:DQ} {ρ0:cB} {M:DM}:itT (FQ q) ρ0 g te M Q = aAi none [.int q.num,.int (q.den:Int)] ρ0 g te M Q:=rfl
theorem aJ2 {x y:Rat} {g:DG} {tb:DS} {E:fZ} {ρ:cB} {M:DM}:foT (PQ x y) g tb E ρ M = dIt none [FQ x,FQ y] g tb E ρ M:=rfl
theorem aKu {q:Rat} {M:DM} {Q:DQ}:jZ (FQ q) (.int 0) M Q = Q (.int q.num) M:=rfl
theorem aKH {q:Rat} {M:DM} {Q:DQ}:jZ (FQ q) (.int 1) M Q = Q (.int (q.den:Int)) M:=rfl
theorem aK3 {x y:Rat} {M:DM} {Q:DQ}:jZ (PQ x y) (.int 0) M Q = Q (FQ x) M:=rfl
theorem aLd {x y:Rat} {M:DM} {Q:DQ}:jZ (PQ x y) (.int 1) M Q = Q (FQ y) M:=rfl
theorem aK2 {x y:Rat} {n:Nat} {t:DGs} {ρ:cB} {M:DM} {R:cB->DM->Prop}:gU n t (PQ x y) ρ M R = (([FQ x,FQ y]:List D).length = n/\t [FQ x,FQ y] ρ M R):=rfl
theorem aKI {q:Rat} {n:Nat} {t:DGs} {ρ:cB} {M:DM} {R:cB->DM->Prop}:gU n t (FQ q) ρ M R = (([.int q.num,.int (q.den:Int)]:List D).length = n/\t [.int q.num,.int (q.den:Int)] ρ M R):=rfl
theorem aDS {g:Bool->Bool} {p q:Rat} {M:DM} {Q:DQ}:dEq g (FQ p) (FQ q) M Q = Q (.bl (g (decide (p = q)))) M:=by
 show (bB 60 (FQ p) = true/\bB 60 (FQ q) = true/\Q (.bl (g (eqD (FQ p) (FQ q)))) M) = _
 rw [wN]
 exact propext ⟨fun h=>h.2.2,fun h=>⟨rfl,rfl,h⟩⟩
theorem wR {g:Bool->Bool} {x y u v:Rat} {M:DM} {Q:DQ}:dEq g (PQ x y) (PQ u v) M Q = Q (.bl (g (decide (x = u/\y = v)))) M:=by
 show (bB 60 (PQ x y) = true/\bB 60 (PQ u v) = true/\Q (.bl (g (eqD (PQ x y) (PQ u v)))) M) = _
 have e:(decide (x = u) && decide (y = v)) = decide (x = u/\y = v):=by by_cases h1:x = u<;>by_cases h2:y = v<;>simp [h1,h2]
 rw [aFm,e]
 exact propext ⟨fun h=>h.2.2,fun h=>⟨rfl,rfl,h⟩⟩
theorem kN {M:DM} {p b:Addr} {ds:List D} (h:bI M p ds b = none):b ≠ p/\M b = none:=by
 by_cases e:b = p
 ·subst e;rw [aJ] at h;cases h
 ·rw [cS e] at h;exact ⟨e,h⟩
noncomputable def sE:D:=.tup [.tup [.int 0,.int 1],.tup [.int 0,.int 1]]
noncomputable def FR (px py:Rat) (t h:Int) (s:Rat):D:=.tup [PQ px py,.int t,.int h,FQ s]
theorem aLe {px py s:Rat} {i h:Int} {n:Nat} {t:DGs} {ρ:cB} {M:DM} {R:cB->DM->Prop}:gU n t (FR px py i h s) ρ M R = (([PQ px py,.int i,.int h,FQ s]:List D).length = n/\t [PQ px py,.int i,.int h,FQ s] ρ M R):=rfl
theorem aKV {px py s:Rat} {t h:Int} {M:DM} {Q:DQ}:jZ (FR px py t h s) (.int 0) M Q = Q (PQ px py) M:=rfl
theorem aLa {px py s:Rat} {t h:Int} {M:DM} {Q:DQ}:jZ (FR px py t h s) (.int 1) M Q = Q (.int t) M:=rfl
theorem aKp {px py s:Rat} {t h:Int} {M:DM} {Q:DQ}:jZ (FR px py t h s) (.int 2) M Q = Q (.int h) M:=rfl
theorem aLb {px py s:Rat} {t h:Int} {M:DM} {Q:DQ}:jZ (FR px py t h s) (.int 3) M Q = Q (FQ s) M:=rfl
theorem aJF (px py s px' py' s':Rat) (t h t' h':Int):eqD (FR px py t h s) (FR px' py' t' h' s') = decide (px = px'/\py = py'/\t = t'/\h = h'/\s = s'):=by
 show (eqD (PQ px py) (PQ px' py') && (t == t' && (h == h' && (eqD (FQ s) (FQ s') && true)))) = _
 rw [aFm,wN]
 by_cases h1:px = px'<;>by_cases h2:py = py'<;>by_cases h3:t = t'<;>by_cases h4:h = h'<;>by_cases h5:s = s'<;>simp [h1,h2,h3,h4,h5]
theorem aKc {g:Bool->Bool} {px py s px' py' s':Rat} {t h t' h':Int} {M:DM} {Q:DQ}:dEq g (FR px py t h s) (FR px' py' t' h' s') M Q = Q (.bl (g (decide (px = px'/\py = py'/\t = t'/\h = h'/\s = s')))) M:=by
 show (bB 60 (FR px py t h s) = true/\bB 60 (FR px' py' t' h' s') = true/\Q (.bl (g (eqD (FR px py t h s) (FR px' py' t' h' s')))) M) = _
 rw [aJF]
 exact propext ⟨fun z=>z.2.2,fun z=>⟨rfl,rfl,z⟩⟩
noncomputable def lY (n:Nat) (L:List D):Prop:=L.length = n/\∀ d ∈ L,∃ z:Int,d = .int z/\0<=z/\z < 1000000
theorem lY.at {n:Nat} {L:List D} (h:lY n L) {i:Nat} (hi:i < n):∃ z:Int,atI L (i:Int) = some (.int z)/\0<=z/\z < 1000000:=by
 have hl:i < L.length:=by rw [h.1];exact hi
 obtain ⟨z,e,z0,z1⟩:=h.2 L[i] (List.getElem_mem hl)
 exact ⟨z,aCG (by rw [List.getElem?_eq_getElem hl,e]),z0,z1⟩
theorem aGe {x y:Rat} {M:DM} {Q:DQ}:rZ [PQ x y] M Q = Q (.int 2) M:=rfl
theorem aHn {q:Rat} {M:DM} {Q:DQ}:rZ [FQ q] M Q = Q (.int 2) M:=rfl
theorem aHb {px py s:Rat} {t h:Int} {M:DM} {Q:DQ}:rZ [FR px py t h s] M Q = Q (.int 4) M:=rfl
theorem aEO {a:Addr} {M:DM} {Q:DQ}:rZ [.ref a] M Q = ∃ xs,M a = some xs/\Q (.int (xs.length:Int)) M:=rfl
end Dd
namespace Dd
open PySem PySem.Spec PyProof.Rows L2 Mz
section
variable {M:DM} {Q:DQ} {a b c d e f:D}
theorem aKb {i:Int}:aLr [.int i] M Q = Q (.int (if i < 0 then -i else i)) M:=rfl
theorem aFV {xs:List D}:rZ [.fz xs] M Q = Q (.int xs.length) M:=rfl
theorem aFU:rZ [.tup []] M Q = Q (.int 0) M:=rfl
theorem aGt:rZ [.tup [a]] M Q = Q (.int 1) M:=rfl
theorem aHd:rZ [.tup [a,b]] M Q = Q (.int 2) M:=rfl
theorem aGy:rZ [.tup [a,b,c]] M Q = Q (.int 3) M:=rfl
theorem aHo:rZ [.tup [a,b,c,d]] M Q = Q (.int 4) M:=rfl
theorem aFX:rZ [.tup [a,b,c,d,e]] M Q = Q (.int 5) M:=rfl
end
noncomputable def iH (px py:Rat) (t h:Int) (s:Rat) (B:Nat):Prop:=BQ B px/\BQ B py/\0<=t/\t < 4/\(h = 1 ∨ h = -1)/\0 < s/\BQ B s
structure Fm where
 (px py:Rat) (t h:Int) (s:Rat)
noncomputable def FmD (f:Fm):D:=FR f.px f.py f.t f.h f.s
noncomputable def Fm.comp (f g:Fm):Fm:=⟨ldX f.px f.t f.h f.s g.px g.py,ldY f.py f.t f.h f.s g.px g.py,tb f.t f.h g.t,f.h * g.h,f.s * g.s⟩
noncomputable def Fm.one:Fm:=⟨0,0,0,1,1⟩
noncomputable def Fm.Ok (f:Fm):Prop:=0<=f.t/\f.t < 4/\(f.h = 1 ∨ f.h = -1)
theorem Fm.ok_one:Fm.one.Ok:=⟨by decide,by decide,.inl rfl⟩
theorem Fm.Ok.comp {f g:Fm} (hf:f.Ok) (hg:g.Ok):(f.comp g).Ok:=by
 refine ⟨(aA6 _ _ _).1,(aA6 _ _ _).2,?_⟩
 show f.h * g.h = 1 ∨ f.h * g.h = -1
 rcases hf.2.2 with e | e<;>rcases hg.2.2 with e' | e'<;>rw [e,e']<;>simp
theorem Fm.assoc {f g k:Fm} (hf:f.Ok) (hg:g.Ok):(f.comp g).comp k = f.comp (g.comp k):=by
 obtain ⟨c1,c2⟩:=aGD (px:=f.px) (py:=f.py) (qx:=g.px) (qy:=g.py) (s:=f.s) (r:=g.s) (x:=k.px) (y:=k.py) hf.1 hf.2.1 hg.1 hg.2.1 hf.2.2 hg.2.2
 unfold Fm.comp
 dsimp only
 rw [c1,c2,aFE hf.2.2 hg.2.2,Int.mul_assoc,Rat.mul_assoc]
theorem aCS:∀ n,rq 0 0 n = (0,0)
 | 0=>rfl
 | n + 1=>by
  show (-(rq 0 0 n).2,(rq 0 0 n).1) = _
  rw [aCS n]
  exact Prod.ext (by show -(0:Rat) = 0;grind) rfl
theorem aG6 {t h:Int} (h0:0<=t) (h1:t < 4):tb t h 0 = t:=by
 unfold tb
 rw [Int.mul_zero,Int.add_zero,Int.fmod_eq_emod_of_nonneg _ (by decide)]
 omega
theorem aG8 {t:Int} (h0:0<=t) (h1:t < 4):tb 0 1 t = t:=by
 unfold tb
 rw [Int.one_mul,Int.zero_add,Int.fmod_eq_emod_of_nonneg _ (by decide)]
 omega
theorem Fm.one_comp {f:Fm} (hf:f.Ok):Fm.one.comp f = f:=by
 obtain ⟨c1,c2⟩:=aFA f.px f.py
 unfold Fm.comp Fm.one
 dsimp only
 rw [c1,c2,aG8 hf.1 hf.2.1,Int.one_mul,Rat.one_mul]
theorem Fm.comp_one {f:Fm} (hf:f.Ok):f.comp Fm.one = f:=by
 unfold Fm.comp Fm.one ldX ldY
 dsimp only
 rw [Rat.mul_zero,aCS,aG6 hf.1 hf.2.1,Int.mul_one,Rat.mul_one]
 dsimp only
 rw [Rat.zero_mul,Rat.zero_add,Rat.zero_add]
noncomputable def pw (f:Fm):Nat->Fm
 | 0=>Fm.one
 | n + 1=>f.comp (pw f n)
theorem aCI {f:Fm} (hf:f.Ok):∀ n,(pw f n).Ok
 | 0=>Fm.ok_one
 | n + 1=>hf.comp (aCI hf n)
theorem aHV {f:Fm} (hf:f.Ok):pw f 1 = f:=Fm.comp_one hf
theorem aBR {f:Fm} (hf:f.Ok) (n:Nat):∀ m,pw f (m + n) = (pw f m).comp (pw f n)
 | 0=>by rw [Nat.zero_add];exact (Fm.one_comp (aCI hf n)).symm
 | m + 1=>by
  rw [Nat.succ_add_eq_add_succ,Nat.add_succ]
  show f.comp (pw f (m + n)) = (f.comp (pw f m)).comp (pw f n)
  rw [aBR hf n m,Fm.assoc hf (aCI hf m)]
theorem aG4 {f:Fm} (hf:f.Ok) (n:Nat):f.comp (pw f n) = (pw f n).comp f:=by
 have h1:=aBR hf n 1
 have h2:=aBR hf 1 n
 rw [aHV hf] at h1 h2
 rw [<- h1,<- h2,Nat.add_comm]
theorem bq_of {q:Rat} {m X:Int} {k:Nat} (h0:0 < m) (e:q * (m:Rat) = (X:Rat)) (bX:Bd k X) (bm:Bd k m):BQ k q:=by
 have hm:(m:Rat) ≠ 0:=by have:=yA h0;grind
 have:q = (X:Rat) / (m:Rat):=by grind
 rw [this]
 exact .make (by omega) bX bm
noncomputable def Fm.Good (f:Fm) (B:Nat):Prop:=iH f.px f.py f.t f.h f.s B
theorem Fm.Good.ok {f:Fm} {B:Nat} (h:f.Good B):f.Ok:=⟨h.2.2.1,h.2.2.2.1,h.2.2.2.2.1⟩
theorem iH.mono {px py s:Rat} {t h:Int} {B C:Nat} (f:iH px py t h s B) (l:B<=C):iH px py t h s C:=⟨f.1.mono l,f.2.1.mono l,f.2.2.1,f.2.2.2.1,f.2.2.2.2.1,f.2.2.2.2.2.1,f.2.2.2.2.2.2.mono l⟩
theorem aK6 {f:Fm} {M:DM} {Q:DQ}:jZ (FmD f) (.int 0) M Q = Q (PQ f.px f.py) M:=rfl
theorem aKW {f:Fm} {M:DM} {Q:DQ}:jZ (FmD f) (.int 1) M Q = Q (.int f.t) M:=rfl
theorem aKZ {f:Fm} {M:DM} {Q:DQ}:jZ (FmD f) (.int 2) M Q = Q (.int f.h) M:=rfl
theorem aLx {f:Fm} {M:DM} {Q:DQ}:jZ (FmD f) (.int 3) M Q = Q (FQ f.s) M:=rfl
theorem aIW {f:Fm} {n:Nat} {t:DGs} {ρ:cB} {M:DM} {R:cB->DM->Prop}:gU n t (FmD f) ρ M R = (([PQ f.px f.py,.int f.t,.int f.h,FQ f.s]:List D).length = n/\t [PQ f.px f.py,.int f.t,.int f.h,FQ f.s] ρ M R):=rfl
theorem aFh {f:Fm} {M:DM} {Q:DQ}:rZ [FmD f] M Q = Q (.int 4) M:=rfl
end Dd
namespace Dd
open PySem PySem.Spec PyProof.Rows L2 Mz
section
variable {X:Cx} {pins:List (Addr × Obj)} {σ:L2.St} {H:Hp} {s:Shared} {M:DM}
end
section
variable {X:Cx}
end
end Dd
namespace L2
open PySem PySem.Spec PyProof.Rows
section
variable {prog:Program} {w:World} {A:Around} {R:Result->Shared->Prop} {s:Shared}
end
end L2
namespace Dd
open PySem PySem.Spec PyProof.Rows L2
section
variable {X:Cx} {g:DG} {tc:DT} {te:DE}
variable {elt iter tg cnd:Expr} {scope:Scope} {pos:Pos} {N':List Str} {fr:List (Option Nat)} {tl:DE} {ta:DA} {oN:List Str} {osc:Scope}
end
end Dd
namespace Dd
open PySem PySem.Spec PyProof.Rows L2 Mz
section
variable {X:Cx} {o e f:Expr} {to te tf:DE}
end
section
variable {X:Cx} {pins:List (Addr × Obj)} {σ:L2.St} {H:Hp} {s:Shared}
end
section
variable {X:Cx} {o:Expr} {to:DE}
noncomputable def aKd (to:DE):DE:=fun ρ M Q=>to ρ M fun x M1=>match x with
 | .ref p=>∃ ds y,M1 p = some ds/\ds[ds.length - 1]? = some y/\Q y (bI M1 p ds.dropLast)
 | _=>False
theorem yE {K:PySem.W.Frag} {H:Hp} {ds:List D} {vs:List V} (h:bK K H ds vs):bK K H ds.dropLast vs.dropLast:=by
 rw [List.dropLast_eq_take,List.dropLast_eq_take,h.length]
 exact h.take _
theorem aIL {apos cpos:Pos} (ho:PDE X o to) (hbase:attributeBase o "pop" X.env (eval o X.env) = eval o X.env:=by rfl) (hline:(apos.endLine == cpos.line) = true:=by rfl) :
  PDE X (.Call (.Attribute o "pop" apos) [] [] cpos) (aKd to) :=
 cD (aH0 PySem.F.plainAttrs_list PySem.F.slot_list_pop PySem.F.type_list_pop aJl ho hbase hline) fun σ H Q ⟨ρ,M,Q',re,hm,q,k⟩=>⟨ρ,M,_,re,hm,q,fun v H1 ⟨d,M1,rd,hm1,e1,q1⟩=>by
  cases d with
  | ref p =>
   obtain rfl:=aW rd
   obtain ⟨ds,y,hp,hy,q1⟩:=q1
   obtain ⟨us,hu,ru⟩:=hm1.l p ds hp
   obtain ⟨w,hw,rw'⟩:=ru.get hy
   refine ⟨.inl ⟨rfl,us,.of hu⟩,p,us,w,rfl,rfl,hu,by rw [<- ru.length];exact hw,k _ _ ⟨y,_,rw'.ext (Ext.put hu _),hm1.put hu (yE ru),e1.trans (Ext.put hu _),q1⟩⟩
  | _=>exact q1.elim⟩
end
end Dd
namespace Dd
open PySem PySem.Spec PyProof.Rows L2
section
variable {X:Cx} {g:DG} {tc:DT} {te:DE}
variable {elt iter tg cnd:Expr} {scope:Scope} {pos:Pos} {N':List Str} {fr:List (Option Nat)} {tl:DE} {ta:DA} {oN:List Str} {osc:Scope}
end
section
variable {X:Cx} {o e f:Expr} {to te tf:DE}
end
section
variable {X:Cx} {pins:List (Addr × Obj)} {σ:L2.St} {H:Hp} {s:Shared}
end
section
variable {X:Cx} {o:Expr} {to:DE}
theorem aCw {apos cpos:Pos} (ho:ZE X o to) (hbase:attributeBase o "pop" X.env (eval o X.env) = eval o X.env:=by rfl) (hline:(apos.endLine == cpos.line) = true:=by rfl):ZE X (.Call (.Attribute o "pop" apos) [] [] cpos) (aKd to):=.i (aIL ho.o hbase hline)
end
end Dd
namespace Dd
open PySem PySem.Spec PyProof.Rows L2
section
variable {P:Program} {w:World} {K:PySem.W.Frag} {mg:Str->Option Value} {base:Heap}
end
section
variable {X:Cx} {n x:Str} {C a:Addr} {o:Obj} {p p1 pos:Pos} {j k k':Nat} {sp:Addr->DM->DQ->Prop}
end
end Dd
namespace Dd
open PySem PySem.Spec PyProof.Rows L2
section
open PySem.SeqAt
open PySem.AutoSeq1 (wpAny_loadPart')
open PySem.MeetsSeq PySem.MeetsSeq2 PySem.MeetsSeq3
end
section
variable {prog:Program} {w:World} {A:Around} {E:Value->Shared->Prop} {s:Shared}
end
section
variable {X:Cx} {j:Nat}
end
end Dd
namespace Dd
open PySem
theorem us0 {us:List Value} (h:us.length = 0):us = []:=List.length_eq_zero_iff.mp h
theorem us1 {us:List Value} (h:us.length = 1):∃ a,us = [a]:=List.length_eq_one_iff.mp h
theorem us2 {us:List Value} (h:us.length = 2):∃ a b,us = [a,b]:=by
 cases us with
 | nil=>cases h
 | cons a r=>obtain ⟨b,rfl⟩:=us1 (us:=r) (Nat.succ.inj h);exact ⟨a,b,rfl⟩
theorem us3 {us:List Value} (h:us.length = 3):∃ a b c,us = [a,b,c]:=by
 cases us with
 | nil=>cases h
 | cons a r=>obtain ⟨b,c,rfl⟩:=us2 (us:=r) (Nat.succ.inj h);exact ⟨a,b,c,rfl⟩
theorem us4 {us:List Value} (h:us.length = 4):∃ a b c d,us = [a,b,c,d]:=by
 cases us with
 | nil=>cases h
 | cons a r=>obtain ⟨b,c,d,rfl⟩:=us3 (us:=r) (Nat.succ.inj h);exact ⟨a,b,c,d,rfl⟩
theorem us5 {us:List Value} (h:us.length = 5):∃ a b c d e,us = [a,b,c,d,e]:=by
 cases us with
 | nil=>cases h
 | cons a r=>obtain ⟨b,c,d,e,rfl⟩:=us4 (us:=r) (Nat.succ.inj h);exact ⟨a,b,c,d,e,rfl⟩
end Dd
namespace Dd
open PySem PySem.Spec PyProof.Rows L2
noncomputable instance aMe:DecidableEq D:=fun a b=>Classical.propDecidable (a = b)
noncomputable def aKL:Nat->D->Bool
 | _,.int _=>true
 | _,.str _=>true
 | n + 1,.tup ds=>ds.all (aKL n)
 | _,_=>false
section
variable {prog:Program} {w:World}
end
end Dd
namespace Dd
open PySem PySem.Spec PyProof.Rows L2
section
variable {prog:Program} {w:World} {A:Around} {E:Value->Shared->Prop} {s:Shared} {it d:Addr} {i ep:Nat} {es:Array DictEntry}
end
end Dd
namespace Dd
open PySem PySem.Spec PyProof.Rows L2
structure TK (kvs:List (D × D)):Prop where
 key:∀ p ∈ kvs,(∃ ds,p.1 = .tup ds)/\aKL 6 p.1 = true
 nd:(kvs.map (·.1)).Nodup
theorem TK.nil:TK []:=⟨(fun _ h=>(nomatch h)),List.nodup_nil⟩
noncomputable def KX (K:PySem.W.Frag) (H:Hp) (p:D × D) (x:D × Addr × Value):Prop:=p.1 = x.1/\Rep K H p.1 (.ref x.2.1)/\∃ vv,bW vv x.2.2/\Rep K H p.2 vv
section
variable {X:Cx} {pins:List (Addr × Obj)} {σ:L2.St} {H:Hp} {s:Shared}
theorem Paired.len {α β:Type} {F:α->β->Prop}:∀ {l:List α} {l':List β},Paired F l l'->l.length = l'.length
 | _,_,.nil=>rfl
 | _,_,.cons _ t=>by rw [List.length_cons,List.length_cons,Paired.len t]
end
section
variable {X:Cx} {pos:Pos}
end
end Dd
namespace Dd
open PySem PySem.W PyProof.Rows
section
variable {n:Nat} {lt:Nat->Nat->Bool} {p:Array Nat}
end
section
variable {n:Nat} {p:Array Nat}
end
end Dd
namespace Dd
open PySem PySem.Spec PyProof.Rows L2
section
variable {prog:Program} {w:World} {A:Around} {E:Value->Shared->Prop} {s:Shared}
end
section
variable {X:Cx} {pins:List (Addr × Obj)} {σ:L2.St} {H:Hp} {s:Shared}
end
end Dd
namespace L2
open PySem PySem.Spec PyProof.Rows
end L2
namespace Dd
open PySem PySem.Spec PyProof.Rows L2
section
variable {X:Cx} {pos:Pos} {iter tg:Expr} {body:List Stmt} {tl:DE} {g:DG} {tb:DS} {ta:DA}
theorem aLR {CX:CXT} {P:Program} {w:World} {K:PySem.W.Frag} {mg:Str->Option Value} {base:Heap} {N:List Str} {qual:Str} {scope:Scope} {f:Addr} {cd:Value} {A:Around} {outer:List Env} {s:Shared} {H:Hp} {E:XK}:(nS CX P w K mg base N qual scope f cd A outer s H E).w = w:=rfl
end
end Dd
namespace L2
open PySem PySem.Spec PyProof.Rows
section
variable {prog:Program} {w:World} {A:Around} {E:Value->Shared->Prop} {s:Shared}
end
end L2
namespace L2
open PySem PySem.Spec PyProof.Rows
end L2
namespace Dd
open PySem PySem.Spec PyProof.Rows L2
section
variable {X:Cx} {pos:Pos} {iter tg:Expr} {body:List Stmt} {tl:DE} {g:DG} {tb:DS} {ta:DA}
end
end Dd
namespace L2
open PySem PySem.Spec PyProof.Rows
end L2
namespace Dd
open PySem PySem.Spec PyProof.Rows L2
section
variable {X:Cx} {pos:Pos} {iter tg elt:Expr} {body:List Stmt} {tl te:DE} {g:DG} {tb:DS} {ta:DA}
variable {scope:Scope} {N':List Str} {fr:List (Option Nat)} {oN:List Str} {osc:Scope}
end
end Dd
namespace Dd
open PySem PySem.Spec PyProof.Rows L2
theorem aAU:fillsNumberSlot (.type "tuple") "mul" = pure false :=
 PySem.fillsNumberSlot_seq (id:="tuple.__mul__") (r:=some (.builtin "tuple.__rmul__")) F.slot_tuple_mul.lookup (by decide +kernel) F.slot_tuple_rmul.lookup (by decide +kernel)
theorem aE3:seqRepeat? (.type "tuple") = pure (some (.builtin "tuple.__mul__")):=by
 unfold seqRepeat?
 rw [PySem.seqSlot_of (T:="tuple") (name:="__mul__") (id:="tuple.__mul__") F.slot_tuple_mul.lookup (by decide +kernel),PySem.seqSlot_of (T:="tuple") (name:="__rmul__") (id:="tuple.__rmul__") F.slot_tuple_rmul.lookup (by decide +kernel)]
 rfl
section
variable {prog:Program} {w:World} {A:Around} {E:Value->Shared->Prop} {s:Shared}
theorem aEN (a:Int) (t:Tok) (l:Addr) (items:Array Value) (n:Nat) (di:Option Addr) (sl:Array (Option Value)) :
  Meets (Builtin.«int.__rmul__» ⟨[.int a t,.ref l],[]⟩) (fun _ R s=>s.heap.get? l = some { cls:=.type "tuple",dict:=di,data:=.seq items n,slots:=sl }/\R (.ok (.ret Value.notImplemented)) s) :=
 .of_wp fun prog w A R s h=>by obtain ⟨hp,g,d,tk,os⟩:=s;obtain ⟨hl,h⟩:=h;wp_walk;exact ⟨_,rfl,h⟩
theorem aE4 (t:Tok) (l:Addr) (items:Array Value) (n:Nat) (di:Option Addr) (sl:Array (Option Value)) :
  Meets (Builtin.«tuple.__mul__» ⟨[.ref l,.int 1 t],[]⟩) (fun _ R s=>s.heap.get? l = some { cls:=.type "tuple",dict:=di,data:=.seq items n,slots:=sl }/\R (.ok (.ret (.ref l))) s) :=
 .of_wp fun prog w A R s h=>by
  obtain ⟨hp,g,d,tk,os⟩:=s
  obtain ⟨hl,h⟩:=h
  wp_walk
  exact ⟨_,rfl,h⟩
theorem wT (items:Array Value):∀ (k:Nat) (acc:Array Value),((List.replicate k items).foldl (· ++ ·) acc).size = acc.size + k * items.size
 | 0,acc=>by simp
 | k + 1,acc=>by rw [List.replicate_succ,List.foldl_cons,wT items k,Array.size_append,Nat.succ_mul];omega
theorem aFT (k:Int) (t:Tok) (l:Addr) (items:Array Value) (n:Nat) (di:Option Addr) (sl:Array (Option Value)) (h1:k ≠ 1) (h2:-(2 ^ 63)<=k) (h3:k < 2 ^ 63) (he:items.isEmpty = false) (hz:items.size * k.toNat<=sizeLine) :
  Meets (Builtin.«tuple.__mul__» ⟨[.ref l,.int k t],[]⟩) (fun _ R s=>s.heap.get? l = some { cls:=.type "tuple",dict:=di,data:=.seq items n,slots:=sl } /\
   R (.ok (.ret (.ref s.heap.objs.size))) { s with heap:=s.heap.push { cls:=.type "tuple",data:=.seq ((List.replicate k.toNat items).foldl (· ++ ·) #[]) } }) :=
 .of_wp fun prog w A R s h=>by
  obtain ⟨hp,g,d,tk,os⟩:=s
  obtain ⟨hl,h⟩:=h
  wp_walk
  refine wpAny_ite_split (fun z=>absurd z (by simp;omega)) fun _=>?_
  wp_walk
  have line:(sizeLine:Int)<=(2 ^ 63 - 1) / 8:=by decide
  by_cases k0:k<=0
  ·refine wpAny_ite_split (fun _=>?_) fun z=>absurd (by simp [k0]) z
   have e0:k.toNat = 0:=by omega
   rw [e0] at h
   wp_walk
   exact ⟨_,rfl,h⟩
  ·refine wpAny_ite_split (fun z=>absurd z (by rw [he];simp;omega)) fun _=>?_
   have e1:(items.size:Int) * k = ((items.size * k.toNat:Nat):Int):=by rw [Int.natCast_mul,Int.toNat_of_nonneg (by omega)]
   refine wpAny_ite_split (fun z=>absurd z (by rw [e1];omega)) fun _=>?_
   refine wpAny_ite_split (fun z=>absurd z (by unfold Builtin.Tuple.tupleTooMany;rw [e1];simp only [gt_iff_lt,decide_eq_true_eq,Int.not_lt];exact Int.ofNat_le.mpr hz)) fun _=>?_
   have hz':((List.replicate k.toNat items).foldl (· ++ ·) #[]).size<=sizeLine:=by
    have:=wT items k.toNat #[]
    rw [this];simpa [Nat.mul_comm] using hz
   wp_walk
   exact ⟨_,rfl,h⟩
end
section
variable {X:Cx} {pos:Pos}
theorem vD {K:PySem.W.Frag} {H:Hp} {ds:List D} {vs:List V} (r:bK K H ds vs):∀ k:Nat,bK K H (List.replicate k ds).flatten (List.replicate k vs).flatten
 | 0=>cP
 | k + 1=>by rw [List.replicate_succ,List.flatten_cons,List.replicate_succ,List.flatten_cons];exact r.append (vD r k)
theorem wF {vs:List V} {us:List Value} (r:bR vs us):∀ k:Nat,bR (List.replicate k vs).flatten (List.replicate k us).flatten
 | 0=>.nil
 | k + 1=>by rw [List.replicate_succ,List.flatten_cons,List.replicate_succ,List.flatten_cons];exact r.append (wF r k)
theorem yR (its:List Value) (k:Nat):(List.replicate k its.toArray).foldl (· ++ ·) #[] = (List.replicate k its).flatten.toArray:=by
 have g:∀ (k:Nat) (acc:List Value),(List.replicate k its.toArray).foldl (· ++ ·) acc.toArray = (acc ++ (List.replicate k its).flatten).toArray:=fun k=>by
  induction k with
  | zero=>intro acc;simp
  | succ k ih =>
   intro acc
   rw [List.replicate_succ,List.foldl_cons,List.append_toArray,ih,List.replicate_succ,List.flatten_cons,List.append_assoc]
 exact g k []
noncomputable def aLi:DSp:=fun ds M Q=>match ds with
 | [.ref a]=>∃ ns:List Int,M a = some (ns.map D.int)/\Q (.int ns.sum) M
 | _=>False
theorem xD:∀ {ns:List Int} {vs:List V} {us:List Value} {K:PySem.W.Frag} {H:Hp},bK K H (ns.map D.int) vs->bR vs us->∃ ps:List (Int × Tok),us = ps.map (fun p=>Value.int p.1 p.2)/\ps.map (·.1) = ns
 | [],vs,us,K,H,r,v=>by
  rw [bM r] at v
  cases v
  exact ⟨[],rfl,rfl⟩
 | n :: ns,vs,us,K,H,r,v=>by
  obtain ⟨x,rr,rfl,rx,rs⟩:=aY r
  cases v with
  | cons q1 q2 =>
   obtain ⟨ps,e1,e2⟩:=xD rs q2
   rw [aU rx] at q1
   obtain ⟨t,rfl⟩:=q1
   exact ⟨(n,t) :: ps,by rw [e1];rfl,by rw [List.map_cons,e2]⟩
theorem aIs (hc:X.calm = true):gK X (.builtin "sum") aLi:=by
 intro pins s σ H xs us Q I r ⟨ds,M,Q',rs,hm,q,k⟩
 match ds,q with
 | [.ref a],q =>
  obtain ⟨ns,ha,q⟩:=q
  obtain ⟨v,rfl,rv⟩:=gM rs
  obtain rfl:=aW rv
  obtain ⟨u,rfl,ru⟩:=zD r
  cases ru
  obtain ⟨vs,hH,hr⟩:=hm.l a _ ha
  obtain ⟨hz,its,n,hv,hl,e⟩:=I.lstM hH
  obtain ⟨ps,e1,e2⟩:=xD hr hv
  have hi:s.heap.IsList a (intItems ps.toArray):=⟨_,e,rfl,n,by rw [e1];simp [intItems]⟩
  refine sum_intListG (I.ok.hd hc) hi fun h' tk t' kp=>?_
  have es:preSum (numAt ps.toArray) ps.toArray.size = ns.sum:=by
   rw [preSum_eq,List.toList_toArray,e2,List.size_toArray,show ps.length = ns.length by rw [<- e2,List.length_map],List.take_length]
  rw [es]
  exact ⟨.int ns.sum,H,I.kept kp,⟨t',rfl⟩,k _ _ ⟨.int ns.sum,M,bT,hm,.refl H,q⟩⟩
noncomputable def aF6 (w:World) (K:PySem.W.Frag) (mg:Str->Option Value) (x:Str) (names:List (Str × Str)):Prop :=
 ∃ a es ep,mg x = some (.ref a)/\K.lookup a = some ⟨.type "dict",none,.dict es ep,#[]⟩/\PySem.W.KeysLit w.params es.toList/\∀ k n,names.lookup k = some n->∃ f,PySem.W.nsIn K a k = some (some (.ref f))/\mg n = some (.ref f)
noncomputable def aHX (mg:Str->Option Value) (names:List (Str × Str)) (ti:DE):DE:=fun ρ M Q=>ti ρ M fun d M1=>match d with
 | .str k=>∃ n,names.lookup k = some n/\∀ f,mg n = some (.ref f)->Q (.ref f) M1
 | _=>False
theorem aJn {x:Str} {names:List (Str × Str)} {p:Pos} {i:Expr} {ti:DE} (T:aF6 X.w X.K X.mg x names) (hi:PDE X i ti) (hg:Gl X x:=by rfl) (hd:(x == ("__debug__":Str)) = false:=by decide) (hs:qI i:=by intro _ _;rfl) :
  PDE X (.Subscript (.Name x p) i pos) (aHX X.mg names ti):=by
 obtain ⟨a,es,ep,hm,hk,ks,look⟩:=T
 intro pins s σ H Q I ⟨ρ,M,Q',re,hm',q,kq⟩
 refine Subscript_ (lT I hg hm ?_ hd)
 refine thn (hi pins s σ H (LQ X.K H fun d M1=>match d with
  | .str k=>∃ n,names.lookup k = some n/\∀ f,X.mg n = some (.ref f)->Q' (.ref f) M1
  | _=>False) I ⟨ρ,M,_,re,hm',q,fun _ _ z=>z⟩) fun u s1 ⟨y,H1,I1,ry,d1,M1,r1,hm1,e1,q1⟩=>?_
 cases d1 with
 | str k =>
  obtain ⟨n,hn,q1⟩:=q1
  obtain ⟨f,hf,hmf⟩:=look k n hn
  rw [cU r1] at ry
  obtain ⟨t,rfl⟩:=ry
  have mo:=PySem.W.mapOf_K (prog:=X.prog) (w:=X.w) I1.kIn hk ks
  refine subscriptTail_builtinR (x:=.ref f) (T:="dict") mo.typeIs PySem.F.slot_dict_getitem.lookup (wpAny_getItem_of (strKind_is X.prog X.w k t) mo (PySem.W.find_K hk hf) ⟨rfl,?_⟩) (hs _ _)
  exact ⟨.ref f,H1,I1.tok _,rfl,kq _ _ ⟨.ref f,M1,iO,hm1,e1,q1 f hmf⟩⟩
 | _=>exact q1.elim
noncomputable def aB3 (P:Program) (w:World) (K:PySem.W.Frag) (mg:Str->Option Value) (base:Heap) (j:Nat) (tf:DE) (ta:DA):DE:=fun ρ M Q=>tf ρ M fun d M1=>match d with
 | .ref f=>∃ n ps sp,mg n = some (.ref f)/\Has P w K mg base j n ps sp/\ta ρ M1 fun ds M2=>sp ds M2 Q
 | _=>False
theorem aEM {x:Str} {p:Pos} {e:Expr} {es:List Expr} {tf:DE} {ta:DA} {j k:Nat} (hf:PDE X (.Name x p) tf) (hr:eQ k X.A) (hjk:j<=k) (ha:PDA X (e :: es) ta)
  (he:starEach (e :: es) X.env = (false,eval e X.env) :: starEach es X.env:=by rfl) (hpl:(backTo pos (starEach es X.env)).any (·.1) = false:=by rfl):PDE X (.Call (.Name x p) (e :: es) [] pos) (aB3 X.prog X.w X.K X.mg X.base j tf ta):=by
 intro pins s σ H Q I ⟨ρ,M,Q',re,hm',q,kq⟩
 refine wpAny_Call_Name_kw (thn (hf pins s σ H _ I ⟨ρ,M,_,re,hm',q,fun _ _ z=>z⟩) fun u s1 ⟨y,H1,I1,ry,d1,M1,r1,hm1,e1,q1⟩=>?_)
 cases d1 with
 | ref f =>
  obtain ⟨n,ps,sp,hm,⟨f',fd,F,hm2,hk,hb⟩,q1⟩:=q1
  obtain rfl:f = f':=by rw [hm] at hm2;cases hm2;rfl
  rw [aW r1] at ry
  cases ry
  refine PySem.W.callWith_K (h₀:=X.base) I1.ok.mod.kin hk (thn (ha pos pins s1 σ H1 _ I1 ⟨ρ,M1,_,re.ext e1,hm1,q1,fun _ _ z=>z⟩) fun us s2 ⟨vs,H2,I2,r2,ds,M2,rs,hm2,e2,q2⟩=>⟨I2.kIn,?_⟩) he hpl
  exact aBY F (hr.mono hjk) hb .nil aEw I2 r2 ⟨ds,M2,Q',by rw [List.append_nil];exact rs,hm2,q2,fun v H' z=>kq v H' (z.back (e1.trans e2))⟩
 | _=>exact q1.elim
end
section
variable {P:Program} {w:World} {K:PySem.W.Frag} {mg:Str->Option Value} {base:Heap}
theorem mO.mkZ {x c:Str} {C:Addr} {st:Stmt} {N ps:List Str} {k:Nat} {cond:List D->DM->Prop} (h:bO K mg x st ps) (hc:tP K mg c C) (S:aP N ps (aI st)) (len:∀ ds M,cond ds M->ds.length = ps.length)
  (hbody:∀ (f:Addr) (cdv:Value) (A:Around) (outer:List Env) (s:Shared) (H:Hp) (ds:List D) (M:DM) (E:XK),eQ k (A.deeper (envOfC x (aI st) s.heap.objs.size f cdv))->cond ds M ->
   rJ (nS (CXr P w) P w K mg base N x (aI st) f cdv A outer s H E) c (bG M) ->
   ∃ t,ZSs (nS (CXr P w) P w K mg base N x (aI st) f cdv A outer s H E) (eS st) t/\t { nx:=fun _ _=>False,rt:=fun _ _=>False } (iB N ds) M):mO P w K mg base (k + 1) x ps C cond :=
 mO.mk h hc S len fun f cdv A outer s H ds M E hr h hRO=>let ⟨t,h1,h2⟩:=hbody f cdv A outer s H ds M E hr h hRO;⟨t,h1.o,h2⟩
end
end Dd
namespace HT
open PySem PyProof.Rows
section
variable {prog:Program} {w:World} {A:Around} {E:Value->Shared->Prop} {s:Shared}
theorem getItem_tuple_whole {t sl:Addr} {items:Array Value} {vl vu:Value} {lo hi:Option Int} {Q:Value->Shared->Prop} (ht:IsTup s.heap t items) (hs:s.heap.IsSliceOf sl vl vu .none) (pl:IsPart vl lo) (pu:IsPart vu hi)
  (hw:sIx items.size 0 lo = 0/\sIx items.size items.size hi = items.size)
  (h:Q (.ref t) s):wpAny (model prog w) A (getItem (.ref t) (.ref sl)) Q E s:=by
 obtain ⟨os,hos,hcs,hds⟩:=id hs
 have hTs:s.TypeIs (.ref sl) "slice":=⟨os,hos,hcs⟩
 unfold getItem
 try with_reducible refine wpAny_holding ?_
 first | refine wpAny_bind (wpAny_pure ?_) | skip
 refine wpAny_bind (wpAny_sequenceKey ht.typeIs (by decide) ?_)
 refine wpAny_bind (wpAny_callSpecial?_slot (name:=Str.ofString "__getitem__") ht.typeIs PyProof.Rows.slot_tuple_getitem
  (wpAny_call_entry PyProof.Rows.slot_tuple_getitem ht.typeIs entry_tuple_getitem ?_ (args_tuple_getitem _ _)))
 show wpAny _ _ (Builtin.Tuple.tupleItemsOf (.ref t) >>= _) _ _ s
 refine wpAny_bind (tupleItemsOf_ ht ?_)
 refine wpAny_bind (wpAny_typeOf hTs ?_)
 rw [if_pos (by decide)]
 refine wpAny_bind (kQ hs pl pu ?_)
 have hyes:(((sIx items.size 0 lo:Nat):Int) == 0 && (1:Int) == 1 && (sIx items.size items.size hi - sIx items.size 0 lo) == items.size) = true:=by
  rw [hw.1,hw.2];simp
 show wpAny _ _ (if (((sIx items.size 0 lo:Nat):Int) == 0 && (1:Int) == 1 && (sIx items.size items.size hi - sIx items.size 0 lo) == items.size) = true then _ else _) _ _ s
 rw [if_pos hyes]
 obtain ⟨ot,hot,hct,n,hdt⟩:=id ht
 wp_walk
 first
  | exact ⟨_,rfl,wpAny_pure h⟩
  | exact ⟨_,rfl,h⟩
  | exact h
end
end HT
namespace L2
open PySem PySem.Spec PyProof.Rows
variable {X:Cx}
noncomputable def aLG (K:PySem.W.Frag):V->Option Int->Option Int->Hp->VK->Prop:=fun x lo hi H Q=>∃ a xs,x = .ref a/\SqT K H a xs /\
 (HT.sIx xs.length 0 lo = 0/\HT.sIx xs.length xs.length hi = xs.length)/\Q (.ref a) H
theorem aEl:SlR X (aLG X.K):=by
 intro pins s σ H x v vl vu lo hi sl Q I rx hs pl pu h
 obtain ⟨a,xs,rfl,hx,hw,q⟩:=h
 cases rx
 obtain ⟨its,r,ht,hz⟩:=I.tuple hx
 have hlen:its.toArray.size = xs.length:=by rw [List.size_toArray];exact r.length.symm
 refine ⟨"tuple",_,PyProof.Rows.slot_tuple_getitem.lookup,ht.typeIs,?_⟩
 exact HT.getItem_tuple_whole ht hs pl pu (by rw [hlen];exact hw) ⟨.ref a,H,I,rfl,q⟩
end L2
namespace Dd
open PySem PySem.Spec PyProof.Rows L2
section
variable {X:Cx} {e:Expr} {te:DE} {pos p2:Pos} {lo hi:Option Expr} {tl th:DO}
noncomputable def aHJ (x:D) (lo hi:Option Int) (M:DM) (Q:DQ):Prop:=match x with
 | .tup ds=>Q (.tup (cutD ds lo hi)) M
 | _=>False
noncomputable def aJr (te:DE) (tl th:DO):DE:=fun ρ M Q=>te ρ M fun x M1=>tl ρ M1 fun l M2=>th ρ M2 fun h M3=>aHJ x l h M3 Q
theorem aDD {ds:List D} {lo hi:Option Int} (h:HT.sIx ds.length 0 lo = 0/\HT.sIx ds.length ds.length hi = ds.length):cutD ds lo hi = ds:=by
 unfold cutD
 rw [h.1,h.2];simp
theorem aDB (he:PDE X e te) (hl:PO X lo (aAN X.K tl)) (hu:PO X hi (aAN X.K th)):PDE X (.Subscript e (.Slice lo hi none p2) pos) (aJr te tl th) :=
 cD (aBb (SlR.or aHZ aEl) he hl hu) fun σ H Q ⟨ρ,M,Q',re,hm,q,k⟩=>⟨ρ,M,_,re,hm,q,fun v H1 ⟨d,M1,rd,hm1,e1,q1⟩=>⟨ρ,M1,_,re.ext e1,hm1,q1,fun l H2 ⟨M2,hm2,e2,q2⟩=>⟨ρ,M2,_,(re.ext e1).ext e2,hm2,q2,fun h H3 ⟨M3,hm3,e3,q3⟩=>by
  have rd3:=(rd.ext e2).ext e3
  have ex:=(e1.trans e2).trans e3
  cases d with
  | tup ds =>
   obtain ⟨a,us,rfl,sq,ru⟩:=bH rd3
   have l1:=ru.length
   have q3:Q' (.tup (cutD ds l h)) M3:=q3
   by_cases hw:HT.sIx ds.length 0 l = 0/\HT.sIx ds.length ds.length h = ds.length
   ·rw [aDD hw] at q3
    exact .inr ⟨a,us,rfl,sq,by rw [<- l1];exact hw,k _ _ ⟨.tup ds,M3,bJ sq ru,hm3,ex,q3⟩⟩
   ·exact .inl ⟨a,us,rfl,sq,by rw [<- l1];exact hw,fun p hp=>k _ _ ⟨.tup _,M3,bJ (.of eJ) ((wM ru l h).ext (Ext.new hp _)),hm3.new hp _,ex.trans (Ext.new hp _),q3⟩⟩
  | _=>exact q3.elim⟩⟩⟩
end
end Dd
namespace Dd
open PySem PySem.Spec PyProof.Rows L2
section
variable {X:Cx} {pins:List (Addr × Obj)} {σ:L2.St} {H:Hp} {s:Shared} {M:Model} {A:Around} {E:Value->Shared->Prop} {e T:Addr} {cls:Value}
end
section
variable {X:Cx} {e:Expr} {es:List Expr} {t:DA} {f:Str} {ps:List Str} {cond:List D->DM->Prop} {C:Addr} {k1 k:Nat} {V:DM->Prop} {pf pc:Pos}
end
section
variable {P:Program} {w:World} {K:PySem.W.Frag} {mg:Str->Option Value} {base:Heap}
theorem Has.never {x:Str} {st:Stmt} {N ps:List Str} (h:bO K mg x st ps) (S:aP N ps (aI st)) (k:Nat):Has P w K mg base (k + 1) x ps (fun _ _ _=>False) :=
 Has.mk h S (fun _ _ _ z=>z.elim) fun _ _ _ _ _ _ _ _ _ _ _ z=>z.elim
theorem Has.mono {x:Str} {ps:List Str} {k k':Nat} {sp:DSp} (h:Has P w K mg base k x ps sp) (l:k<=k'):Has P w K mg base k' x ps sp:=by
 obtain ⟨f,fd,F,hm,hk,hb⟩:=h
 exact ⟨f,fd,F.mono l,hm,hk,hb⟩
end
section
variable {X:Cx} {a:Expr} {e tg:Expr} {es:List Expr} {t:DA} {g:DG} {f n cm:Str} {ps:List Str} {sp:DSp} {cond:List D->DM->Prop} {C Cm:Addr} {k1 k2 k j:Nat} {ts:Addr->DS} {b0:Stmt} {suite:List Stmt} {pf pc pa pcm ph pos:Pos}
end
end Dd
namespace Dd
open PySem PySem.Spec PyProof.Rows L2
open PySem.AutoSeq1 (wpAny_loadPart')
theorem tD (l b:Addr) (items items2:Array Value) (n n2:Nat) (dd dd2:Option Addr) (sl sl2:Array (Option Value)) (hc0:items.isEmpty = true) :
  Meets (Builtin.«tuple.__add__» ⟨[.ref l,.ref b],[]⟩) (fun _ R s=>s.heap.get? l = some { cls:=.type "tuple",dict:=dd,data:=.seq items n,slots:=sl }/\s.heap.get? b = some { cls:=.type "tuple",dict:=dd2,data:=.seq items2 n2,slots:=sl2 }/\R (.ok (.ret (Value.ref b))) { s with heap:=s.heap,toks:=s.toks }) :=
 .of_wp fun prog w A R s h=>by obtain ⟨hp,g,d,tk,os⟩:=s;obtain ⟨hl,hb,h⟩:=h;have f1:=AutoSeq1.idx_int;have f2:=AutoSeq1.sub_tuple_tuple;have f3:=AutoSeq1.sub_list_list;have f4:=AutoSeq1.sub_tuple_list;have f5:=AutoSeq1.sub_list_tuple;wp_walk using wpAny_loadPart' hl,wpAny_loadPart' hb;exact ⟨_,rfl,h⟩
section
variable {X:Cx}
noncomputable def aFj:D2:=fun x y M Q=>match x,y with
 | .tup xs,.tup ys=>xs.length + ys.length<=1000/\Q (.tup (xs ++ ys)) M
 | _,_=>False
theorem tV:OpD X (binaryOp .Add) aFj:=by
 intro pins s σ H x y v u Q I rx ry ⟨dx,dy,M,Q',r1,r2,hm,q,k⟩
 match dx,dy,q with
 | .tup xs,.tup ys,q =>
  obtain ⟨hl,q⟩:=q
  obtain ⟨a,us,rfl,sq,ru⟩:=bH r1
  obtain ⟨b,ws,rfl,sq2,rw'⟩:=bH r2
  have l3:=ru.length
  have l4:=rw'.length
  by_cases n1:us = []
  ·have nx:xs = []:=List.length_eq_zero_iff.mp (by rw [l3,n1];rfl)
   rw [nx] at q
   cases rx
   cases ry
   obtain ⟨its,r5,p1,_⟩:=I.tuple sq
   obtain ⟨its2,r6,p2,_⟩:=I.tuple sq2
   obtain ⟨⟨cls,dd,data,sl⟩,ho,hc,n,hd⟩:=id p1
   obtain ⟨⟨cls2,dd2,data2,sl2⟩,ho2,hc2,n2,hd2⟩:=id p2
   simp only at hc hd hc2 hd2
   subst hc hd hc2 hd2
   have e0:its = []:=List.length_eq_zero_iff.mp (by rw [<- r5.length,n1];rfl)
   exact concat_meets ⟨_,ho,rfl⟩ ⟨_,ho2,rfl⟩ noFill_tuple_add seq_tuple_add PySem.F.slot_tuple_add PySem.F.entry_tuple_add (PySem.F.args_tuple_add_2 _ _)
    (tD a b its.toArray its2.toArray n n2 dd dd2 sl sl2 (by rw [e0];rfl)) ⟨ho,ho2,.ref b,H,I,rfl,k _ H ⟨.tup ys,M,bJ sq2 rw',hm,.refl H,q⟩⟩
  ·refine aCW pins s σ H _ _ v u Q I rx ry ?_
   refine ⟨a,b,us,ws,rfl,rfl,sq,sq2,n1,by rw [<- l3,<- l4];exact Nat.le_of_lt (eL hl),fun z=>?_,fun _ p hp=>k _ _ ⟨.tup _,M,bJ (.of eJ) ((ru.append rw').ext (Ext.new hp _)),hm.new hp _,Ext.new hp _,q⟩⟩
   have ny:ys = []:=List.length_eq_zero_iff.mp (by rw [l4,z];rfl)
   rw [ny,List.append_nil] at q
   exact k _ H ⟨.tup xs,M,bJ sq ru,hm,.refl H,q⟩
end
end Dd
namespace Dd
open PySem PySem.Spec PyProof.Rows L2
section
variable {X:Cx} {pins:List (Addr × Obj)} {σ:L2.St} {H:Hp} {s:Shared}
end
section
variable {X:Cx} {pos:Pos}
end
section
variable {X:Cx} {pos:Pos} {iter tg:Expr} {body:List Stmt} {tl:DE} {g:DG} {tb:DS} {ta:DA}
end
section
variable {X:Cx} {pos:Pos} {iter tg:Expr} {body:List Stmt} {tl:DE} {g:DG} {tb:DS} {ta:DA}
end
section
variable {X:Cx} {pos:Pos} {iter tg elt:Expr} {body:List Stmt} {tl te:DE} {g:DG} {tb:DS} {ta:DA}
variable {scope:Scope} {N':List Str} {fr:List (Option Nat)} {oN:List Str} {osc:Scope}
end
section
variable {prog:Program} {w:World} {A:Around} {E:Value->Shared->Prop} {s:Shared}
end
section
variable {X:Cx} {pos:Pos}
theorem aGz {x:Str} {names:List (Str × Str)} {p:Pos} {i:Expr} {ti:DE} (T:aF6 X.w X.K X.mg x names) (hi:ZE X i ti) (hg:Gl X x:=by rfl) (hd:(x == ("__debug__":Str)) = false:=by decide) (hs:qI i:=by intro _ _;rfl):ZE X (.Subscript (.Name x p) i pos) (aHX X.mg names ti):=.i (aJn (i:=i) T hi.o hg hd hs)
theorem aDL {x:Str} {p:Pos} {e:Expr} {es:List Expr} {tf:DE} {ta:DA} {j k:Nat} (hf:ZE X (.Name x p) tf) (hr:eQ k X.A) (hjk:j<=k) (ha:ZA X (e :: es) ta) (he:starEach (e :: es) X.env = (false,eval e X.env) :: starEach es X.env:=by rfl) (hpl:(backTo pos (starEach es X.env)).any (·.1) = false:=by rfl):ZE X (.Call (.Name x p) (e :: es) [] pos) (aB3 X.prog X.w X.K X.mg X.base j tf ta):=.i (aEM (j:=j) (k:=k) hf.o hr hjk ha.o he hpl)
end
section
variable {P:Program} {w:World} {K:PySem.W.Frag} {mg:Str->Option Value} {base:Heap}
end
section
variable {X:Cx} {e:Expr} {te:DE} {pos p2:Pos} {lo hi:Option Expr} {tl th:DO}
theorem oU (he:ZE X e te) (hl:ZO X lo tl) (hu:ZO X hi th):ZE X (.Subscript e (.Slice lo hi none p2) pos) (aJr te tl th):=.i (aDB he.o hl.o hu.o)
end
section
variable {X:Cx} {pins:List (Addr × Obj)} {σ:L2.St} {H:Hp} {s:Shared} {M:Model} {A:Around} {E:Value->Shared->Prop} {e T:Addr} {cls:Value}
end
section
variable {X:Cx} {e:Expr} {es:List Expr} {t:DA} {f:Str} {ps:List Str} {cond:List D->DM->Prop} {C:Addr} {k1 k:Nat} {V:DM->Prop} {pf pc:Pos}
end
section
variable {P:Program} {w:World} {K:PySem.W.Frag} {mg:Str->Option Value} {base:Heap}
end
section
variable {X:Cx} {a:Expr} {e tg:Expr} {es:List Expr} {t:DA} {g:DG} {f n cm:Str} {ps:List Str} {sp:DSp} {cond:List D->DM->Prop} {C Cm:Addr} {k1 k2 k j:Nat} {ts:Addr->DS} {b0:Stmt} {suite:List Stmt} {pf pc pa pcm ph pos:Pos}
end
section
variable {X:Cx}
end
end Dd
namespace Dd
open PySem PySem.Spec PyProof.Rows L2
section
variable {X:Cx} {pins:List (Addr × Obj)} {σ:L2.St} {H:Hp} {s:Shared}
end
end Dd
namespace Dd
open PySem PySem.Spec PyProof.Rows L2
noncomputable def Cm (M:DM):Nat->D->D->Bool->Prop
 | 0,d,d',b=>bB 0 d = true/\bB 0 d' = true/\b = eqD d d'
 | n + 1,d,d',b=>match d,d' with
  | .tup xs,.tup ys=>∃ e:Nat->Bool,(∀ j x y,xs[j]? = some x->ys[j]? = some y->Cm M n x y (e j))/\b = ((List.range (min xs.length ys.length)).all e && xs.length == ys.length)
  | .ref a,.ref a'=>∃ xs ys,M a = some xs/\M a' = some ys/\a ≠ a'/\(xs.length = ys.length->∃ e:Nat->Bool,(∀ j x y,xs[j]? = some x->ys[j]? = some y->Cm M n x y (e j))/\b = (List.range xs.length).all e)/\(xs.length ≠ ys.length->b = false)
  | d,d'=>bB 0 d = true/\bB 0 d' = true/\b = eqD d d'
section
variable {X:Cx} {pins:List (Addr × Obj)} {σ:L2.St} {H:Hp} {s:Shared} {M:DM}
theorem aK7 {n:Nat} {d d':D} {b:Bool} (h:Cm M n d d' b) (h1:∀ xs,d ≠ .tup xs) (h2:∀ a,d ≠ .ref a):bB 0 d = true/\bB 0 d' = true/\b = eqD d d':=by
 cases n with
 | zero=>exact h
 | succ n =>
  cases d with
  | tup xs=>exact absurd rfl (h1 xs)
  | ref a=>exact absurd rfl (h2 a)
  | _=>exact h
theorem aG9:∀ (n:Nat) {d d':D} {b:Bool} {v:V},Inv X pins σ H s->Cm M n d d' b->Rep X.K H d v->Rep X.K H d' v->b = true:=by
 intro n
 induction n with
 | zero =>
  intro d d' b v I h r r'
  rw [h.2.2];exact rG h.1 h.2.1 r r'
 | succ n ih =>
  intro d d' b v I h r r'
  cases d with
  | tup xs =>
   cases d' with
   | tup ys =>
    obtain ⟨e,he,rfl⟩:=h
    obtain ⟨a,us,rfl,sq,rs⟩:=bH r
    obtain ⟨a',us',z,sq',rs'⟩:=bH r'
    cases z
    obtain rfl:=I.tuple_inj sq sq'
    have l1:=rs.length
    have l2:=rs'.length
    rw [show (xs.length == ys.length) = true by simp;omega,Bool.and_true,List.all_eq_true]
    intro j hj
    rw [List.mem_range] at hj
    have j1:j < xs.length:=by omega
    have j2:j < ys.length:=by omega
    have e1:xs[j]? = some xs[j]:=List.getElem?_eq_getElem j1
    have e2:ys[j]? = some ys[j]:=List.getElem?_eq_getElem j2
    obtain ⟨v1,w1,r1⟩:=rs.get e1
    obtain ⟨v2,w2,r2⟩:=rs'.get e2
    rw [w1] at w2
    cases w2
    exact ih I (he j _ _ e1 e2) r1 r2
   | _=>exact absurd h.1 Bool.false_ne_true
  | ref a =>
   cases d' with
   | ref a' =>
    obtain ⟨xs,ys,_,_,ne,_⟩:=h
    rw [aW r] at r'
    have:=aW r'
    cases this
    exact absurd rfl ne
   | _=>exact absurd h.1 Bool.false_ne_true
  | _=>rw [h.2.2];exact rG h.1 h.2.1 r r'
theorem aBr {A:Around} {n:Nat} {e:Nat->Bool} (hm:cG X.K M H) (I:Inv X pins σ H s) (ih:∀ {d d':D} {b:Bool} {v v':V} {u u':Value},Cm M n d d' b->Rep X.K H d v->Rep X.K H d' v'->bW v u->bW v' u'->SeqAt.EqAt A s u u' b)
  {xs ys:List D} {us us':List V} {its its':List Value} (he:∀ j x y,xs[j]? = some x->ys[j]? = some y->Cm M n x y (e j)) (r1:bK X.K H xs us) (r2:bK X.K H ys us') (v1:bR us its) (v2:bR us' its') (j:Nat) (h1:j < its.length) (h2:j < its'.length):SeqAt.EqAt A s its[j] its'[j] (e j):=by
 have l1:=r1.length
 have l2:=r2.length
 have l3:=v1.length
 have l4:=v2.length
 have e1:xs[j]? = some (xs[j]'(by omega)):=List.getElem?_eq_getElem (by omega)
 have e2:ys[j]? = some (ys[j]'(by omega)):=List.getElem?_eq_getElem (by omega)
 obtain ⟨w1,q1,p1⟩:=r1.get e1
 obtain ⟨w2,q2,p2⟩:=r2.get e2
 obtain ⟨z1,y1,k1⟩:=v1.get q1
 obtain ⟨z2,y2,k2⟩:=v2.get q2
 have f1:its[j] = z1:=by rw [List.getElem?_eq_getElem h1] at y1;exact Option.some.inj y1
 have f2:its'[j] = z2:=by rw [List.getElem?_eq_getElem h2] at y2;exact Option.some.inj y2
 rw [f1,f2]
 exact ih (he j _ _ e1 e2) p1 p2 k1 k2
theorem aEF {A:Around} {n:Nat} {d d':D} {b:Bool} {a a':Addr} (hm:cG X.K M H) (I:Inv X pins σ H s) (hu:A.units + n < cLine) (ih:∀ {d d':D} {b:Bool} {v v':V} {u u':Value},Cm M n d d' b->Rep X.K H d v->Rep X.K H d' v'->bW v u->bW v' u'->SeqAt.EqAt A.in1 s u u' b)
  (h:Cm M (n + 1) d d' b) (r:Rep X.K H d (.ref a)) (r':Rep X.K H d' (.ref a')):SeqAt.RcAt A s (.ref a) (.ref a') b/\SeqAt.RcNeAt A s (.ref a) (.ref a') (!b):=by
 cases d with
 | tup xs =>
  cases d' with
  | tup ys =>
   obtain ⟨e,he,rfl⟩:=h
   obtain ⟨_,us,z,sq,rs⟩:=bH r
   cases z
   obtain ⟨_,us',z,sq',rs'⟩:=bH r'
   cases z
   obtain ⟨its,rv,ht⟩:=jC I sq
   obtain ⟨its',rv',ht'⟩:=jC I sq'
   have e1:=rs.length
   have e2:=rv.length
   have e3:=rs'.length
   have e4:=rv'.length
   rw [show xs.length = its.toArray.size by rw [List.size_toArray];omega,show ys.length = its'.toArray.size by rw [List.size_toArray];omega]
   have hit:∀ j (h1:j < its.toArray.size) (h2:j < its'.toArray.size),SeqAt.EqAt A.in1 s its.toArray[j] its'.toArray[j] (e j):=fun j j1 j2=>by
    have:=aBr hm I ih he rs rs' rv rv' j (by simpa using j1) (by simpa using j2)
    simpa using this
   exact ⟨SeqAt.RcAt.tuples ht ht' (by omega) hit,SeqAt.RcNeAt.tuples ht ht' (by omega) hit⟩
  | _=>exact absurd h.1 Bool.false_ne_true
 | ref c =>
  cases d' with
  | ref c' =>
   obtain ⟨xs,ys,hx,hy,ne,c1,c2⟩:=h
   have:=aW r
   cases this
   have:=aW r'
   cases this
   obtain ⟨us,hus,ru⟩:=hm.l a xs hx
   obtain ⟨ws,hws,rw'⟩:=hm.l a' ys hy
   obtain ⟨z,its,n1,r1,hl,e⟩:=I.lstM hus
   obtain ⟨z2,its2,n2,r3,hl2,e2⟩:=I.lstM hws
   have i1:s.heap.IsList a its.toArray:=⟨_,e,rfl,_,rfl⟩
   have i2:s.heap.IsList a' its2.toArray:=⟨_,e2,rfl,_,rfl⟩
   have l3:=ru.length
   have l4:=rw'.length
   have l5:=r1.length
   have l6:=r3.length
   by_cases hz:xs.length = ys.length
   ·obtain ⟨e',he,rfl⟩:=c1 hz
    have hsz:its.toArray.size = its2.toArray.size:=by rw [List.size_toArray,List.size_toArray];omega
    have hit:∀ j (h1:j < its.toArray.size) (h2:j < its2.toArray.size),SeqAt.EqAt A.in1 s its.toArray[j] its2.toArray[j] (e' j):=fun j j1 j2=>by
     have:=aBr hm I ih he ru rw' r1 r3 j (by simpa using j1) (by simpa using j2)
     simpa using this
    rw [show xs.length = its.toArray.size by rw [List.size_toArray];omega]
    exact ⟨SeqAt.RcAt.lists i1 i2 hsz (by omega) hit,SeqAt.RcNeAt.lists i1 i2 hsz (by omega) hit⟩
   ·have hsz:(its.toArray.size != its2.toArray.size) = true:=by rw [List.size_toArray,List.size_toArray];simp;omega
    rw [c2 hz]
    exact ⟨SeqAt.RcAt.lists_lengths i1 i2 hsz (by omega),SeqAt.RcNeAt.lists_lengths i1 i2 hsz (by omega)⟩
  | _=>exact absurd h.1 Bool.false_ne_true
 | _=>exact (wJ h.1 r).elim
theorem aKr (hm:cG X.K M H) (I:Inv X pins σ H s):∀ (n:Nat) {A:Around} {d d':D} {b:Bool} {v v':V} {u u':Value},A.units + n < cLine->Cm M n d d' b->Rep X.K H d v->Rep X.K H d' v'->bW v u->bW v' u'->SeqAt.EqAt A s u u' b:=by
 intro n
 induction n with
 | zero =>
  intro A d d' b v v' u u' hu h r r' q q'
  rw [h.2.2]
  exact aCL I 0 hu h.1 h.2.1 r r' q q'
 | succ n ih =>
  intro A d d' b v v' u u' hu h r r' q q'
  have hu':A.in1.units + n < cLine:=by show A.units + 1 + n < cLine;omega
  have sc:(∀ xs,d ≠ .tup xs)->(∀ a,d ≠ .ref a)->SeqAt.EqAt A s u u' b:=fun h1 h2=>by
   obtain ⟨p,p',e⟩:=aK7 h h1 h2
   rw [e]
   exact aCL I 0 (by omega) p p' r r' q q'
  have sq:∀ {a a':Addr},v = .ref a->v' = .ref a'->SeqAt.EqAt A s u u' b:=fun {a a'} e1 e2=>by
   subst e1 e2
   cases q
   cases q'
   by_cases c:a = a'
   ·subst c
    rw [aG9 (n + 1) I h r r']
    exact SeqAt.EqAt.same _
   ·exact SeqAt.EqAt.of_refs c (aEF hm I (by omega) (fun {d d' b v v' u u'} h r r' q q'=>ih hu' h r r' q q') h r r').1
  cases d with
  | tup xs =>
   cases d' with
   | tup ys =>
    obtain ⟨a,us,e1,_⟩:=bH r
    obtain ⟨a',us',e2,_⟩:=bH r'
    exact sq e1 e2
   | _=>exact absurd h.1 Bool.false_ne_true
  | ref c =>
   cases d' with
   | ref c'=>exact sq (aW r) (aW r')
   | _=>exact absurd h.1 Bool.false_ne_true
  | _=>exact sc (fun xs z=>nomatch z) fun a z=>nomatch z
end
noncomputable def aGa (g:Bool->Bool):D2:=fun x y M Q=>(((∃ xs,x = .tup xs)/\∃ ys,y = .tup ys) ∨ ((∃ a,x = .ref a)/\∃ b,y = .ref b))/\∃ b,Cm M 20 x y b/\Q (.bl (g b)) M
section
variable {X:Cx}
theorem aG7 (hu:X.A.units + 60 < cLine):OpD X (compareOp .Eq) (aGa id)/\OpD X (compareOp .NotEq) (aGa not):=by
 have key:∀ {pins:List (Addr × Obj)} {s:Shared} {σ:L2.St} {H:Hp} {x y:V} {v u:Value} {dx dy:D} {M:DM} {Q':DQ} {g:Bool->Bool},Inv X pins σ H s->bW x v->bW y u->Rep X.K H dx x->Rep X.K H dy y->cG X.K M H->aGa g dx dy M Q' ->
   ∃ b,SeqAt.RcAt X.A s v u b/\SeqAt.RcNeAt X.A s v u (!b)/\Q' (.bl (g b)) M:=by
  intro pins s σ H x y v u dx dy M Q' g I rx ry r1 r2 hm ⟨sh,b,h,q⟩
  have go:∀ {a a':Addr},x = .ref a->y = .ref a'->∃ b,SeqAt.RcAt X.A s v u b/\SeqAt.RcNeAt X.A s v u (!b)/\Q' (.bl (g b)) M:=fun {a a'} e1 e2=>by
   subst e1 e2
   cases rx
   cases ry
   have hu':X.A.in1.units + 19 < cLine:=by show X.A.units + 1 + 19 < cLine;omega
   obtain ⟨h1,h2⟩:=aEF hm I (n:=19) (by omega) (fun {d d' b v v' u u'} h r r' q q'=>aKr hm I 19 hu' h r r' q q') h r1 r2
   exact ⟨b,h1,h2,q⟩
  rcases sh with ⟨⟨xs,rfl⟩,ys,rfl⟩ | ⟨⟨a,rfl⟩,a',rfl⟩
  ·obtain ⟨a,us,e1,_⟩:=bH r1
   obtain ⟨a',us',e2,_⟩:=bH r2
   exact go e1 e2
  ·exact go (aW r1) (aW r2)
 refine ⟨fun pins s σ H x y v u Q I rx ry ⟨dx,dy,M,Q',r1,r2,hm,q,k⟩=>?_,fun pins s σ H x y v u Q I rx ry ⟨dx,dy,M,Q',r1,r2,hm,q,k⟩=>?_⟩
 ·obtain ⟨b,h1,_,q⟩:=key I rx ry r1 r2 hm q
  exact h1 X.prog X.w X.xe _ ⟨.bl b,H,I,rfl,k _ H ⟨.bl b,M,eW,hm,.refl H,q⟩⟩
 ·obtain ⟨b,_,h2,q⟩:=key I rx ry r1 r2 hm q
  exact h2 X.prog X.w X.xe _ ⟨.bl (!b),H,I,rfl,k _ H ⟨.bl (!b),M,eW,hm,.refl H,q⟩⟩
theorem aIn {k:Nat} (hr:eQ k X.A):OpD X (compareOp .NotEq) (aGa not):=(aG7 (by have:=hr.un;omega)).2
end
mutual
theorem aAX:∀ {n:Nat} {d:D},bB n d = true->eqD d d = true
 | _,.non,_=>rfl
 | _,.bl b,_=>by simp [eqD]
 | _,.int b,_=>by simp [eqD]
 | _,.str b,_=>by simp [eqD]
 | n + 1,.tup xs,h=>by rw [eqD];exact yT (n:=n) h
 | 0,.tup xs,h=>absurd h Bool.false_ne_true
 | n,.ref a,h=>by cases n<;>exact absurd h Bool.false_ne_true
 | n,.fz a,h=>by cases n<;>exact absurd h Bool.false_ne_true
theorem yT:∀ {n:Nat} {xs:List D},xs.all (bB n) = true->jI xs xs = true
 | _,[],_=>by simp [jI]
 | n,x :: xs,h=>by
  rw [List.all_cons,Bool.and_eq_true] at h
  show (eqD x x && jI xs xs) = true
  rw [aAX h.1,yT h.2];rfl
end
theorem zT {M:DM}:∀ {n:Nat} {d:D},bB n d = true->Cm M n d d true
 | 0,d,h=>⟨h,h,(aAX h).symm⟩
 | n + 1,.tup xs,h=>⟨fun _=>true,fun j x y e1 e2=>by
   rw [e1] at e2;cases e2
   have hx:bB n x = true:=(List.all_eq_true.mp h) x (List.mem_of_getElem? e1)
   exact zT hx,by simp⟩
 | n + 1,.non,h=>⟨rfl,rfl,rfl⟩
 | n + 1,.bl b,h=>⟨rfl,rfl,by simp [eqD]⟩
 | n + 1,.int b,h=>⟨rfl,rfl,by simp [eqD]⟩
 | n + 1,.str b,h=>⟨rfl,rfl,by simp [eqD]⟩
 | n + 1,.ref a,h=>absurd h Bool.false_ne_true
 | n + 1,.fz a,h=>absurd h Bool.false_ne_true
theorem aBz {M:DM} {n:Nat} {a b:Addr} {xs:List D} (ha:M a = some xs) (hb:M b = some xs) (ne:a ≠ b) (h:∀ x ∈ xs,bB n x = true):Cm M (n + 1) (.ref a) (.ref b) true :=
 ⟨xs,xs,ha,hb,ne,fun _=>⟨fun _=>true,fun j x y e1 e2=>by
  rw [e1] at e2;cases e2
  exact zT (h x (List.mem_of_getElem? e1)),by simp⟩,fun z=>absurd rfl z⟩
theorem aIR {M:DM} {n:Nat} {xs ys:List D} (l:xs.length = ys.length) (h:∀ (j:Nat) x y,xs[j]? = some x->ys[j]? = some y->Cm M n x y true):Cm M (n + 1) (.tup xs) (.tup ys) true :=
 ⟨fun _=>true,h,by simp [l]⟩
theorem aCV {M:DM} {n:Nat} {x y x' y':D} (h1:Cm M n x x' true) (h2:Cm M n y y' true):Cm M (n + 1) (.tup [x,y]) (.tup [x',y']) true :=
 aIR rfl fun j z z' e1 e2=>by
  match j with
  | 0=>simp at e1 e2;subst e1;subst e2;exact h1
  | 1=>simp at e1 e2;subst e1;subst e2;exact h2
  | j + 2=>simp at e1
end Dd
namespace Dd
open PySem PySem.Spec PyProof.Rows L2
section
variable {X:Cx} {pins:List (Addr × Obj)} {σ:L2.St} {H:Hp} {s:Shared}
end
section
variable {X:Cx} {pos:Pos}
end
end Dd
namespace Dd
open PySem PySem.Spec PyProof.Rows L2
section
variable {X:Cx} {pins:List (Addr × Obj)} {σ:L2.St} {H:Hp} {s:Shared}
end
section
variable {X:Cx} {pos:Pos}
end
end Dd
namespace Dd
open PySem PySem.Spec PyProof.Rows L2
noncomputable def FK (K:PySem.W.Frag) (x:Str) (f:Addr) (st:Stmt):Prop:=PySem.W.nsIn K mainGlobals x = some (some (.ref f))/\∃ fd,L2.Fun K x x st f fd
theorem FK.has {K:PySem.W.Frag} {mg:Str->Option Value} {h:Heap} {x:Str} {f:Addr} {st:Stmt} {ps:List Str} (b:FK K x f st) (X:K.In h) (G:h.Ns mainGlobals mg)
  (r:∀ (kV doc pm:Value) (an:Option Addr) (cdv ct:Value) (us:List Value),us.length = ps.length->bindArgs (PySem.W.fnOf x x (lR st) (eS st) (aI st) .none kV doc pm an cdv ct) ⟨us,[]⟩ = pure (ps.zip us)):bO K mg x st ps :=
 let ⟨a,_,F⟩:=b;⟨_,_,F,PySem.W.mg_of X G a,F.binds r⟩
end Dd
namespace Dd
open PySem PySem.Spec PyProof.Rows L2
noncomputable def aBu (tl:DE) (g:DG) (tb:DS):DS:=fun E ρ M=>aBc tl g tb E ρ M ∨ aA2 tl g tb E ρ M
section
variable {X:Cx} {pos:Pos} {st:Stmt} {t1 t2:DS} {iter tg:Expr} {body:List Stmt} {tl:DE} {g:DG} {tb:DS}
theorem PDS.or (h1:PDS X st t1) (h2:PDS X st t2):PDS X st (fun E ρ M=>t1 E ρ M ∨ t2 E ρ M) :=
 fun a b c d e f ⟨ρ,M,Dn,re,hm,q,k⟩=>q.elim (fun q=>h1 a b c d e f ⟨ρ,M,Dn,re,hm,q,k⟩) fun q=>h2 a b c d e f ⟨ρ,M,Dn,re,hm,q,k⟩
theorem aGY (hp:PassesOwn (model X.prog X.w) X.A X.env X.xe) (hc:X.calm = true) (hi:PDE X iter tl) (hg:PDG X tg g) (hb:jS X body tb) (hs:∀ x,foldedSetIterable iter X.env x = pure x:=by intro _;rfl):PDS X (.For tg iter body [] pos) (aBu tl g tb) :=
 PDS.or (aCC hp hc hi hg hb hs) (aCO hp hc hi hg hb hs)
theorem aEy {i:Nat} {ds:List D} {E:fZ} {ρ:cB} {M:DM} (h:ρ[i]? = some (some (.tup ds))) (q:dIt none ds g tb E ρ M):aBu (zZ i) g tb E ρ M:=.inl (by unfold aBc zZ;rw [h];exact q)
theorem aFI {i:Nat} {a:Addr} {ds:List D} {E:fZ} {ρ:cB} {M:DM} (h:ρ[i]? = some (some (.ref a))) (ha:M a = some ds) (q:dIt (some a) ds g tb E ρ M):aBu (zZ i) g tb E ρ M:=.inr (by unfold aA2 zZ;rw [h];exact ⟨ds,ha,q⟩)
noncomputable def aHD:D2:=fun x y M Q=>match x,y with
 | .ref a,.int n=>∃ ds,M a = some ds/\ds ≠ []/\-(2 ^ 62)<=n/\n < 2 ^ 62/\ds.length * n.toNat<=1000/\∀ p:Addr,M p = none->Q (.ref p) (bI M p (List.replicate n.toNat ds).flatten)
 | _,_=>False
theorem aDc:OpD X (binaryOp .Mult) aHD:=by
 intro pins s σ H x y v u Q I rx ry ⟨dx,dy,M,Q',r1,r2,hm,q,k⟩
 match dx,dy,q with
 | .ref a,.int n,q =>
  obtain ⟨ds,ha,ne,h1,h2,hz,q⟩:=q
  obtain ⟨vs,hu,rs⟩:=hm.l a ds ha
  obtain rfl:=aW r1
  obtain rfl:=aU r2
  cases rx
  obtain ⟨t,rfl⟩:=ry
  obtain ⟨z,its,m,rv,hl2,ho⟩:=I.lstM hu
  have l1:=rs.length
  have l2:=rv.length
  have hs:=eL hz
  have he:its.toArray.isEmpty = false:=by
   cases its with
   | nil=>exact absurd (List.length_eq_zero_iff.mp (by rw [l1,l2];rfl)) ne
   | cons a b=>rfl
  have hz':its.toArray.size * n.toNat<=sizeLine:=by rw [List.size_toArray,<- l2,<- l1];exact Nat.le_of_lt hs
  refine wpAny_binaryOp_repeat_ref (T:="list") (U:="int") (by decide) ⟨_,ho,rfl⟩ (fun s'=>typeIs_int s' n t) noFill_list_mul F.fills_int_mul F.slot_int_rmul repeat_list F.slot_int_index.lookup
   (call_meets F.slot_int_rmul (typeIs_int s n t) F.entry_int_rmul (F.args_int_rmul_2 _ _) (int___rmul___int_list n t a its.toArray m) ⟨ho,rfl,⟨_,ho,rfl⟩,?_⟩)
  refine call_meets F.slot_list_mul ⟨_,ho,rfl⟩ F.entry_list_mul (F.args_list_mul_2 _ _) (AutoListH.list___mul___list_int_3 a its.toArray m n t (by simp [Builtin.List.listFitsIndex];omega) (by simp [sizeLine] at hz';simp;omega) (by simp [Builtin.List.listTooLong];exact by simpa using hz')) ⟨ho,?_⟩
  rw [he]
  simp only [Bool.false_eq_true,if_false]
  have ef:=yR its n.toNat
  rw [show (List.foldl (fun x1 x2=>x1 ++ x2) #[] (List.replicate n.toNat its.toArray)) = (List.replicate n.toNat its).flatten.toArray from ef]
  have hl:(List.replicate n.toNat its).flatten.length<=sizeLine:=by
   rw [L2.len_rep]
   rw [List.size_toArray,Nat.mul_comm] at hz';exact hz'
  exact ⟨.ref _,_,I.lnew (t':=s.toks) (wF rv n.toNat) (by rw [L2.len_rep,l2,<- L2.len_rep];exact hl),rfl,k _ _ ⟨.ref _,_,iO,hm.lnew I.fresh (vD rs n.toNat),Ext.new I.fresh _,q _ (hm.fresh I.fresh)⟩⟩
end
end Dd
namespace Dd
open PySem PySem.Spec PyProof.Rows L2
section
variable {X:Cx} {pos:Pos} {st:Stmt} {t1 t2:DS} {iter tg:Expr} {body:List Stmt} {tl:DE} {g:DG} {tb:DS}
theorem wH (hp:PassesOwn (model X.prog X.w) X.A X.env X.xe) (hc:X.calm = true) (hi:ZE X iter tl) (hg:ZG X tg g) (hb:ZSs X body tb) (hs:∀ x,foldedSetIterable iter X.env x = pure x:=by intro _;rfl):ZS X (.For tg iter body [] pos) (aBu tl g tb):=.i (aGY hp hc hi.o hg.o hb.o hs)
end
end Dd
namespace Dd
open PySem PySem.Spec PyProof.Rows L2 Mz
section
variable {prog:Program} {w:World} {A:Around} {I S:Addr} {fp wr:List Addr} {n:Nat} {P:Nat->Value->Prop} {St:Nat->Heap->Prop} {R:Result->Shared->Prop} {dv:Value}
end
section
variable {prog:Program} {w:World} {A:Around} {E:Value->Shared->Prop} {s:Shared} {l:Addr} {xs:Array (Int × Tok)} {dv:Value}
end
section
variable {X:Cx} {pos p kp:Pos} {e d:Expr} {te td:DE}
end
section
variable {X:Cx} {pos:Pos} {iter tg:Expr} {body:List Stmt} {te:DE}
end
end Dd
namespace Dd
open PySem PySem.Spec PyProof.Rows L2
section
variable {prog:Program} {w:World} {A:Around} {I S:Addr} {fp wr:List Addr} {n:Nat} {P:Nat->Value->Prop} {St:Nat->Heap->Prop} {R:Result->Shared->Prop} {dv:Value}
end
section
variable {prog:Program} {w:World} {A:Around} {E:Value->Shared->Prop} {s:Shared} {l:Addr} {xs:Array (Int × Tok)} {dv:Value}
end
section
variable {X:Cx} {pos p kp:Pos} {e d:Expr} {te td:DE}
end
section
variable {X:Cx} {pos:Pos} {iter tg:Expr} {body:List Stmt} {te:DE}
end
end Dd
namespace Dd
open PySem PySem.Spec PyProof.Rows L2 Mz
section
variable {X:Cx} {pos:Pos} {elt iter tg cnd:Expr} {scope:Scope} {N':List Str} {fr:List (Option Nat)} {tl:DE} {oN:List Str} {osc:Scope} {g:DG} {tc:DT} {te:DE} {e:Expr} {t1 t2:DE}
end
end Dd
namespace Dd
open PySem PySem.Spec PyProof.Rows L2
section
variable {X:Cx} {pos:Pos} {elt iter tg cnd:Expr} {scope:Scope} {N':List Str} {fr:List (Option Nat)} {tl:DE} {oN:List Str} {osc:Scope} {g:DG} {tc:DT} {te:DE} {e:Expr} {t1 t2:DE}
end
end Dd
namespace Dd
open PySem PySem.Spec PyProof.Rows L2 Mz
section
variable {X:Cx} {a:Expr} {e:Expr} {es:List Expr} {t:DA} {f n cm:Str} {ps:List Str} {sp:DSp} {cond:List D->DM->Prop} {C Cm:Addr} {k1 k2 k j:Nat} {ts:Addr->DS} {b0:Stmt} {suite:List Stmt} {pf pc pa pcm ph pos:Pos}
theorem aGL (hH:mO X.prog X.w X.K X.mg X.base k1 f ps C cond) (hh:Has X.prog X.w X.K X.mg X.base k2 f ps sp) (hr:eQ k X.A) (hk1:k1<=k) (hk2:k2<=k) (hN:X.N.Nodup)
  (hcm:tP X.K X.mg cm Cm) (hmt:PySem.W.exmOne X.K (.ref C) (.ref Cm) = some true) (ha:PDA X (e :: es) t) (hsu:∀ a o,ExO o C->jS (Exc X a o) (b0 :: suite) (ts a))
  (hj:X.N[j]? = some n:=by rfl) (hnl:X.env.scope.names.lookup n = some .local:=by rfl)
  (hs:X.stack = X.env :: X.outer:=by rfl) (hf:X.env.frame = some X.env.locals:=by rfl) (hex:X.ex = []:=by rfl) (hX:∀ e s,X.xe e s->False:=by exact fun _ _ z=>z)
  (hgc:Gl X cm:=by rfl) (hdc:(cm == ("__debug__":Str)) = false:=by decide) (hg:Gl X f:=by rfl) (hdb:(f == ("__debug__":Str)) = false:=by decide)
  (he:starEach (e :: es) X.env = (false,eval e X.env) :: starEach es X.env:=by rfl) (hpl:(backTo pc (starEach es X.env)).any (·.1) = false:=by rfl) :
  PDS X (.Try [.Return (some (.Call (.Name f pf) (e :: es) [] pc)) pa] [.ExceptHandler (some (.Name cm pcm)) (some n) (b0 :: suite) ph] [] [] pos) (aJv sp cond j t (fun D d _ M=>D.rt d M) ts):=by
 intro pins s σ H En I ⟨ρ,M,De,re,hm,q,k'⟩
 obtain ⟨f',fd,F,hmf,hk,hb⟩:=id hh
 refine wpAny_Try_except ?_
 refine wpAny_execs_cons (wpAny_Return_some (wpAny_Call_Name_kw (lT I hg hmf ?_ hdb)))
 refine PySem.W.callWith_K (h₀:=X.base) I.ok.mod.kin hk (wpAny_mono (ha pc pins s σ H (LA X.K H _) I ⟨ρ,M,_,re,hm,q,fun vs H' z=>z⟩) (fun us s1 ⟨vs,H1,I1,rv,ds,M1,rs,hm1,ex,q1⟩=>⟨I1.kIn,?_⟩) fun ev s' z=>(hX ev s' z).elim) he hpl
 refine aF5 hH hh hr hk1 hk2 hmf I1 rv rs hm1 (q1.imp (fun z=>⟨z.1,fun ev s' y=>?_⟩) id) fun u s' ⟨v,H2,I2,rr,d,M2,rd,hm2,ex2,q2⟩=>?_
 ·exact aIA I.ok hs hf hex hX hN hj hnl hcm.1 hgc hdc hmt hsu I1 (re.ext ex) (k'.at ex) z.2 y
 ·exact ⟨v,σ,H2,I2,rr,k'.rt v H2 ⟨d,M2,rd,hm2,ex.trans ex2,q2⟩⟩
end
noncomputable def aLf (b:Bool) (j:Nat) (a:Addr):DE:=fun ρ M Q=>ρ[j]? = some (some (.ref a))/\Q (.bl b) M
section
variable {X:Cx} {n c:Str} {C Cc a:Addr} {o:Obj} {p p1 p2 pos:Pos} {j:Nat}
end
section
variable {X:Cx} {st:Stmt} {t1 t2:DS}
end
section
variable {prog:Program} {w:World} {A:Around} {E:Value->Shared->Prop} {s:Shared}
theorem xX:typeLookup (.type "tuple") (dunderI "add") = pure none:=by rw [typeLookup_type,builtinLookup_eq_fast];kernel_rfl
theorem pH {a b:Value} {S:PySem.Spec} {Q:Value->Shared->Prop} (ha:s.TypeIs a "tuple") (hb:s.TypeIs b "tuple")
  (args:argsOk "tuple.__add__" ⟨[a,b],[]⟩) (g:Meets (Builtin.«tuple.__add__» ⟨[a,b],[]⟩) S) (h:S A (wants Q E) s):wpAny (model prog w) A (inplaceOp .Add a b) Q E s :=
 wpAny_inplaceOp_concat ha hb xX noFill_tuple_add seq_tuple_add (call_meets PySem.F.slot_tuple_add ha PySem.F.entry_tuple_add args g h)
theorem aFo {t b:Addr} {vs ws:List Value} {Q:Value->Shared->Prop} (ht:IsTup s.heap t vs.toArray) (hb:IsTup s.heap b ws.toArray)
  (h0:vs = []->Q (.ref b) s) (h1:vs ≠ []->ws = []->Q (.ref t) s) (h2:vs ≠ []->ws ≠ []->Q (.ref s.heap.objs.size) { s with heap:=s.heap.push { cls:=.type "tuple",data:=.seq (vs ++ ws).toArray } })
  (hsz:vs.length + ws.length<=sizeLine):wpAny (model prog w) A (inplaceOp .Add (.ref t) (.ref b)) Q E s:=by
 obtain ⟨⟨cls,dd,data,sl⟩,ho,hc,n,hd⟩:=id ht
 obtain ⟨⟨cls2,dd2,data2,sl2⟩,ho2,hc2,n2,hd2⟩:=id hb
 simp only at hc hd hc2 hd2
 subst hc hd hc2 hd2
 have e:vs.toArray ++ ws.toArray = (vs ++ ws).toArray:=by simp
 by_cases hv:vs = []
 ·exact pH ⟨_,ho,rfl⟩ ⟨_,ho2,rfl⟩ (PySem.F.args_tuple_add_2 _ _) (tD t b vs.toArray ws.toArray n n2 dd dd2 sl sl2 (by rw [hv];rfl)) ⟨ho,ho2,h0 hv⟩
 by_cases hw:ws = []
 ·exact pH ⟨_,ho,rfl⟩ ⟨_,ho2,rfl⟩ (PySem.F.args_tuple_add_2 _ _)
   (PyProof.Rows.tuple_addW1 t b vs.toArray ws.toArray n n2 dd dd2 sl sl2 (by simpa using hv) (by simp [hw])) ⟨ho,ho2,h1 hv hw⟩
 ·refine pH ⟨_,ho,rfl⟩ ⟨_,ho2,rfl⟩ (PySem.F.args_tuple_add_2 _ _)
   (PyProof.Rows.tuple_addW2 t b vs.toArray ws.toArray n n2 dd dd2 sl sl2 (by simpa using hv) (by simpa using hw) (by rw [List.size_toArray,List.size_toArray];exact hsz)) ⟨ho,ho2,?_⟩
  rw [e]
  exact h2 hv hw
end
section
variable {X:Cx}
end
noncomputable def aLq (i:Nat) (te:DE):DS:=fun E ρ M=>match ρ[i]? with
 | some (some d)=>te ρ M fun y M1=>aFj d y M1 fun r M2=>E.nx (ρ.set i (some r)) M2
 | _=>False
section
variable {X:Cx} {e:Expr} {te:DE} {x:Str} {pos:Pos}
end
end Dd
namespace Dd
open PySem PySem.Spec PyProof.Rows L2
section
variable {X:Cx} {a:Expr} {e:Expr} {es:List Expr} {t:DA} {f n cm:Str} {ps:List Str} {sp:DSp} {cond:List D->DM->Prop} {C Cm:Addr} {k1 k2 k j:Nat} {ts:Addr->DS} {b0:Stmt} {suite:List Stmt} {pf pc pa pcm ph pos:Pos}
theorem aER (hH:mO X.prog X.w X.K X.mg X.base k1 f ps C cond) (hh:Has X.prog X.w X.K X.mg X.base k2 f ps sp) (hr:eQ k X.A) (hk1:k1<=k) (hk2:k2<=k) (hN:X.N.Nodup) (hcm:tP X.K X.mg cm Cm) (hmt:PySem.W.exmOne X.K (.ref C) (.ref Cm) = some true) (ha:ZA X (e :: es) t) (hsu:∀ a o,ExO o C->ZSs (Exc X a o) (b0 :: suite) (ts a)) (hj:X.N[j]? = some n:=by rfl) (hnl:X.env.scope.names.lookup n = some .local:=by rfl) (hs:X.stack = X.env :: X.outer:=by rfl) (hf:X.env.frame = some X.env.locals:=by rfl) (hex:X.ex = []:=by rfl) (hX:∀ e s,X.xe e s->False:=by exact fun _ _ z=>z) (hgc:Gl X cm:=by rfl) (hdc:(cm == ("__debug__":Str)) = false:=by decide) (hg:Gl X f:=by rfl) (hdb:(f == ("__debug__":Str)) = false:=by decide) (he:starEach (e :: es) X.env = (false,eval e X.env) :: starEach es X.env:=by rfl) (hpl:(backTo pc (starEach es X.env)).any (·.1) = false:=by rfl):ZS X (.Try [.Return (some (.Call (.Name f pf) (e :: es) [] pc)) pa] [.ExceptHandler (some (.Name cm pcm)) (some n) (b0 :: suite) ph] [] [] pos) (aJv sp cond j t (fun D d _ M=>D.rt d M) ts):=.i (aGL hH hh hr hk1 hk2 hN hcm hmt ha.o (fun a o h=>(hsu a o h).o) hj hnl hs hf hex hX hgc hdc hg hdb he hpl)
end
section
variable {X:Cx} {n c:Str} {C Cc a:Addr} {o:Obj} {p p1 p2 pos:Pos} {j:Nat}
end
section
variable {X:Cx} {st:Stmt} {t1 t2:DS}
end
section
variable {prog:Program} {w:World} {A:Around} {E:Value->Shared->Prop} {s:Shared}
end
section
variable {X:Cx}
end
section
variable {X:Cx} {e:Expr} {te:DE} {x:Str} {pos:Pos}
end
end Dd
namespace Dd
open PySem PySem.Spec PyProof.Rows L2 Mz
section
variable {prog:Program} {w:World} {A:Around} {E:Value->Shared->Prop} {s:Shared}
end
noncomputable def aLk:DSp:=fun ds M Q=>match ds with
 | [.tup [.int a,.int b]]=>Q (.int (if b > a then b else a)) M
 | _=>False
section
variable {X:Cx}
end
end Dd
namespace Dd
open PySem PySem.Spec PyProof.Rows L2 Mz
theorem tZ {n:Nat} (h:n<=10000000):n < sizeLine:=Nat.lt_of_le_of_lt h (by decide)
theorem aFD (k:Int) (t:Tok) (l:Addr) (n:Nat) (di:Option Addr) (sl:Array (Option Value)) (h1:k ≠ 1) (h2:-(2 ^ 63)<=k) (h3:k < 2 ^ 63) :
  Meets (Builtin.«tuple.__mul__» ⟨[.ref l,.int k t],[]⟩) (fun _ R s=>s.heap.get? l = some { cls:=.type "tuple",dict:=di,data:=.seq #[] n,slots:=sl } /\
   R (.ok (.ret (.ref l))) s) :=
 .of_wp fun prog w A R s h=>by
  obtain ⟨hp,g,d,tk,os⟩:=s
  obtain ⟨hl,h⟩:=h
  wp_walk
  refine wpAny_ite_split (fun z=>absurd z (by simp;omega)) fun _=>?_
  wp_walk
  exact ⟨_,rfl,h⟩
section
variable {X:Cx} {o e:Expr} {to te:DE} {pos:Pos}
noncomputable def vA (to te:DE):DE:=fun ρ M Q=>to ρ M fun x M1=>match x with
 | .ref p=>(∃ ds,M1 p = some ds)/\zK te aAo ρ M1 fun ys M2=>∃ ds y,ys = [y]/\M2 p = some ds/\ds.length < 10000000/\Q .non (bI M2 p (ds ++ [y]))
 | _=>False
theorem aBE {apos cpos:Pos} (ho:PDE X o to) (he:PDE X e te) (hse:starEach [e] X.env = (false,eval e X.env) :: starEach [] X.env:=by rfl)
  (hbase:attributeBase o "append" X.env (eval o X.env) = eval o X.env:=by rfl)
  (hfew:((backTo cpos (starEach [e] X.env)).all (fun x=>!x.1) && (backToKw cpos (keywordEach [] X.env)).all (fun x=>x.1.isSome)
   && decide ([e].length + ([]:List Keyword).length + (if ([]:List Keyword).isEmpty then 0 else 1) < 30)) = true:=by rfl)
  (hline:(apos.endLine == cpos.line) = true:=by rfl) (hplain:(backTo cpos (starEach [] X.env)).any (·.1) = false:=by rfl) :
  PDE X (.Call (.Attribute o "append" apos) [e] [] cpos) (vA to te) :=
 cD (aEz PySem.F.plainAttrs_list PySem.F.slot_list_append PySem.F.type_list_append yQ ho (uH he zY hse) hbase hfew hline hse hplain) fun σ H Q ⟨ρ,M,Q',re,hm,q,k⟩=>⟨ρ,M,_,re,hm,q,fun v H1 ⟨d,M1,rd,hm1,e1,q1⟩=>by
  cases d with
  | ref p =>
   obtain rfl:=aW rd
   obtain ⟨⟨ds0,h0⟩,q1⟩:=q1
   obtain ⟨us0,hu0,_⟩:=hm1.l p ds0 h0
   refine ⟨.inl ⟨rfl,us0,.of hu0⟩,ρ,M1,_,re.ext e1,hm1,q1,fun vs H2 ⟨dvs,M2,rs,hm2,e2,ds,y,ey,hp,hl,q2⟩=>?_⟩
   subst ey
   obtain ⟨w,rfl,rw'⟩:=gM rs
   obtain ⟨us,hu,ru⟩:=hm2.l p ds hp
   exact ⟨p,us,w,rfl,rfl,hu,by rw [<- ru.length];exact tZ (Nat.le_of_lt hl),k _ _ ⟨.non,_,qM,hm2.put hu (ru.append (bY rw' cP)),(e1.trans e2).trans (Ext.put hu _),q2⟩⟩
  | _=>exact q1.elim⟩
noncomputable def xJ (to te:DE):DE:=fun ρ M Q=>to ρ M fun x M1=>match x with
 | .ref p=>(∃ ds,M1 p = some ds)/\zK te aAo ρ M1 fun ys M2=>∃ ds q es,ys = [.ref q]/\M2 p = some ds/\M2 q = some es/\ds.length + es.length<=10000000/\Q .non (bI M2 p (ds ++ es))
 | _=>False
theorem aBD {apos cpos:Pos} (ho:PDE X o to) (he:PDE X e te) (hse:starEach [e] X.env = (false,eval e X.env) :: starEach [] X.env:=by rfl)
  (hbase:attributeBase o "extend" X.env (eval o X.env) = eval o X.env:=by rfl)
  (hfew:((backTo cpos (starEach [e] X.env)).all (fun x=>!x.1) && (backToKw cpos (keywordEach [] X.env)).all (fun x=>x.1.isSome)
   && decide ([e].length + ([]:List Keyword).length + (if ([]:List Keyword).isEmpty then 0 else 1) < 30)) = true:=by rfl)
  (hline:(apos.endLine == cpos.line) = true:=by rfl) (hplain:(backTo cpos (starEach [] X.env)).any (·.1) = false:=by rfl) :
  PDE X (.Call (.Attribute o "extend" apos) [e] [] cpos) (xJ to te) :=
 cD (aEz PySem.F.plainAttrs_list PySem.F.slot_list_extend PySem.F.type_list_extend aDy ho (uH he zY hse) hbase hfew hline hse hplain) fun σ H Q ⟨ρ,M,Q',re,hm,q,k⟩=>⟨ρ,M,_,re,hm,q,fun v H1 ⟨d,M1,rd,hm1,e1,q1⟩=>by
  cases d with
  | ref p =>
   obtain rfl:=aW rd
   obtain ⟨⟨ds0,h0⟩,q1⟩:=q1
   obtain ⟨us0,hu0,_⟩:=hm1.l p ds0 h0
   refine ⟨.inl ⟨rfl,us0,.of hu0⟩,ρ,M1,_,re.ext e1,hm1,q1,fun vs H2 ⟨dvs,M2,rs,hm2,e2,ds,qa,es,ey,hp,hq,hl,q2⟩=>?_⟩
   subst ey
   obtain ⟨w,rfl,rw'⟩:=gM rs
   obtain rfl:=aW rw'
   obtain ⟨us,hu,ru⟩:=hm2.l p ds hp
   obtain ⟨us2,hu2,ru2⟩:=hm2.l qa es hq
   exact ⟨p,qa,us,us2,rfl,rfl,hu,hu2,by rw [<- ru.length,<- ru2.length];exact Nat.le_of_lt (tZ hl),k _ _ ⟨.non,_,qM,hm2.put hu (ru.append ru2),(e1.trans e2).trans (Ext.put hu _),q2⟩⟩
  | _=>exact q1.elim⟩
end
section
variable {X:Cx} {pos:Pos}
noncomputable def aE7:D2:=fun x y M Q=>match x,y with
 | .tup ds,.int k=>-(2 ^ 62)<=k/\k < 2 ^ 62/\ds.length * k.toNat<=10000000/\Q (.tup (List.replicate k.toNat ds).flatten) M
 | _,_=>False
theorem aFL:OpD X (binaryOp .Mult) aE7:=by
 intro pins s σ H x y v u Q I rx ry ⟨dx,dy,M,Q',r1,r2,hm,q,k⟩
 match dx,dy,q with
 | .tup ds,.int n,q =>
  obtain ⟨h1,h2,hz,q⟩:=q
  obtain ⟨l,vs,rfl,sq,rs⟩:=bH r1
  obtain rfl:=aU r2
  cases rx
  obtain ⟨t,rfl⟩:=ry
  obtain ⟨its,rv,⟨o,ho,hc,m,hd⟩,hzz⟩:=I.tuple sq
  obtain ⟨c,di,dt,sl⟩:=o
  cases hc
  cases hd
  have l1:=rs.length
  have l2:=rv.length
  have hz':its.toArray.size * n.toNat<=sizeLine:=by rw [List.size_toArray,<- l2,<- l1];exact Nat.le_of_lt (tZ hz)
  refine wpAny_binaryOp_repeat_ref (T:="tuple") (U:="int") (by decide) ⟨_,ho,rfl⟩ (fun s'=>typeIs_int s' n t) aAU F.fills_int_mul F.slot_int_rmul aE3 F.slot_int_index.lookup
   (call_meets F.slot_int_rmul (typeIs_int s n t) F.entry_int_rmul (F.args_int_rmul_2 _ _) (aEN n t l its.toArray m di sl) ⟨ho,rfl,⟨_,ho,rfl⟩,?_⟩)
  by_cases e1:n = 1
  ·subst e1
   refine call_meets F.slot_tuple_mul ⟨_,ho,rfl⟩ F.entry_tuple_mul (F.args_tuple_mul_2 _ _) (aE4 t l its.toArray m di sl) ⟨ho,?_⟩
   refine ⟨.ref l,H,I,rfl,k _ _ ⟨.tup ds,M,bJ sq rs,hm,.refl H,?_⟩⟩
   have:(List.replicate (1:Int).toNat ds).flatten = ds:=by simp
   rw [this] at q
   exact q
  by_cases ne:ds = []
  ·subst ne
   obtain rfl:its = []:=List.length_eq_zero_iff.mp (by rw [<- l2,<- l1];rfl)
   refine call_meets F.slot_tuple_mul ⟨_,ho,rfl⟩ F.entry_tuple_mul (F.args_tuple_mul_2 _ _) (aFD n t l m di sl e1 (by omega) (by omega)) ⟨ho,?_⟩
   refine ⟨.ref l,H,I,rfl,k _ _ ⟨.tup [],M,bJ sq rs,hm,.refl H,?_⟩⟩
   have:(List.replicate n.toNat ([]:List D)).flatten = []:=by simp
   rw [this] at q
   exact q
  have he:its.toArray.isEmpty = false:=by
   cases its with
   | nil=>exact absurd (List.length_eq_zero_iff.mp (by rw [l1,l2];rfl)) ne
   | cons a b=>rfl
  ·refine call_meets F.slot_tuple_mul ⟨_,ho,rfl⟩ F.entry_tuple_mul (F.args_tuple_mul_2 _ _) (aFT n t l its.toArray m di sl e1 (by omega) (by omega) he hz') ⟨ho,?_⟩
   rw [yR]
   have hl:(List.replicate n.toNat vs).flatten.length<=sizeLine:=by
    rw [L2.len_rep]
    rw [List.size_toArray,<- l2,Nat.mul_comm] at hz';exact hz'
   refine ⟨.ref s.heap.objs.size,_,I.laid (t':=s.toks) (fun _ _ q=>Heap.get?_push_of_some _ q) (Nat.le_refl _) (show gJ X.prog X.w _ _ _ (.tup (List.replicate n.toNat vs).flatten) from ⟨hl,_,wF rv n.toNat,⟨_,Heap.get?_push_size _ rfl,rfl,_,rfl⟩⟩),rfl,
    k _ _ ⟨.tup _,M,bJ (.of eJ) ((vD rs n.toNat).ext (Ext.new I.fresh _)),hm.new I.fresh _,Ext.new I.fresh _,q⟩⟩
noncomputable def aBJ:D2:=fun x y M Q=>match x,y with
 | .tup xs,.tup ys=>xs.length + ys.length<=10000000/\Q (.tup (xs ++ ys)) M
 | _,_=>False
end
section
variable {X:Cx}
theorem aDN:OpD X (inplaceOp .Add) aBJ:=by
 intro pins s σ H x y v u Q I rx ry ⟨dx,dy,M,Q',r1,r2,hm,q,k⟩
 match dx,dy,q with
 | .tup xs,.tup ys,q =>
  obtain ⟨hl,q⟩:=q
  obtain ⟨a,us,rfl,sq,ru⟩:=bH r1
  obtain ⟨b,ws,rfl,sq2,rw'⟩:=bH r2
  have l3:=ru.length
  have l4:=rw'.length
  cases rx
  cases ry
  obtain ⟨its,r5,p1,_⟩:=I.tuple sq
  obtain ⟨its2,r6,p2,_⟩:=I.tuple sq2
  have hz:us.length + ws.length<=sizeLine:=by rw [<- l3,<- l4];exact Nat.le_of_lt (tZ hl)
  refine aFo p1 p2 (fun z=>?_) (fun _ z=>?_) (fun z1 z2=>?_) (by rw [<- r5.length,<- r6.length];exact hz)
  ·have nx:xs = []:=List.length_eq_zero_iff.mp (by rw [l3,r5.length,z];rfl)
   rw [nx] at q
   exact ⟨.ref b,H,I,rfl,k _ H ⟨.tup ys,M,bJ sq2 rw',hm,.refl H,q⟩⟩
  ·have ny:ys = []:=List.length_eq_zero_iff.mp (by rw [l4,r6.length,z];rfl)
   rw [ny,List.append_nil] at q
   exact ⟨.ref a,H,I,rfl,k _ H ⟨.tup xs,M,bJ sq ru,hm,.refl H,q⟩⟩
  ·exact ⟨.ref s.heap.objs.size,_,I.laid (t':=s.toks) (o:=.tup (us ++ ws)) (fun b ob q=>Heap.get?_push_of_some _ q) (Nat.le_refl _) ⟨by rw [List.length_append];exact hz,_,r5.append r6,IsTup.new _ _⟩,rfl,k _ _ ⟨.tup _,M,bJ (.of eJ) ((ru.append rw').ext (Ext.new I.fresh _)),hm.new I.fresh _,Ext.new I.fresh _,q⟩⟩
end
noncomputable def aAm (i:Nat) (te:DE):DS:=fun E ρ M=>match ρ[i]? with
 | some (some d)=>te ρ M fun y M1=>aBJ d y M1 fun r M2=>E.nx (ρ.set i (some r)) M2
 | _=>False
section
variable {X:Cx} {e:Expr} {te:DE} {x:Str} {pos:Pos}
theorem aDY {i:Nat} {pos':Pos} (hN:X.N.Nodup) (he:PDE X e te) (hi:X.N[i]? = some x:=by rfl) (hx:Loc X.env.scope x:=by first | exact Or.inl rfl | exact Or.inr rfl) (hf:X.fn x = true ∨ X.env.scope.names.lookup x = some .local:=by first | exact .inl rfl | exact .inr rfl | assumption) :
  PDS X (.AugAssign (.Name x pos') .Add e pos) (aAm i te) :=
 hW (aEo (i:=i) hN hi hx he (aDN (X:=X)) hf) fun E σ H ⟨ρ,M,Dn,re,hm,q,k⟩=>by
  unfold aAm at q
  split at q
  ·rename_i z e1
   obtain ⟨v,e2,rv⟩:=re.get i _ e1
   refine ⟨_,e2,ρ,M,_,re,hm,q,fun w H1 ⟨d,M1,rd,hm1,ex,q1⟩=>?_⟩
   exact ⟨z,d,M1,_,rv.ext ex,rd,hm1,q1,fun u H2 ⟨r,M2,rr,hm2,ex2,q2⟩=>k.nx _ H2 ⟨_,M2,(re.ext (ex.trans ex2)).set rr i,hm2,ex.trans ex2,q2⟩⟩
  ·exact q.elim
end
end Dd
namespace Dd
open PySem PySem.Spec PyProof.Rows L2
section
variable {X:Cx} {o e:Expr} {to te:DE} {pos:Pos}
theorem tL {apos cpos:Pos} (ho:ZE X o to) (he:ZE X e te) (hse:starEach [e] X.env = (false,eval e X.env) :: starEach [] X.env:=by rfl) (hbase:attributeBase o "append" X.env (eval o X.env) = eval o X.env:=by rfl) (hfew:((backTo cpos (starEach [e] X.env)).all (fun x=>!x.1) && (backToKw cpos (keywordEach [] X.env)).all (fun x=>x.1.isSome)
   && decide ([e].length + ([]:List Keyword).length + (if ([]:List Keyword).isEmpty then 0 else 1) < 30)) = true:=by rfl) (hline:(apos.endLine == cpos.line) = true:=by rfl) (hplain:(backTo cpos (starEach [] X.env)).any (·.1) = false:=by rfl):ZE X (.Call (.Attribute o "append" apos) [e] [] cpos) (vA to te):=.i (aBE ho.o he.o hse hbase hfew hline hplain)
theorem aA0 {apos cpos:Pos} (ho:ZE X o to) (he:ZE X e te) (hse:starEach [e] X.env = (false,eval e X.env) :: starEach [] X.env:=by rfl) (hbase:attributeBase o "extend" X.env (eval o X.env) = eval o X.env:=by rfl) (hfew:((backTo cpos (starEach [e] X.env)).all (fun x=>!x.1) && (backToKw cpos (keywordEach [] X.env)).all (fun x=>x.1.isSome)
   && decide ([e].length + ([]:List Keyword).length + (if ([]:List Keyword).isEmpty then 0 else 1) < 30)) = true:=by rfl) (hline:(apos.endLine == cpos.line) = true:=by rfl) (hplain:(backTo cpos (starEach [] X.env)).any (·.1) = false:=by rfl):ZE X (.Call (.Attribute o "extend" apos) [e] [] cpos) (xJ to te):=.i (aBD ho.o he.o hse hbase hfew hline hplain)
end
section
variable {X:Cx} {pos:Pos}
end
section
variable {X:Cx}
end
section
variable {X:Cx} {e:Expr} {te:DE} {x:Str} {pos:Pos}
theorem yO {i:Nat} {pos':Pos} (hN:X.N.Nodup) (he:ZE X e te) (hi:X.N[i]? = some x:=by rfl) (hx:Loc X.env.scope x:=by first | exact Or.inl rfl | exact Or.inr rfl) (hf:X.fn x = true ∨ X.env.scope.names.lookup x = some .local:=by first | exact .inl rfl | exact .inr rfl | assumption):ZS X (.AugAssign (.Name x pos') .Add e pos) (aAm i te):=.i (aDY (i:=i) hN he.o hi hx hf)
end
end Dd
namespace Lw
open PySem PySem.Spec PyProof.Rows L2 Dd Mz
local macro_rules | `(tactic| decreasing_tactic) => `(tactic| try dsimp only [vA, xJ, aE7, aBJ, aAm, aLk, aLf, aLq, iB, aBW, aJv, fZ.un, aEv, aJ3, List.map, List.length_cons, List.length_nil, Nat.reduceAdd, Nat.reduceSub, List.reduceReplicate, List.cons_append, List.nil_append, List.set_cons_zero, List.set_cons_succ, List.getElem?_cons_zero, List.getElem?_cons_succ, gCn, gN, gNl, aJh, aHR, aK2, aKI, aLe, aKV, aLa, aKp, aLb, aGe, aHn, aHb, aEO, aKb, aFV, aFU, aGt, aHd, aGy, aHo, aFX, aFh, aIW, aK6, aKW, aKZ, aLx, ixT, ixF, aL8, aKu, aKH, aK3, aLd, aI2, lZ, zK, aAo, dOp, zZ, dC, d2I, d2J, aLn, yK, aHP, dOr, aE5, aIM, aDV, aIY, aIz, aH5, aEr, aJH, aEt, aJd, aCa, aDj, aIE, aFw, aGq, aJ2, aA2, aDQ, aII, aGG, aGJ, aH6, aJt, goC, aKd, xS, Option.join_some, aJp, aJu, dPt, aKq, dSl, aJr, aHJ, aHX, aB3, aFj, aLi, aLh, aAx, aKQ, aEf, aKj, aLR, aGg, aFe, isV, aJg, aKa, aHU, aJP, aIG, aIZ, aIS, aH7, aJS, aHT, aJR, aIP, aJT, aH8, aJM, aIe, aIC, aJa, aIX, aIa, aI6, aIl, aIB, aJI, aJz, aI9, aJY])
local macro_rules | `(tactic| simp_arith) => `(tactic| try simp only [aDS, wR, aKc, fM, aS, id, decide_eq_true_eq, Bool.not_eq_true', decide_eq_false_iff_not])
noncomputable def top (i:Nat):Stmt:=PySem.Challenge.pw_arcmill_k90_agains_opened.main.body.getD i (.Pass ⟨0,0,0,0⟩)
section
variable {P:Program} {w:World} {K:PySem.W.Frag} {mg:Str->Option Value} {base:Heap}
noncomputable abbrev fU:Stmt:=top 7
theorem iI:aP ["one","other"] ["one","other"] (aI fU):=⟨rfl,rfl,rfl,by decide +kernel,rfl,by decide +kernel,by decide +kernel⟩
theorem mP (hF:bO K mg "greatest_divisor" fU ["one","other"]) (oR:mg "abs" = none):Has P w K mg base 101 "greatest_divisor" ["one","other"] fI:=by
 refine Has.mkZ hF iI (fun ds M Q ⟨a,b,e,_⟩=>by rw [e];rfl) fun f cdv A outer s H ds M Q E hr h=>?_
 obtain ⟨a,b,rfl,q⟩:=h
 refine ⟨_,(aE (kD PassesOwn.never (aR (aBg hr) (aB 1) aC) (aF (rA (i:=0) (j:=1) rfl iI.nd (aA (aB 1) (aA (aL cQ (aB 0) (aB 1)) aD)))))
  (aF (aM (eN aAu oR (aA (aB 0) aD))))),?_⟩
 refine kI (fun m ρ M'=>M' = M/\∃ x y:Int,ρ = [some (.int x),some (.int y)]/\m = y.natAbs/\Int.gcd x y = Int.gcd a b) _ ⟨rfl,a,b,rfl,rfl,rfl⟩ ?_
 rintro m ρ M' ⟨rfl,x,y,rfl,rfl,g⟩
 refine ⟨rfl,rfl,aD7 (fun c=>?_) (fun c=>?_)⟩
 ·have c:y ≠ 0:=by simpa [eqD] using c
  exact ⟨c,_,aCz c,rfl,y,x.fmod y,rfl,rfl,(aAV x y).trans g⟩
 ·have c:y = 0:=by simpa [eqD] using c
  subst c
  refine ⟨M',.refl _,?_⟩
  have e:(if x < 0 then -x else x) = (Int.gcd a b:Int):=by rw [<- g,Int.gcd_zero_right];split<;>omega
  rw [e]
  exact q
noncomputable abbrev aBK:Stmt:=top 8
theorem qU:aP ["one","other","shared","part","top","left"] ["one","other"] (aI aBK):=⟨rfl,rfl,rfl,by decide +kernel,rfl,by decide +kernel,by decide +kernel⟩
theorem aEA (hF:bO K mg "plus" aBK ["one","other"]) (bV:Has P w K mg base 101 "greatest_divisor" ["one","other"] fI):Has P w K mg base 102 "plus" ["one","other"] uA:=by
 refine Has.mkZ hF qU oH fun f cdv A outer s H ds M Q E hr h=>?_
 obtain ⟨p,r,m,n,rfl,_,h1,h2,l,q⟩:=h
 refine ⟨_,(aE (aO (i:=2) qU.nd (aG bV hr (by decide) (aA (aH (aB 0) aC) (aA (aH (aB 1) aC) aD))))
  (aE (aO (i:=3) qU.nd (aL fD (aH (aB 0) aC) (aB 2)))
  (aE (aO (i:=4) qU.nd (aL cF (aL bE (aH (aB 0) aC) (aL fD (aH (aB 1) aC) (aB 2))) (aL bE (aH (aB 1) aC) (aB 3))))
  (aE (aO (i:=5) qU.nd (aG bV hr (by decide) (aA (aB 4) (aA (aB 2) aD))))
  (aF (aM (aK (aA (aL fD (aB 4) (aB 5)) (aA (aL bE (aB 3) (aL fD (aH (aB 1) aC) (aB 5))) aD))))))))),?_⟩
 obtain ⟨g0,l0,gd,ld,e1,e2⟩:=aLZ p r _ _ _ _ rfl rfl rfl rfl
 have gr:(Int.gcd p.den r.den:Int) ∣ (r.den:Int):=Int.gcd_dvd_right _ _
 have bg:Bd m (Int.gcd p.den r.den:Int):=h1.2.dvd gd (eO p)
 refine ⟨_,_,rfl,aBe h1.2 (by omega) gd (eO p) g0,aBe h1.2 (by omega) gd (eO p) g0,dA h1.1 (h2.2.fdiv gr) (by omega),dA h2.1 (h1.2.fdiv gd) (by omega),_,_,rfl,?_⟩
 refine ⟨aBe bg (by omega) ld g0 l0,aBe bg (by omega) ld g0 l0,dA (h1.2.fdiv gd) (h2.2.fdiv (Int.dvd_trans ld gr)) (by omega),by show (2:Nat)<=1000;decide,M,.refl _,?_⟩
 have q':Q (.tup [.int (p + r).num,.int ((p + r).den:Int)]) M:=q
 rw [<- e1,<- e2] at q'
 exact q'
noncomputable abbrev zX:Stmt:=top 9
theorem xA:aP ["one","other","falling","rising"] ["one","other"] (aI zX):=⟨rfl,rfl,rfl,by decide +kernel,rfl,by decide +kernel,by decide +kernel⟩
theorem aDw (hF:bO K mg "times" zX ["one","other"]) (bV:Has P w K mg base 101 "greatest_divisor" ["one","other"] fI):Has P w K mg base 102 "times" ["one","other"] mU:=by
 refine Has.mkZ hF xA oH fun f cdv A outer s H ds M Q E hr h=>?_
 obtain ⟨p,r,m,n,rfl,_,h1,h2,l,q⟩:=h
 refine ⟨_,(aE (aO (i:=2) xA.nd (aG bV hr (by decide) (aA (aH (aB 0) aC) (aA (aH (aB 1) aC) aD))))
  (aE (aO (i:=3) xA.nd (aG bV hr (by decide) (aA (aH (aB 1) aC) (aA (aH (aB 0) aC) aD))))
  (aF (aM (aK (aA (aL bE (aL fD (aH (aB 0) aC) (aB 2)) (aL fD (aH (aB 1) aC) (aB 3))) (aA (aL bE (aL fD (aH (aB 0) aC) (aB 3)) (aL fD (aH (aB 1) aC) (aB 2))) aD))))))),?_⟩
 obtain ⟨f0,r0,fd,rd,e1,e2⟩:=aLY p r _ _ rfl rfl
 have fl:(Int.gcd p.num r.den:Int) ∣ p.num:=Int.gcd_dvd_left _ _
 have rl:(Int.gcd r.num p.den:Int) ∣ r.num:=Int.gcd_dvd_left _ _
 refine ⟨_,_,rfl,_,_,rfl,aBe h2.2 (by omega) fd (eO r) f0,aBe h1.2 (by omega) rd (eO p) r0,dA (h1.1.fdiv fl) (h2.1.fdiv rl) (by omega),aBe h1.2 (by omega) rd (eO p) r0,aBe h2.2 (by omega) fd (eO r) f0,dA (h1.2.fdiv rd) (h2.2.fdiv fd) (by omega),by show (2:Nat)<=1000;decide,M,.refl _,?_⟩
 have q':Q (.tup [.int (p * r).num,.int ((p * r).den:Int)]) M:=q
 rw [<- e1,<- e2] at q'
 exact q'
noncomputable abbrev aBX:Stmt:=top 10
theorem aHk:aP ["one","other"] ["one","other"] (aI aBX):=⟨rfl,rfl,rfl,by decide +kernel,rfl,by decide +kernel,by decide +kernel⟩
theorem aD8 (hF:bO K mg "over" aBX ["one","other"]) (gE:Has P w K mg base 102 "times" ["one","other"] mU):Has P w K mg base 103 "over" ["one","other"] aCq:=by
 refine Has.mkZ hF aHk oH fun f cdv A outer s H ds M Q E hr h=>?_
 obtain ⟨p,r,m,n,rfl,h0,h1,h2,l,q⟩:=h
 refine ⟨_,(aE (bA (aR (cL hr) (aH (aB 1) aC) aC) (aF kP) aX)
  (aE (bA (aR vM (aH (aB 1) aC) aC) (aF (aM (aG gE hr (by decide) (aA (aB 0) (aA (aK (aA (eI (aH (aB 1) aC)) (aA (eI (aH (aB 1) aC)) aD))) aD))))) aX)
  (aF (aM (aG gE hr (by decide) (aA (aB 0) (aA (aK (aA (aH (aB 1) aC) (aA (aH (aB 1) aC) aD))) aD))))))),?_⟩
 have e:p * (1 / r) = p / r:=by grind
 refine ⟨rfl,rfl,aD7 (fun c=>absurd (aEm.mp (by simpa [eqD] using c)) h0) (fun _=>dif (fun c=>?_) (fun c=>?_))⟩
 ·have c':r < 0:=vE.mp c
  obtain ⟨e1,e2⟩:=aLX c'
  refine ⟨by show (2:Nat)<=1000;decide,p,1 / r,m,n,by unfold FQ;rw [<- e1,<- e2],trivial,h1,⟨e1 ▸ h2.2.neg,e2 ▸ h2.1.neg⟩,l,M,.refl _,?_⟩
  show Q (FQ (p * (1 / r))) M
  rw [e]
  exact q
 ·have c':0 < r:=by
   have:¬ r < 0:=fun z=>c (vE.mpr z)
   grind
  obtain ⟨e1,e2⟩:=aKT c'
  refine ⟨by show (2:Nat)<=1000;decide,p,1 / r,m,n,by unfold FQ;rw [<- e1,<- e2],trivial,h1,⟨e1 ▸ h2.2,e2 ▸ h2.1⟩,l,M,.refl _,?_⟩
  show Q (FQ (p * (1 / r))) M
  rw [e]
  exact q
noncomputable abbrev aAf:Stmt:=top 11
theorem aEV:aP ["one","other"] ["one","other"] (aI aAf):=⟨rfl,rfl,rfl,by decide +kernel,rfl,by decide +kernel,by decide +kernel⟩
theorem aDk (hF:bO K mg "below" aAf ["one","other"]):Has P w K mg base 101 "below" ["one","other"] aBf:=by
 refine Has.mkZ hF aEV oH fun f cdv A outer s H ds M Q E hr h=>?_
 obtain ⟨p,r,m,n,rfl,_,h1,h2,l,q⟩:=h
 refine ⟨_,(aF (aM (lU vM (aL bE (aH (aB 0) aC) (aH (aB 1) aC)) (aL bE (aH (aB 1) aC) (aH (aB 0) aC))))),?_⟩
 refine ⟨dA h1.1 h2.2 (by omega),dA h2.1 h1.2 (by omega),M,.refl _,?_⟩
 have e:decide (p.num * (r.den:Int) < r.num * (p.den:Int)) = decide (p < r):=decide_eq_decide.mpr (ltQ p r)
 show Q (.bl (decide (p.num * (r.den:Int) < r.num * (p.den:Int)))) M
 rw [e]
 exact q
noncomputable abbrev pE:Stmt:=top 14
theorem aAW:aP ["p","q"] ["p","q"] (aI pE):=⟨rfl,rfl,rfl,by decide +kernel,rfl,by decide +kernel,by decide +kernel⟩
theorem aAM (hF:bO K mg "together" pE ["p","q"]) (pY:Has P w K mg base 102 "plus" ["one","other"] uA):Has P w K mg base 104 "together" ["p","q"] tM:=by
 refine Has.mkZ hF aAW (fun ds M Q ⟨x,y,u,v,e,_⟩=>by rw [e];rfl) fun f cdv A outer s H ds M Q E hr h=>?_
 obtain ⟨x,y,u,v,rfl,h1,h2,h3,h4,q⟩:=h
 refine ⟨_,(aF (aM (aK (aA (aG pY hr (by decide) (aA (aH (aB 0) aC) (aA (aH (aB 1) aC) aD))) (aA (aG pY hr (by decide) (aA (aH (aB 0) aC) (aA (aH (aB 1) aC) aD))) aD))))),?_⟩
 exact ⟨x,u,_,_,rfl,trivial,h1,h3,by decide,y,v,_,_,rfl,trivial,h2,h4,by decide,by show (2:Nat)<=1000;decide,M,.refl _,q⟩
noncomputable def vG:DSp:=fun ds M Q=>∃ x y r m n,ds = [PQ x y,FQ r]/\BQ m x/\BQ m y/\BQ n r/\m + n<=8998/\Q (PQ (x * r) (y * r)) M
noncomputable abbrev aAe:Stmt:=top 15
theorem aEC:aP ["p","number"] ["p","number"] (aI aAe):=⟨rfl,rfl,rfl,by decide +kernel,rfl,by decide +kernel,by decide +kernel⟩
theorem aDz (hF:bO K mg "grown" aAe ["p","number"]) (gE:Has P w K mg base 102 "times" ["one","other"] mU):Has P w K mg base 103 "grown" ["p","number"] vG:=by
 refine Has.mkZ hF aEC (fun ds M Q ⟨x,y,r,m,n,e,_⟩=>by rw [e];rfl) fun f cdv A outer s H ds M Q E hr h=>?_
 obtain ⟨x,y,r,m,n,rfl,h1,h2,h3,l,q⟩:=h
 refine ⟨_,(aF (aM (aK (aA (aG gE hr (by decide) (aA (aH (aB 0) aC) (aA (aB 1) aD))) (aA (aG gE hr (by decide) (aA (aH (aB 0) aC) (aA (aB 1) aD))) aD))))),?_⟩
 decreasing_tactic
 exact ⟨x,r,_,_,rfl,trivial,h1,h3,l,y,r,_,_,rfl,trivial,h2,h3,l,by decide,M,.refl _,q⟩
noncomputable def yM:DSp:=fun ds M Q=>∃ x y z,ds = [PQ x y,.int z]/\Q (PQ (rq x y (z.fmod 4).toNat).1 (rq x y (z.fmod 4).toNat).2) M
noncomputable abbrev vU:Stmt:=top 16
theorem iT:aP ["p","quarters","x","y","left"] ["p","quarters"] (aI vU):=⟨rfl,rfl,rfl,by decide +kernel,rfl,by decide +kernel,by decide +kernel⟩
theorem aBF (hF:bO K mg "turned" vU ["p","quarters"]):Has P w K mg base 101 "turned" ["p","quarters"] yM:=by
 refine Has.mkZ hF iT (fun ds M Q ⟨x,y,z,e,_⟩=>by rw [e];rfl) fun f cdv A outer s H ds M Q E hr h=>?_
 obtain ⟨x,y,z,rfl,q⟩:=h
 refine ⟨_,(aE (eT (aB 0) (eH (n:=2) rfl (aV (aQ (i:=2) iT.nd) (aV (aQ (i:=3) iT.nd) dG))))
  (aE (aO (i:=4) iT.nd (aL cQ (aB 1) aC))
  (aE (kD PassesOwn.never (aR iE (aB 4) aC) (aE (rA (i:=2) (j:=3) rfl iT.nd (aA (aK (aA (eI (aH (aB 3) aC)) (aA (aH (aB 3) aC) aD))) (aA (aB 2) aD)))
  (aF (kE (i:=4) aJb iT.nd aC))))
  (aF (aM (aK (aA (aB 2) (aA (aB 3) aD)))))))),?_⟩
 decreasing_tactic
 refine ⟨rfl,by decide,?_⟩
 have z0:=Int.fmod_nonneg_of_pos z (show (0:Int) < 4 by decide)
 generalize hk:(z.fmod 4).toNat = k at q
 have ek:z.fmod 4 = (k:Int):=by omega
 rw [ek]
 refine kI (fun m ρ M'=>M' = M/\∃ j,j + m = k/\ρ = [some (PQ x y),some (.int z),some (FQ (rq x y j).1),some (FQ (rq x y j).2),some (.int (m:Int))]) k ⟨rfl,0,by omega,rfl⟩ ?_
 rintro m ρ M' ⟨rfl,j,hj,rfl⟩
 decreasing_tactic
 refine dif (fun c=>?_) (fun c=>?_)
 ·obtain ⟨m',rfl⟩:∃ m',m = m' + 1:=⟨m - 1,by omega⟩
  refine ⟨by decide,m',by omega,rfl,j + 1,by omega,?_⟩
  rw [zW,show ((m' + 1:Nat):Int) - 1 = (m':Int) by omega]
  rfl
 ·have:m = 0:=by omega
  subst this
  have:j = k:=by omega
  subst this
  exact ⟨by decide,M',.refl _,q⟩
noncomputable abbrev vL:Stmt:=top 21
theorem aDI:aP ["p","q"] ["p","q"] (aI vL):=⟨rfl,rfl,rfl,by decide +kernel,rfl,by decide +kernel,by decide +kernel⟩
theorem aBO (hF:bO K mg "before" vL ["p","q"]) (uI:Has P w K mg base 101 "below" ["one","other"] aBf):Has P w K mg base 102 "before" ["p","q"] zF:=by
 refine Has.mkZ hF aDI (fun ds M Q ⟨x,y,u,v,e,_⟩=>by rw [e];rfl) fun f cdv A outer s H ds M Q E hr h=>?_
 obtain ⟨x,y,u,v,rfl,h1,h2,h3,h4,q⟩:=h
 refine ⟨_,(aE (bA (aR (cL hr) (aH (aB 0) aC) (aH (aB 1) aC)) (aF (aM (aG uI hr (by decide) (aA (aH (aB 0) aC) (aA (aH (aB 1) aC) aD))))) aX)
  (aF (aM (aG uI hr (by decide) (aA (aH (aB 0) aC) (aA (aH (aB 1) aC) aD)))))),?_⟩
 unfold bef at q
 refine ⟨rfl,rfl,?_⟩
 rw [show (id (eqD (FQ x) (FQ u))) = decide (x = u) from wN x u]
 refine dif (fun c=>?_) (fun c=>?_)
 ·rw [if_pos c] at q
  exact ⟨y,v,_,_,rfl,trivial,h2,h4,by decide,M,.refl _,q⟩
 ·rw [if_neg c] at q
  exact ⟨x,u,_,_,rfl,trivial,h1,h3,by decide,M,.refl _,q⟩
noncomputable def oD (x y:Rat):Int:=if (x.den:Int) = (y.den:Int) then (x.den:Int) else (x.den:Int) * (y.den:Int)
noncomputable def oX (x y:Rat):Int:=if (x.den:Int) = (y.den:Int) then x.num else x.num * (y.den:Int)
noncomputable def oY (x y:Rat):Int:=if (x.den:Int) = (y.den:Int) then y.num else y.num * (x.den:Int)
theorem aCi (x y:Rat):0 < oD x y:=by
 have h1:(0:Int) < x.den:=by have:=x.den_pos;omega
 have h2:(0:Int) < y.den:=by have:=y.den_pos;omega
 unfold oD;split
 ·exact h1
 ·exact Int.mul_pos h1 h2
theorem aHv (x y:Rat):((oX x y:Int):Rat) = x * (oD x y:Int):=by
 have e:=eP x
 unfold oX oD;split
 ·rw [e]
 ·rw [Rat.intCast_mul,Rat.intCast_mul,e];grind
theorem aHI (x y:Rat):((oY x y:Int):Rat) = y * (oD x y:Int):=by
 have e:=eP y
 unfold oY oD;split
 ·rename_i h;rw [e,h]
 ·rw [Rat.intCast_mul,Rat.intCast_mul,e];grind
theorem aDG {x y:Rat} {n:Nat} (hx:BQ n x) (hy:BQ n y):Bd (n + n) (oX x y)/\Bd (n + n) (oY x y)/\Bd (n + n) (oD x y):=by
 unfold oX oY oD
 refine ⟨?_,?_,?_⟩
 ·split
  ·exact hx.1.mono (by omega)
  ·exact hx.1.mul hy.2
 ·split
  ·exact hy.1.mono (by omega)
  ·exact hy.1.mul hx.2
 ·split
  ·exact hx.2.mono (by omega)
  ·exact hx.2.mul hy.2
noncomputable def gQ:DSp:=fun ds M Q=>∃ x y n,ds = [PQ x y]/\BQ n x/\BQ n y/\n<=8998/\Q (.tup [.int (oX x y),.int (oY x y),.int (oD x y)]) M
noncomputable abbrev iC:Stmt:=top 17
theorem gW:aP ["p","x","y"] ["p"] (aI iC):=⟨rfl,rfl,rfl,by decide +kernel,rfl,by decide +kernel,by decide +kernel⟩
theorem rD (hF:bO K mg "on_one_bottom" iC ["p"]):Has P w K mg base 101 "on_one_bottom" ["p"] gQ:=by
 refine Has.mkZ hF gW (fun ds M Q ⟨x,y,n,e,_⟩=>by rw [e];rfl) fun f cdv A outer s H ds M Q E hr h=>?_
 obtain ⟨x,y,n,rfl,hx,hy,hn,q⟩:=h
 refine ⟨_,(aE (eT (aB 0) (eH (n:=2) rfl (aV (aQ (i:=1) gW.nd) (aV (aQ (i:=2) gW.nd) dG))))
  (aE (bA (aR (cL hr) (aH (aB 1) aC) (aH (aB 2) aC)) (aF (aM (aK (aA (aH (aB 1) aC) (aA (aH (aB 2) aC) (aA (aH (aB 1) aC) aD)))))) aX)
  (aF (aM (aK (aA (aL bE (aH (aB 1) aC) (aH (aB 2) aC)) (aA (aL bE (aH (aB 2) aC) (aH (aB 1) aC)) (aA (aL bE (aH (aB 1) aC) (aH (aB 2) aC)) aD)))))))),?_⟩
 unfold oX oY oD at q
 decreasing_tactic
 rw [fM]
 refine ⟨rfl,dif (fun c=>?_) (fun c=>?_)⟩
 ·rw [if_pos c,if_pos c,if_pos c] at q
  exact ⟨by decide,M,.refl _,q⟩
 ·rw [if_neg c,if_neg c,if_neg c] at q
  exact ⟨dA hx.1 hy.2 (by omega),dA hy.1 hx.2 (by omega),dA hx.2 hy.2 (by omega),by decide,M,.refl _,q⟩
noncomputable def aAs:DSp:=fun ds M Q=>∃ i,ds = [.int i]/\Q (.int (if 0 < i then 1 else if i = 0 then 0 else -1)) M
noncomputable abbrev aB4:Stmt:=top 18
theorem aGE:aP ["number"] ["number"] (aI aB4):=⟨rfl,rfl,rfl,by decide +kernel,rfl,by decide +kernel,by decide +kernel⟩
theorem aFx (hF:bO K mg "sign" aB4 ["number"]):Has P w K mg base 101 "sign" ["number"] aAs:=by
 refine Has.mkZ hF aGE (fun ds M Q ⟨x,e,_⟩=>by rw [e];rfl) fun f cdv A outer s H ds M Q E hr h=>?_
 obtain ⟨i,rfl,q⟩:=h
 refine ⟨_,(aE (bA (aR iE (aB 0) aC) (aF (aM aC)) aX)
  (aF (aM (gR (aR (cL hr) (aB 0) aC) aC (eI aC))))),?_⟩
 decreasing_tactic
 refine dif (fun c=>?_) (fun c=>?_)
 ·rw [if_pos c] at q
  exact ⟨M,.refl _,q⟩
 ·rw [if_neg c] at q
  rw [fM]
  refine dif (fun d=>?_) (fun d=>?_)
  ·rw [if_pos d] at q
   exact ⟨M,.refl _,q⟩
  ·rw [if_neg d] at q
   exact ⟨M,.refl _,q⟩
noncomputable def fS (cx cy px py:Rat):Int:=(oX px py * oD cx cy - oX cx cy * oD px py) * (oX px py * oD cx cy - oX cx cy * oD px py) + (oY px py * oD cx cy - oY cx cy * oD px py) * (oY px py * oD cx cy - oY cx cy * oD px py)
theorem aHK (cx cy px py:Rat):((fS cx cy px py:Int):Rat) = ((px - cx) * (px - cx) + (py - cy) * (py - cy)) * (((oD cx cy:Int):Rat) * ((oD px py:Int):Rat)) * (((oD cx cy:Int):Rat) * ((oD px py:Int):Rat)):=by
 unfold fS
 simp only [Rat.intCast_add,Rat.intCast_mul,Rat.intCast_sub]
 rw [aHv,aHv,aHI,aHI]
 grind
noncomputable def oQ:DSp:=fun ds M Q=>∃ cx cy px py n,ds = [PQ cx cy,PQ px py]/\BQ n cx/\BQ n cy/\BQ n px/\BQ n py/\n<=4000/\Q (.tup [.int (fS cx cy px py),.int (oD px py)]) M
noncomputable abbrev lM:Stmt:=top 20
theorem cO:aP ["c","p","cx","cy","cd","px","py","pd","x","y"] ["c","p"] (aI lM):=⟨rfl,rfl,rfl,by decide +kernel,rfl,by decide +kernel,by decide +kernel⟩
theorem vT (hF:bO K mg "scaled_far" lM ["c","p"]) (fN:Has P w K mg base 101 "on_one_bottom" ["p"] gQ):Has P w K mg base 102 "scaled_far" ["c","p"] oQ:=by
 refine Has.mkZ hF cO (fun ds M Q ⟨cx,cy,px,py,n,e,_⟩=>by rw [e];rfl) fun f cdv A outer s H ds M Q E hr h=>?_
 obtain ⟨cx,cy,px,py,n,rfl,h1,h2,h3,h4,hn,q⟩:=h
 refine ⟨_,(aE (eT (aG fN hr (by decide) (aA (aB 0) aD)) (eH (n:=3) rfl (aV (aQ (i:=2) cO.nd) (aV (aQ (i:=3) cO.nd) (aV (aQ (i:=4) cO.nd) dG)))))
  (aE (eT (aG fN hr (by decide) (aA (aB 1) aD)) (eH (n:=3) rfl (aV (aQ (i:=5) cO.nd) (aV (aQ (i:=6) cO.nd) (aV (aQ (i:=7) cO.nd) dG)))))
  (aE (aO (i:=8) cO.nd (aL nH (aL bE (aB 5) (aB 4)) (aL bE (aB 2) (aB 7))))
  (aE (aO (i:=9) cO.nd (aL nH (aL bE (aB 6) (aB 4)) (aL bE (aB 3) (aB 7))))
  (aF (aM (aK (aA (aL cF (aL bE (aB 8) (aB 8)) (aL bE (aB 9) (aB 9))) (aA (aB 7) aD))))))))),?_⟩
 decreasing_tactic
 obtain ⟨a1,a2,a3⟩:=aDG h1 h2
 obtain ⟨b1,b2,b3⟩:=aDG h3 h4
 have dX:Bd (n + n + (n + n) + 1) (oX px py * oD cx cy - oX cx cy * oD px py):=(b1.mul a3).sub (a1.mul b3)
 have dY:Bd (n + n + (n + n) + 1) (oY px py * oD cx cy - oY cx cy * oD px py):=(b2.mul a3).sub (a2.mul b3)
 refine ⟨cx,cy,n,rfl,h1,h2,by omega,?_⟩
 decreasing_tactic
 refine ⟨rfl,px,py,n,rfl,h3,h4,by omega,?_⟩
 decreasing_tactic
 exact ⟨rfl,dA b1 a3 (by omega),dA a1 b3 (by omega),dA b2 a3 (by omega),dA a2 b3 (by omega),dA dX dX (by omega),dA dY dY (by omega),by decide,M,.refl _,q⟩
noncomputable def dL (cx cy px py:Rat):Rat:=(px - cx) * (px - cx) + (py - cy) * (py - cy)
theorem aHG {cx cy px py:Rat} {n:Nat} (h1:BQ n cx) (h2:BQ n cy) (h3:BQ n px) (h4:BQ n py):Bd (8 * n + 3) (fS cx cy px py):=by
 obtain ⟨a1,a2,a3⟩:=aDG h1 h2
 obtain ⟨b1,b2,b3⟩:=aDG h3 h4
 have dX:Bd (n + n + (n + n) + 1) (oX px py * oD cx cy - oX cx cy * oD px py):=(b1.mul a3).sub (a1.mul b3)
 have dY:Bd (n + n + (n + n) + 1) (oY px py * oD cx cy - oY cx cy * oD px py):=(b2.mul a3).sub (a2.mul b3)
 exact ((dX.mul dX).add (dY.mul dY)).mono (by omega)
theorem aF0 (cx cy px py qx qy:Rat):(0 < fS cx cy px py * oD qx qy * oD qx qy - fS cx cy qx qy * oD px py * oD px py ↔ dL cx cy qx qy < dL cx cy px py) /\
  (fS cx cy px py * oD qx qy * oD qx qy - fS cx cy qx qy * oD px py * oD px py = 0 ↔ dL cx cy px py = dL cx cy qx qy):=by
 have e:((fS cx cy px py * oD qx qy * oD qx qy - fS cx cy qx qy * oD px py * oD px py:Int):Rat) = (dL cx cy px py - dL cx cy qx qy) * ((((oD cx cy:Int):Rat) * ((oD px py:Int):Rat) * ((oD qx qy:Int):Rat)) * (((oD cx cy:Int):Rat) * ((oD px py:Int):Rat) * ((oD qx qy:Int):Rat))):=by
  simp only [Rat.intCast_mul,Rat.intCast_sub]
  rw [aHK,aHK]
  unfold dL
  grind
 have c1:(0:Rat) < ((oD cx cy:Int):Rat):=Rat.intCast_pos.mpr (aCi _ _)
 have c2:(0:Rat) < ((oD px py:Int):Rat):=Rat.intCast_pos.mpr (aCi _ _)
 have c3:(0:Rat) < ((oD qx qy:Int):Rat):=Rat.intCast_pos.mpr (aCi _ _)
 have k0:(0:Rat) < (((oD cx cy:Int):Rat) * ((oD px py:Int):Rat) * ((oD qx qy:Int):Rat)) * (((oD cx cy:Int):Rat) * ((oD px py:Int):Rat) * ((oD qx qy:Int):Rat)):=Rat.mul_pos (Rat.mul_pos (Rat.mul_pos c1 c2) c3) (Rat.mul_pos (Rat.mul_pos c1 c2) c3)
 generalize (((oD cx cy:Int):Rat) * ((oD px py:Int):Rat) * ((oD qx qy:Int):Rat)) * (((oD cx cy:Int):Rat) * ((oD px py:Int):Rat) * ((oD qx qy:Int):Rat)) = κ at e k0
 generalize fS cx cy px py * oD qx qy * oD qx qy - fS cx cy qx qy * oD px py * oD px py = z at e ⊢
 generalize dL cx cy px py = u at e ⊢
 generalize dL cx cy qx qy = v at e ⊢
 constructor
 ·rw [<- Rat.intCast_pos,e]
  constructor
  ·intro h
   by_cases c:v < u
   ·exact c
   ·have:u - v<=0:=by grind
    have:=Rat.mul_nonneg (a:=v - u) (b:=κ) (by grind) (by grind)
    grind
  ·intro h
   exact Rat.mul_pos (by grind) k0
 ·constructor
  ·intro h
   rw [h] at e
   have:=(Rat.mul_eq_zero.mp e.symm).resolve_right (by grind)
   grind
  ·intro h
   have:(z:Rat) = 0:=by rw [e,h];grind
   exact Rat.intCast_eq_zero_iff.mp this
noncomputable def aFg (cx cy px py qx qy:Rat):Int:=if dL cx cy qx qy < dL cx cy px py then 1 else if dL cx cy px py = dL cx cy qx qy then 0 else -1
noncomputable def uW:DSp:=fun ds M Q=>∃ cx cy px py qx qy n,ds = [PQ cx cy,PQ px py,PQ qx qy]/\BQ n cx/\BQ n cy/\BQ n px/\BQ n py/\BQ n qx/\BQ n qy/\n<=4000/\Q (.int (aFg cx cy px py qx qy)) M
noncomputable abbrev sH:Stmt:=top 19
theorem jF:aP ["c","p","q","p_square","pd","q_square","qd"] ["c","p","q"] (aI sH):=⟨rfl,rfl,rfl,by decide +kernel,rfl,by decide +kernel,by decide +kernel⟩
theorem aA5 (hF:bO K mg "farther" sH ["c","p","q"]) (iQ:Has P w K mg base 102 "scaled_far" ["c","p"] oQ) (aB8:Has P w K mg base 101 "sign" ["number"] aAs):Has P w K mg base 103 "farther" ["c","p","q"] uW:=by
 refine Has.mkZ hF jF (fun ds M Q ⟨cx,cy,px,py,qx,qy,n,e,_⟩=>by rw [e];rfl) fun f cdv A outer s H ds M Q E hr h=>?_
 obtain ⟨cx,cy,px,py,qx,qy,n,rfl,h1,h2,h3,h4,h5,h6,hn,q⟩:=h
 refine ⟨_,(aE (eT (aG iQ hr (by decide) (aA (aB 0) (aA (aB 1) aD))) (eH (n:=2) rfl (aV (aQ (i:=3) jF.nd) (aV (aQ (i:=4) jF.nd) dG))))
  (aE (eT (aG iQ hr (by decide) (aA (aB 0) (aA (aB 2) aD))) (eH (n:=2) rfl (aV (aQ (i:=5) jF.nd) (aV (aQ (i:=6) jF.nd) dG))))
  (aF (aM (aG aB8 hr (by decide) (aA (aL nH (aL bE (aL bE (aB 3) (aB 6)) (aB 6)) (aL bE (aL bE (aB 5) (aB 4)) (aB 4))) aD)))))),?_⟩
 decreasing_tactic
 have bP:=aHG h1 h2 h3 h4
 have bQ:=aHG h1 h2 h5 h6
 have dP:=(aDG h3 h4).2.2
 have dQ:=(aDG h5 h6).2.2
 refine ⟨cx,cy,px,py,n,rfl,h1,h2,h3,h4,hn,?_⟩
 decreasing_tactic
 refine ⟨rfl,cx,cy,qx,qy,n,rfl,h1,h2,h5,h6,hn,?_⟩
 decreasing_tactic
 refine ⟨rfl,dA bP dQ (by omega),dA (bP.mul dQ) dQ (by omega),dA bQ dP (by omega),dA (bQ.mul dP) dP (by omega),_,rfl,M,.refl _,?_⟩
 obtain ⟨e1,e2⟩:=aF0 cx cy px py qx qy
 have e:(if 0 < fS cx cy px py * oD qx qy * oD qx qy - fS cx cy qx qy * oD px py * oD px py then 1 else if fS cx cy px py * oD qx qy * oD qx qy - fS cx cy qx qy * oD px py * oD px py = 0 then 0 else -1:Int) = aFg cx cy px py qx qy:=by
  unfold aFg
  by_cases c:dL cx cy qx qy < dL cx cy px py
  ·rw [if_pos c,if_pos (e1.mpr c)]
  ·rw [if_neg c,if_neg (fun z=>c (e1.mp z))]
   by_cases d:dL cx cy px py = dL cx cy qx qy
   ·rw [if_pos d,if_pos (e2.mpr d)]
   ·rw [if_neg d,if_neg (fun z=>d (e2.mp z))]
 rw [e]
 exact q
noncomputable def LdB (B:Nat) (s x y:Rat):Prop:=BQ B x/\BQ B y/\BQ B (x * s)/\BQ B (y * s)
noncomputable def wG (s x y:Rat):Prop:=LdB 4000 s x y
theorem wG.up {s x y:Rat} (l:wG s x y):LdB 4400 s x y:=⟨l.1.mono (by decide),l.2.1.mono (by decide),l.2.2.1.mono (by decide),l.2.2.2.mono (by decide)⟩
theorem aDe {B:Nat} {x y s:Rat} (h1:BQ B (x * s)) (h2:BQ B (y * s)):∀ n,BQ B ((rq x y n).1 * s)/\BQ B ((rq x y n).2 * s)
 | 0=>⟨h1,h2⟩
 | n + 1=>by
  obtain ⟨a,b⟩:=aDe h1 h2 n
  refine ⟨?_,a⟩
  show BQ B (-(rq x y n).2 * s)
  rw [show -(rq x y n).2 * s = -((rq x y n).2 * s) by grind]
  exact b.neg
noncomputable def wW:DSp:=fun ds M Q=>∃ px py t h s x y,ds = [FR px py t h s,PQ x y]/\iH px py t h s 4400/\LdB 4400 s x y/\Q (PQ (ldX px t h s x y) (ldY py t h s x y)) M
theorem aGI {h:Int} (hh:h = 1 ∨ h = -1) (y:Rat):(D.tup [.int (h * y.num),.int (y.den:Int)]) = FQ ((h:Rat) * y):=by
 rcases hh with rfl | rfl
 ·rw [Int.one_mul,show (((1:Int):Rat)) = 1 from rfl,Rat.one_mul];rfl
 ·rw [show (-1:Int) * y.num = -y.num by omega,zW,show (((-1:Int):Rat)) * y = -y by rw [show (((-1:Int):Rat)) = -1 from rfl];grind]
theorem aCK {h:Int} (hh:h = 1 ∨ h = -1) {B:Nat} {y:Rat} (b:BQ B y):BQ B ((h:Rat) * y):=by
 rcases hh with rfl | rfl
 ·rw [show (((1:Int):Rat)) = 1 from rfl,Rat.one_mul];exact b
 ·rw [show (((-1:Int):Rat)) * y = -y by rw [show (((-1:Int):Rat)) = -1 from rfl];grind];exact b.neg
theorem qL {h:Int} (hh:h = 1 ∨ h = -1):Bd 63 h:=by rcases hh with rfl | rfl<;>(unfold Bd;decide)
theorem LdB.rq {B:Nat} {s x y:Rat} {h:Int} (l:LdB B s x y) (hh:h = 1 ∨ h = -1) (n:Nat):(BQ B (rq x ((h:Rat) * y) n).1/\BQ B (rq x ((h:Rat) * y) n).2)/\BQ B ((rq x ((h:Rat) * y) n).1 * s)/\BQ B ((rq x ((h:Rat) * y) n).2 * s):=by
 refine ⟨aET l.1 (aCK hh l.2.1) n,aDe l.2.2.1 ?_ n⟩
 rw [show (h:Rat) * y * s = (h:Rat) * (y * s) by grind]
 exact aCK hh l.2.2.2
noncomputable abbrev aEP:Stmt:=top 28
theorem rN:aP ["frame","p","place","turns","hand","size","held"] ["frame","p"] (aI aEP):=⟨rfl,rfl,rfl,by decide +kernel,rfl,by decide +kernel,by decide +kernel⟩
theorem aHg (hF:bO K mg "led" aEP ["frame","p"]) (oZ:Has P w K mg base 104 "together" ["p","q"] tM) (oA:Has P w K mg base 103 "grown" ["p","number"] vG) (xE:Has P w K mg base 101 "turned" ["p","quarters"] yM):Has P w K mg base 105 "led" ["frame","p"] wW:=by
 refine Has.mkZ hF rN (fun ds M Q ⟨a,b,c,d,e,f,g,z,_⟩=>by rw [z];rfl) fun f cdv A outer s H ds M Q E hr h=>?_
 obtain ⟨px,py,t,h,sz,x,y,rfl,⟨b1,b2,t0,t1,hh,s0,b3⟩,l,q⟩:=h
 refine ⟨_,(aE (eT (aB 0) (eH (n:=4) rfl (aV (aQ (i:=2) rN.nd) (aV (aQ (i:=3) rN.nd) (aV (aQ (i:=4) rN.nd) (aV (aQ (i:=5) rN.nd) dG))))))
  (aE (aO (i:=6) rN.nd (aK (aA (aH (aB 1) aC) (aA (aK (aA (aL bE (aB 4) (aH (aH (aB 1) aC) aC)) (aA (aH (aH (aB 1) aC) aC) aD))) aD))))
  (aF (aM (aG oZ hr (by decide) (aA (aG oA hr (by decide) (aA (aG xE hr (by decide) (aA (aB 6) (aA (aB 3) aD))) (aA (aB 5) aD))) (aA (aB 2) aD))))))),?_⟩
 decreasing_tactic
 refine ⟨rfl,iD (qL hh),by decide,by decide,?_⟩
 rw [aGI hh]
 have et:(t.fmod 4).toNat = t.toNat:=by
  have:t = 0 ∨ t = 1 ∨ t = 2 ∨ t = 3:=by omega
  rcases this with rfl | rfl | rfl | rfl<;>rfl
 obtain ⟨⟨c1,c2⟩,c3,c4⟩:=l.rq hh t.toNat
 refine ⟨x,(h:Rat) * y,t,rfl,?_⟩
 rw [et]
 exact ⟨_,_,_,_,_,rfl,c1,c2,b3,by decide,_,_,px,py,rfl,c3,c4,b1,b2,M,.refl _,q⟩
noncomputable def qF:DSp:=fun ds M Q=>ds = []/\Q (FR 0 0 0 1 1) M
noncomputable abbrev aAa:Stmt:=top 27
theorem aEQ:aP [] [] (aI aAa):=⟨rfl,rfl,rfl,by decide +kernel,rfl,by decide +kernel,by decide +kernel⟩
theorem aDi (hF:bO K mg "first" aAa []) (aZ:fP K mg "MIDDLE" sE) (mB:fP K mg "ONE" aFM):Has P w K mg base 101 "first" [] qF:=by
 refine Has.mkZ hF aEQ (fun ds M Q ⟨e,_⟩=>by rw [e];rfl) fun f cdv A outer s H ds M Q E hr h=>?_
 obtain ⟨rfl,q⟩:=h
 refine ⟨_,(aF (aM (aK (aA (bD aZ) (aA aC (aA aC (aA (bD mB) aD))))))),?_⟩
 decreasing_tactic
 exact ⟨by decide,M,.refl _,q⟩
noncomputable def fA:DSp:=fun ds M Q=>∃ t b,ds = [.int t,.int b]/\0 < b/\Bd 8999 b/\Q (FQ ((t:Rat) / (b:Rat))) M
noncomputable abbrev mF:Stmt:=top 69
theorem kY:aP ["_law_top","_law_bottom","_law_one","_law_other"] ["_law_top","_law_bottom"] (aI mF):=⟨rfl,rfl,rfl,by decide +kernel,rfl,by decide +kernel,by decide +kernel⟩
theorem yI (hF:bO K mg "_law_ratio" mF ["_law_top","_law_bottom"]) (oR:mg "abs" = none):Has P w K mg base 101 "_law_ratio" ["_law_top","_law_bottom"] fA:=by
 refine Has.mkZ hF kY (fun ds M Q ⟨a,b,e,_⟩=>by rw [e];rfl) fun f cdv A outer s H ds M Q E hr h=>?_
 obtain ⟨t,b,rfl,hb,hB,q⟩:=h
 refine ⟨_,(aE (rA (i:=2) (j:=3) rfl kY.nd (aA (eN aAu oR (aA (aB 0) aD)) (aA (aB 1) aD)))
  (aE (kD PassesOwn.never (aR iE (aB 3) aC) (aF (rA (i:=2) (j:=3) rfl kY.nd (aA (aB 3) (aA (aL cQ (aB 2) (aB 3)) aD)))))
  (aF (aM (aK (aA (aL fD (aB 0) (aB 2)) (aA (aL fD (aB 1) (aB 2)) aD))))))),?_⟩
 have hb0:b ≠ 0:=by omega
 refine kI (fun m ρ M'=>M' = M/\∃ x y:Int,ρ = [some (.int t),some (.int b),some (.int x),some (.int y)]/\m = y.natAbs/\0<=x/\0<=y/\Int.gcd x y = Int.gcd t b) _ ⟨rfl,_,_,rfl,rfl,by split<;>omega,by omega,by
  split<;>simp [Int.neg_gcd]⟩ ?_
 rintro m ρ M' ⟨rfl,x,y,rfl,rfl,hx,hy,g⟩
 decreasing_tactic
 refine dif (fun c=>?_) (fun c=>?_)
 ·have hy':y ≠ 0:=by omega
  exact ⟨hy',_,aCz hy',rfl,y,x.fmod y,rfl,rfl,hy,Int.fmod_nonneg_of_pos _ (by omega),(aAV x y).trans g⟩
 ·have hy':y = 0:=by omega
  subst hy'
  have e:x = (Int.gcd t b:Int):=by rw [<- g,Int.gcd_zero_right];omega
  have fin:Q (.tup [.int (fT t b),.int (fB t b)]) M':=by rw [aGK hb0];exact q
  unfold fT fB at fin
  have s1:=aLl (t:=t) hb0
  have s2:=(hB.sg (t:=t) hb0).log (by decide)
  unfold sg at fin s1 s2
  rw [if_neg (by omega),<- e] at fin s1 s2
  exact ⟨⟨s1,Nat.lt_succ_of_lt s2⟩,⟨s1,Nat.lt_succ_of_lt s2⟩,by decide,M',.refl _,fin⟩
noncomputable def mY:DSp:=uA
noncomputable abbrev pP:Stmt:=top 70
theorem aBl:aP ["_law_one","_law_other"] ["_law_one","_law_other"] (aI pP):=⟨rfl,rfl,rfl,by decide +kernel,rfl,by decide +kernel,by decide +kernel⟩
theorem aAI (hF:bO K mg "_law_plus" pP ["_law_one","_law_other"]) (bL:Has P w K mg base 101 "_law_ratio" ["_law_top","_law_bottom"] fA):Has P w K mg base 102 "_law_plus" ["_law_one","_law_other"] mY:=by
 refine Has.mkZ hF aBl oH fun f cdv A outer s H ds M Q E hr h=>?_
 obtain ⟨p,r,m,n,rfl,_,h1,h2,l,q⟩:=h
 refine ⟨_,(aF (aM (aG bL hr (by decide) (aA (aL cF (aL bE (aH (aB 0) aC) (aH (aB 1) aC)) (aL bE (aH (aB 1) aC) (aH (aB 0) aC))) (aA (aL bE (aH (aB 0) aC) (aH (aB 1) aC)) aD))))),?_⟩
 decreasing_tactic
 exact ⟨dA h1.1 h2.2 (by omega),dA h2.1 h1.2 (by omega),dA h1.2 h2.2 (by omega),_,_,rfl,Int.mul_pos (den_pos p) (den_pos r),(h1.2.mul h2.2).mono (by omega),M,.refl _,by rw [aKE];exact q⟩
noncomputable def gG:DSp:=mU
noncomputable abbrev nK:Stmt:=top 71
theorem zV:aP ["_law_one","_law_other"] ["_law_one","_law_other"] (aI nK):=⟨rfl,rfl,rfl,by decide +kernel,rfl,by decide +kernel,by decide +kernel⟩
theorem yB (hF:bO K mg "_law_times" nK ["_law_one","_law_other"]) (bL:Has P w K mg base 101 "_law_ratio" ["_law_top","_law_bottom"] fA):Has P w K mg base 102 "_law_times" ["_law_one","_law_other"] gG:=by
 refine Has.mkZ hF zV oH fun f cdv A outer s H ds M Q E hr h=>?_
 obtain ⟨p,r,m,n,rfl,_,h1,h2,l,q⟩:=h
 refine ⟨_,(aF (aM (aG bL hr (by decide) (aA (aL bE (aH (aB 0) aC) (aH (aB 1) aC)) (aA (aL bE (aH (aB 0) aC) (aH (aB 1) aC)) aD))))),?_⟩
 decreasing_tactic
 exact ⟨dA h1.1 h2.1 (by omega),dA h1.2 h2.2 (by omega),_,_,rfl,Int.mul_pos (den_pos p) (den_pos r),(h1.2.mul h2.2).mono (by omega),M,.refl _,by rw [aK0];exact q⟩
theorem wK {a b:Rat} (ha:0 < a) (hb:0 < b):0 < a / b:=by
 have e:a / b * b = a:=by grind
 rcases (show a / b < 0 ∨ a / b = 0 ∨ 0 < a / b by grind) with c | c | c
 ·have:=Rat.mul_pos (show 0 < -(a / b) by grind) hb
  grind
 ·rw [c] at e;grind
 ·exact c
theorem aBj {x:Int} (h1:-10000000<=x) (h2:x<=10000000):Bd 24 x:=by unfold Bd;omega
theorem aE8 {t b:Int} (h0:0 < b) (h1:-10000000<=t) (h2:t<=10000000) (h3:b<=10000000):BQ 24 ((t:Rat) / (b:Rat)):=.make (by omega) (aBj h1 h2) (aBj (by omega) h3)
noncomputable def Wh (q:Rat):Prop:=∃ z:Int,q = (z:Rat)/\-20<=z/\z<=20
noncomputable def kW:DSp:=fun ds M Q=>∃ a b,ds = [.int a,.int b]/\∀ q,BQ 24 q->(b.fmod 5 ≠ 4->b.fmod 3 ≠ 2->Wh q)->Q (FQ q) M
noncomputable abbrev mJ:Stmt:=top 72
theorem aAk:aP ["_law_one","_law_other"] ["_law_one","_law_other"] (aI mJ):=⟨rfl,rfl,rfl,by decide +kernel,rfl,by decide +kernel,by decide +kernel⟩
theorem xT (hF:bO K mg "_law_drawn" mJ ["_law_one","_law_other"]) (bL:Has P w K mg base 101 "_law_ratio" ["_law_top","_law_bottom"] fA):Has P w K mg base 102 "_law_drawn" ["_law_one","_law_other"] kW:=by
 refine Has.mkZ hF aAk (fun ds M Q ⟨a,b,e,_⟩=>by rw [e];rfl) fun f cdv A outer s H ds M Q E hr h=>?_
 obtain ⟨a,b,rfl,q⟩:=h
 refine ⟨_,(aE (bA (aR (cL hr) (aL cQ (aB 1) aC) aC) (aF (aM (aG bL hr (by decide) (aA (aL nH (aL cQ (aL bE (aB 0) aC) aC) aC) (aA (aL cF aC (aL cQ (aL bE (aB 1) aC) aC)) aD))))) aX)
  (aF (aM (aG bL hr (by decide) (aA (aL nH (aL cQ (aB 0) aC) aC) (aA (aL cF aC (aL cQ (aL fD (aB 0) aC) (aH (bN (aA aC (aA aC (aA aC aD)))) (aL cQ (aB 1) aC)))) aD)))))),?_⟩
 decreasing_tactic
 simp_arith
 refine ⟨by decide,?_⟩
 by_cases c:b.fmod 5 = 4
 ·rw [if_pos c]
  have h1:=Int.fmod_nonneg_of_pos (a * 7) (show (0:Int) < 1999999 by decide)
  have h2:=Int.fmod_lt_of_pos (a * 7) (show (0:Int) < 1999999 by decide)
  have h3:=Int.fmod_nonneg_of_pos (b * 13) (show (0:Int) < 999999 by decide)
  have h4:=Int.fmod_lt_of_pos (b * 13) (show (0:Int) < 999999 by decide)
  exact ⟨pI (by unfold Bd;decide),by decide,pI (by unfold Bd;decide),by decide,_,_,rfl,by omega,(aBj (by omega) (by omega)).mono (by decide),M,.refl _,q _ (aE8 (by omega) (by omega) (by omega) (by omega)) fun n=>absurd c n⟩
 ·rw [if_neg c]
  refine ⟨by decide,⟨by decide,by decide +kernel⟩,by decide,fun p hp=>⟨by decide,?_⟩⟩
  have s1:=bG.new hp [.int 1,.int 1,.int 9]
  have h1:=Int.fmod_nonneg_of_pos a (show (0:Int) < 41 by decide)
  have h2:=Int.fmod_lt_of_pos a (show (0:Int) < 41 by decide)
  obtain ⟨k,hk,k0,k1,kw⟩:∃ k:Int,atI [D.int 1,.int 1,.int 9] (b.fmod 3) = some (.int k)/\0 < k/\k<=9/\(b.fmod 3 ≠ 2->k = 1):=by
   have h1:=Int.fmod_nonneg_of_pos b (show (0:Int) < 3 by decide)
   have h2:=Int.fmod_lt_of_pos b (show (0:Int) < 3 by decide)
   have:b.fmod 3 = 0 ∨ b.fmod 3 = 1 ∨ b.fmod 3 = 2:=by omega
   rcases this with e | e | e<;>rw [e]
   ·exact ⟨1,rfl,by decide,by decide,fun _=>rfl⟩
   ·exact ⟨1,rfl,by decide,by decide,fun _=>rfl⟩
   ·exact ⟨9,rfl,by decide,by decide,fun n=>absurd rfl n⟩
  refine ⟨_,_,aJ,hk,?_⟩
  decreasing_tactic
  have h3:=Int.fmod_nonneg_of_pos (a.fdiv 41) k0
  have h4:=Int.fmod_lt_of_pos (a.fdiv 41) k0
  refine ⟨by omega,_,_,rfl,by omega,(aBj (by omega) (by omega)).mono (by decide),M,s1,q _ (aE8 (by omega) (by omega) (by omega) (by omega)) fun _ n=>⟨a.fmod 41 - 20,?_,by omega,by omega⟩⟩
  rw [show 1 + (a.fdiv 41).fmod k = 1 by have:=kw n;omega]
  show _ / (1:Rat) = _
  grind
theorem bqz:BQ 1 0:=⟨by unfold Bd;decide,by unfold Bd;decide⟩
theorem iH.mono {px py s:Rat} {t h:Int} {B C:Nat} (f:iH px py t h s B) (l:B<=C):iH px py t h s C:=⟨f.1.mono l,f.2.1.mono l,f.2.2.1,f.2.2.2.1,f.2.2.2.2.1,f.2.2.2.2.2.1,f.2.2.2.2.2.2.mono l⟩
noncomputable def kH:DSp:=fun ds M Q=>∃ px py t h s qx qy u k r,ds = [FR px py t h s,FR qx qy u k r]/\iH px py t h s 4400/\iH qx qy u k r 4400/\LdB 4400 s qx qy/\Q (FR (ldX px t h s qx qy) (ldY py t h s qx qy) (tb t h u) (h * k) (s * r)) M
noncomputable abbrev xC:Stmt:=top 29
theorem zC:aP ["one","other","turns"] ["one","other"] (aI xC):=⟨rfl,rfl,rfl,by decide +kernel,rfl,by decide +kernel,by decide +kernel⟩
theorem aCd (hF:bO K mg "behind" xC ["one","other"]) (nM:Has P w K mg base 105 "led" ["frame","p"] wW) (gE:Has P w K mg base 102 "times" ["one","other"] mU):Has P w K mg base 106 "behind" ["one","other"] kH:=by
 refine Has.mkZ hF zC (fun ds M Q ⟨a,b,c,d,e,f,g,i,j,k,z,_⟩=>by rw [z];rfl) fun f cdv A outer s H ds M Q E hr h=>?_
 obtain ⟨px,py,t,h,sz,qx,qy,u,k,r,rfl,f1,f2,l,q⟩:=h
 refine ⟨_,(aE (aO (i:=2) zC.nd (aL cQ (aL cF (aH (aB 0) aC) (aL bE (aH (aB 0) aC) (aH (aB 1) aC))) aC))
  (aF (aM (aK (aA (aG nM hr (by decide) (aA (aB 0) (aA (aH (aB 1) aC) aD))) (aA (aB 2) (aA (aL bE (aH (aB 0) aC) (aH (aB 1) aC)) (aA (aG gE hr (by decide) (aA (aH (aB 0) aC) (aA (aH (aB 1) aC) aD))) aD)))))))),?_⟩
 decreasing_tactic
 refine ⟨iD (qL f1.2.2.2.2.1),by decide,_,_,_,_,_,_,_,rfl,f1,l,iD (qL f1.2.2.2.2.1),_,_,_,_,rfl,trivial,f1.2.2.2.2.2.2,f2.2.2.2.2.2.2,by decide,by decide,M,.refl _,q⟩
theorem aJJ {s:Rat} {B:Nat} (s0:0 < s) (h:BQ B s):BQ B (1 / s):=by
 obtain ⟨e1,e2⟩:=aKT s0
 exact ⟨e1 ▸ h.2,e2 ▸ h.1⟩
noncomputable def oB:DSp:=fun ds M Q=>∃ px py t h s,ds = [FR px py t h s]/\iH px py t h s 4400/\LdB 4400 (1 / s) px py/\Q (FR (uX px py t h s) (uY px py t h s) (tu t h) h (1 / s)) M
noncomputable abbrev wE:Stmt:=top 30
theorem iS:aP ["frame","place","turns","hand","size","back"] ["frame"] (aI wE):=⟨rfl,rfl,rfl,by decide +kernel,rfl,by decide +kernel,by decide +kernel⟩
theorem aBN (hF:bO K mg "undone" wE ["frame"]) (aZ:fP K mg "MIDDLE" sE) (mB:fP K mg "ONE" aFM) (nM:Has P w K mg base 105 "led" ["frame","p"] wW) (aB1:Has P w K mg base 103 "over" ["one","other"] aCq) (oA:Has P w K mg base 103 "grown" ["p","number"] vG):Has P w K mg base 106 "undone" ["frame"] oB:=by
 refine Has.mkZ hF iS (fun ds M Q ⟨a,b,c,d,e,z,_⟩=>by rw [z];rfl) fun f cdv A outer s H ds M Q E hr h=>?_
 obtain ⟨px,py,t,h,sz,rfl,f1,l,q⟩:=h
 refine ⟨_,(aE (eT (aB 0) (eH (n:=4) rfl (aV (aQ (i:=1) iS.nd) (aV (aQ (i:=2) iS.nd) (aV (aQ (i:=3) iS.nd) (aV (aQ (i:=4) iS.nd) dG))))))
  (aE (aO (i:=5) iS.nd (aK (aA (bD aZ) (aA (aL cQ (aL bE (eI (aB 3)) (aB 2)) aC) (aA (aB 3) (aA (aG aB1 hr (by decide) (aA (bD mB) (aA (aB 4) aD))) aD))))))
  (aF (aM (aK (aA (aG oA hr (by decide) (aA (aG nM hr (by decide) (aA (aB 5) (aA (aB 1) aD))) (aA (aK (aA (eI aC) (aA aC aD))) aD))) (aA (aH (aB 5) aC) (aA (aH (aB 5) aC) (aA (aH (aB 5) aC) aD))))))))),?_⟩
 decreasing_tactic
 have s0:sz ≠ 0:=by have:=f1.2.2.2.2.2.1;grind
 have hbn:Bd 63 (-h):=(qL f1.2.2.2.2.1).neg
 have b2:=aJJ f1.2.2.2.2.2.1 f1.2.2.2.2.2.2
 have gb:iH 0 0 (tu t h) h (1 / sz) 4400:=⟨bqz.mono (by decide),bqz.mono (by decide),(qN _ _).1,(qN _ _).2,f1.2.2.2.2.1,wK (by decide) f1.2.2.2.2.2.1,b2⟩
 refine ⟨rfl,iD hbn,by decide,1,sz,_,_,rfl,s0,bq1,f1.2.2.2.2.2.2,by decide,by decide,?_⟩
 decreasing_tactic
 obtain ⟨_,c3,c4⟩:=l.rq f1.2.2.2.2.1 (tu t h).toNat
 refine ⟨0,0,tu t h,h,1 / sz,px,py,rfl,gb,l,by decide,_,_,-1,_,_,rfl,(c3.add bqz),(c4.add bqz),bq1.neg,by decide,?_⟩
 decreasing_tactic
 exact ⟨by decide,M,.refl _,q⟩
inductive Pc where
 | dot (x y:Rat) | str (x y u v:Rat) | arc (cx cy ax ay bx by':Rat) | ring (cx cy ax ay:Rat)
noncomputable def pcD:Pc->D
 | .dot x y=>.tup [.str "dot",PQ x y]
 | .str x y u v=>.tup [.str "stretch",PQ x y,PQ u v]
 | .arc a b c d e f=>.tup [.str "arc",PQ a b,PQ c d,PQ e f]
 | .ring a b c d=>.tup [.str "ring",PQ a b,PQ c d]
noncomputable def mkS (x y u v:Rat):Pc:=if x = u/\y = v then .dot x y else if bef x y u v = true then .str x y u v else .str u v x y
noncomputable def wA:DSp:=fun ds M Q=>∃ x y u v,ds = [PQ x y,PQ u v]/\BQ 4400 x/\BQ 4400 y/\BQ 4400 u/\BQ 4400 v/\Q (pcD (mkS x y u v)) M
noncomputable abbrev sI:Stmt:=top 23
theorem aB9:aP ["p","q"] ["p","q"] (aI sI):=⟨rfl,rfl,rfl,by decide +kernel,rfl,by decide +kernel,by decide +kernel⟩
theorem aAT (hF:bO K mg "stretch" sI ["p","q"]) (wX:Has P w K mg base 102 "before" ["p","q"] zF):Has P w K mg base 103 "stretch" ["p","q"] wA:=by
 refine Has.mkZ hF aB9 (fun ds M Q ⟨x,y,u,v,e,_⟩=>by rw [e];rfl) fun f cdv A outer s H ds M Q E hr h=>?_
 obtain ⟨x,y,u,v,rfl,h1,h2,h3,h4,q⟩:=h
 refine ⟨_,(aE (bA (aR (cL hr) (aB 0) (aB 1)) (aF (aM (aK (aA aN (aA (aB 0) aD))))) aX)
  (aE (bA (tY (aG wX hr (by decide) (aA (aB 0) (aA (aB 1) aD)))) (aF (aM (aK (aA aN (aA (aB 0) (aA (aB 1) aD)))))) aX)
  (aF (aM (aK (aA aN (aA (aB 1) (aA (aB 0) aD)))))))),?_⟩
 decreasing_tactic
 rw [wR]
 unfold mkS at q
 refine dif (fun c=>?_) (fun c=>?_)
 ·rw [if_pos c] at q
  exact ⟨by decide,M,.refl _,q⟩
 rw [if_neg c] at q
 refine ⟨_,_,_,_,rfl,h1,h2,h3,h4,aD7 (fun d=>?_) (fun d=>?_)⟩
 ·rw [if_pos d] at q
  exact ⟨by decide,M,.refl _,q⟩
 ·rw [if_neg (by rw [d];decide)] at q
  exact ⟨by decide,M,.refl _,q⟩
theorem aDp {cx cy px py qx qy:Rat}:aFg cx cy px py qx qy = 0 ↔ dL cx cy px py = dL cx cy qx qy:=by
 unfold aFg
 by_cases c:dL cx cy qx qy < dL cx cy px py
 ·rw [if_pos c]
  exact ⟨fun z=>absurd z (by decide),fun z=>by rw [z] at c;exact absurd c Rat.lt_irrefl⟩
 ·rw [if_neg c]
  by_cases d:dL cx cy px py = dL cx cy qx qy
  ·rw [if_pos d];exact ⟨fun _=>d,fun _=>rfl⟩
  ·rw [if_neg d];exact ⟨fun z=>absurd z (by decide),fun z=>absurd z d⟩
noncomputable def mkA (cx cy px py qx qy:Rat):Pc:=if px = qx/\py = qy then .ring cx cy px py else .arc cx cy px py qx qy
noncomputable def aFF:DSp:=fun ds M Q=>∃ cx cy px py qx qy,ds = [PQ cx cy,PQ px py,PQ qx qy]/\¬ (cx = px/\cy = py)/\¬ (cx = qx/\cy = qy)/\dL cx cy px py = dL cx cy qx qy/\BQ 4000 cx/\BQ 4000 cy/\BQ 4000 px/\BQ 4000 py/\BQ 4000 qx/\BQ 4000 qy/\Q (pcD (mkA cx cy px py qx qy)) M
noncomputable abbrev aFr:Stmt:=top 25
theorem aJE:aP ["c","p","q"] ["c","p","q"] (aI aFr):=⟨rfl,rfl,rfl,by decide +kernel,rfl,by decide +kernel,by decide +kernel⟩
theorem aG0 (hF:bO K mg "arc" aFr ["c","p","q"]) (rM:Has P w K mg base 103 "farther" ["c","p","q"] uW):Has P w K mg base 104 "arc" ["c","p","q"] aFF:=by
 refine Has.mkZ hF aJE (fun ds M Q ⟨a,b,c,d,e,f,z,_⟩=>by rw [z];rfl) fun f cdv A outer s H ds M Q E hr h=>?_
 obtain ⟨cx,cy,px,py,qx,qy,rfl,n1,n2,hf,h1,h2,h3,h4,h5,h6,q⟩:=h
 refine ⟨_,(aE (bA (qO (aBM (aR (cL hr) (aB 0) (aB 1)) (aAL (aR (cL hr) (aB 0) (aB 2))))) (aF kP) aX)
  (aE (bA (aR (aBg hr) (aG rM hr (by decide) (aA (aB 0) (aA (aB 1) (aA (aB 2) aD)))) aC) (aF kP) aX)
  (aE (bA (aR (cL hr) (aB 1) (aB 2)) (aF (aM (aK (aA aN (aA (aB 0) (aA (aB 1) aD)))))) aX)
  (aF (aM (aK (aA aN (aA (aB 0) (aA (aB 1) (aA (aB 2) aD)))))))))),?_⟩
 decreasing_tactic
 rw [wR]
 refine ifF (decide_eq_false n1) ?_
 rw [wR]
 refine ifF (decide_eq_false n2) ?_
 refine ⟨_,_,_,_,_,_,4000,rfl,h1,h2,h3,h4,h5,h6,by decide,?_⟩
 decreasing_tactic
 rw [fM,decide_eq_true (aDp.mpr hf)]
 refine ifF rfl ?_
 rw [wR]
 unfold mkA at q
 refine dif (fun c=>?_) (fun c=>?_)
 ·rw [if_pos c] at q;exact ⟨by decide,M,.refl _,q⟩
 ·rw [if_neg c] at q;exact ⟨by decide,M,.refl _,q⟩
inductive Pl where
 | go (a:Rat) | side (a b:Rat) | skip (a:Rat) | dot | left | right | rnd | mirror | grow (a:Rat) | quarter (a:Rat) | half (a:Rat) | arc (a b c d:Rat)
noncomputable def plD:Pl->D
 | .go a=>.tup [.str "go",FQ a]
 | .side a b=>.tup [.str "side",FQ a,FQ b]
 | .skip a=>.tup [.str "skip",FQ a]
 | .dot=>.tup [.str "dot"]
 | .left=>.tup [.str "left"]
 | .right=>.tup [.str "right"]
 | .rnd=>.tup [.str "round"]
 | .mirror=>.tup [.str "mirror"]
 | .grow a=>.tup [.str "grow",FQ a]
 | .quarter a=>.tup [.str "quarter",FQ a]
 | .half a=>.tup [.str "half",FQ a]
 | .arc a b c d=>.tup [.str "arc",FQ a,FQ b,FQ c,FQ d]
noncomputable def plB (B:Nat):Pl->Prop
 | .go a=>BQ B a
 | .side a b=>BQ B a/\BQ B b
 | .skip a=>BQ B a
 | .grow a=>BQ B a/\0 < a
 | .quarter a=>BQ B a/\a ≠ 0
 | .half a=>BQ B a/\a ≠ 0
 | .arc a b c d=>BQ B a/\BQ B b/\BQ B c/\BQ B d/\¬ (a = 0/\b = 0)/\¬ (a = c/\b = d)/\dL a b 0 0 = dL a b c d
 | _=>True
inductive Lg where
 | st (x y u v:Rat) | bd (a b c d e f:Rat) (w:Int)
noncomputable def lgD:Lg->D
 | .st x y u v=>.tup [.str "straight",PQ x y,PQ u v]
 | .bd a b c d e f w=>.tup [.str "bend",PQ a b,PQ c d,PQ e f,.int w]
noncomputable def kG:Pl->Option Lg
 | .go a=>some (.st 0 0 a 0)
 | .side a b=>some (.st 0 0 a b)
 | .dot=>some (.st 0 0 0 0)
 | .quarter a=>if 0 < a then some (.bd 0 a 0 0 a a 1) else some (.bd 0 a 0 0 (-a) a (-1))
 | .half a=>some (.bd 0 a 0 0 0 (a + a) (if 0 < a then 1 else -1))
 | .arc a b c d=>some (.bd a b 0 0 c d 1)
 | _=>none
noncomputable def dJ:Pl->Fm
 | .go a=>⟨a,0,0,1,1⟩
 | .side a b=>⟨a,b,0,1,1⟩
 | .skip a=>⟨a,0,0,1,1⟩
 | .dot=>⟨0,0,0,1,1⟩
 | .left=>⟨0,0,1,1,1⟩
 | .right=>⟨0,0,3,1,1⟩
 | .rnd=>⟨0,0,2,1,1⟩
 | .mirror=>⟨0,0,0,-1,1⟩
 | .grow a=>⟨0,0,0,1,a⟩
 | .quarter a=>if 0 < a then ⟨a,a,1,1,1⟩ else ⟨-a,a,3,1,1⟩
 | .half a=>⟨0,a + a,2,1,1⟩
 | .arc _ _ c d=>⟨c,d,0,1,1⟩
noncomputable def lgO:Option Lg->D
 | none=>.non
 | some l=>lgD l
noncomputable def ldL (f:Fm):Lg->Lg
 | .st x y u v=>.st (ldX f.px f.t f.h f.s x y) (ldY f.py f.t f.h f.s x y) (ldX f.px f.t f.h f.s u v) (ldY f.py f.t f.h f.s u v)
 | .bd a b c d e g w=>.bd (ldX f.px f.t f.h f.s a b) (ldY f.py f.t f.h f.s a b) (ldX f.px f.t f.h f.s c d) (ldY f.py f.t f.h f.s c d) (ldX f.px f.t f.h f.s e g) (ldY f.py f.t f.h f.s e g) (w * f.h)
noncomputable def pcL:Lg->Pc
 | .st x y u v=>mkS x y u v
 | .bd a b c d e f w=>if w = 1 then mkA a b c d e f else mkA a b e f c d
noncomputable def lgB (B:Nat):Lg->Prop
 | .st x y u v=>BQ B x/\BQ B y/\BQ B u/\BQ B v
 | .bd a b c d e f w=>BQ B a/\BQ B b/\BQ B c/\BQ B d/\BQ B e/\BQ B f/\(w = 1 ∨ w = -1)
noncomputable def aAb:Lg->Prop
 | .st _ _ _ _=>True
 | .bd a b c d e f _=>¬ (a = c/\b = d)/\¬ (a = e/\b = f)/\dL a b c d = dL a b e f
inductive Rw where
 | pl (p:Pl) | ag (n:Nat) (rs:List Rw) | kp (rs:List Rw) | ev (rs:List Rw)
mutual
noncomputable def rwD:Rw->D
 | .pl p=>plD p
 | .ag n rs=>.tup [.str "again",.int (n:Int),.tup (aT rs)]
 | .kp rs=>.tup [.str "keep",.tup (aT rs)]
 | .ev rs=>.tup [.str "ever",.tup (aT rs)]
noncomputable def aT:List Rw->List D
 | []=>[]
 | r :: rs=>rwD r :: aT rs
end
theorem dH:∀ rs:List Rw,aT rs = rs.map rwD
 | []=>rfl
 | r :: rs=>by rw [aT,dH rs,List.map_cons]
noncomputable def Dp:Nat->Rw->Prop
 | _,.pl _=>True
 | 0,_=>False
 | d + 1,.ag n rs=>(n:Int) < 2 ^ 60/\rs.length<=1000/\∀ r ∈ rs,Dp d r
 | d + 1,.kp rs=>rs.length<=1000/\∀ r ∈ rs,Dp d r
 | d + 1,.ev rs=>rs.length<=1000/\∀ r ∈ rs,Dp d r
noncomputable def DpS:Nat->List Rw->Prop
 | 0,_=>False
 | d + 1,rs=>rs.length<=1000/\∀ r ∈ rs,Dp d r
theorem qE {d n:Nat} {rs:List Rw} (h:Dp d (.ag n rs)):(n:Int) < 2 ^ 60/\DpS d rs:=by
 cases d with
 | zero=>exact h.elim
 | succ d=>exact ⟨h.1,h.2.1,h.2.2⟩
theorem tI {d:Nat} {rs:List Rw} (h:Dp d (.kp rs)):DpS d rs:=by
 cases d with
 | zero=>exact h.elim
 | succ d=>exact h
theorem tG {d:Nat} {rs:List Rw} (h:Dp d (.ev rs)):DpS d rs:=by
 cases d with
 | zero=>exact h.elim
 | succ d=>exact h
theorem iL:∀ {d d':Nat} {r:Rw},Dp d r->d<=d'->Dp d' r
 | _,0,.pl _,_,_=>trivial
 | _,_ + 1,.pl _,_,_=>trivial
 | 0,_,.ag _ _,h,_=>h.elim
 | 0,_,.kp _,h,_=>h.elim
 | 0,_,.ev _,h,_=>h.elim
 | d + 1,0,_,_,l=>absurd l (by omega)
 | d + 1,d' + 1,.ag n rs,h,l=>⟨h.1,h.2.1,fun r hr=>iL (h.2.2 r hr) (by omega)⟩
 | d + 1,d' + 1,.kp rs,h,l=>⟨h.1,fun r hr=>iL (h.2 r hr) (by omega)⟩
 | d + 1,d' + 1,.ev rs,h,l=>⟨h.1,fun r hr=>iL (h.2 r hr) (by omega)⟩
noncomputable def inR:Rw->D
 | .pl _=>.non
 | .ag _ rs=>.tup (aT rs)
 | .kp rs=>.tup (aT rs)
 | .ev rs=>.tup (aT rs)
mutual
noncomputable def nmR:Rw->Int
 | .pl _=>1
 | .ag _ rs=>2 + nmS rs
 | .kp rs=>2 + nmS rs
 | .ev rs=>2 + nmS rs
noncomputable def nmS:List Rw->Int
 | []=>0
 | r :: rs=>nmR r + nmS rs
end
mutual
noncomputable def dnR:Rw->Nat
 | .pl _=>1
 | .ag n rs=>dnS rs * n
 | .kp rs=>dnS rs
 | .ev rs=>dnS rs
noncomputable def dnS:List Rw->Nat
 | []=>0
 | r :: rs=>dnR r + dnS rs
end
mutual
noncomputable def enR:Rw->Fm->Fm
 | .pl p,f=>f.comp (dJ p)
 | .ag n rs,f=>Nat.repeat (enS rs) n f
 | .kp _,f=>f
 | .ev _,f=>f
noncomputable def enS:List Rw->Fm->Fm
 | [],f=>f
 | r :: rs,f=>enS rs (enR r f)
end
noncomputable abbrev LR:=Lg × Int × List Int
mutual
noncomputable def lgR:Rw->Int->Fm->List Int->List LR
 | .pl p,a,f,rd=>(kG p).toList.map fun l=>(ldL f l,a,rd)
 | .ag n rs,a,f,rd=>(List.range n).flatMap fun i=>lgS rs (a + 1) (Nat.repeat (enS rs) i f) (rd ++ [(i:Int)])
 | .kp rs,a,f,rd=>lgS rs (a + 1) f rd
 | .ev _,_,_,_=>[]
noncomputable def lgS:List Rw->Int->Fm->List Int->List LR
 | [],_,_,_=>[]
 | r :: rs,a,f,rd=>lgR r a f rd ++ lgS rs (a + nmR r) (enR r f) rd
end
noncomputable def unF (f:Fm):Fm:=⟨uX f.px f.py f.t f.h f.s,uY f.px f.py f.t f.h f.s,tu f.t f.h,f.h,1 / f.s⟩
structure Ed where
 f:Fm
 a:Int
 rd:List Int
 ls:List LR
mutual
noncomputable def edR:Rw->Int->Fm->List Int->List Ed
 | .pl _,_,_,_=>[]
 | .ag n rs,a,f,rd=>(List.range n).flatMap fun i=>edS rs (a + 1) (Nat.repeat (enS rs) i f) (rd ++ [(i:Int)])
 | .kp rs,a,f,rd=>edS rs (a + 1) f rd
 | .ev rs,a,f,rd=>[⟨(enS rs f).comp (unF f),a,rd,lgS rs (a + 1) f []⟩]
noncomputable def edS:List Rw->Int->Fm->List Int->List Ed
 | [],_,_,_=>[]
 | r :: rs,a,f,rd=>edR r a f rd ++ edS rs (a + nmR r) (enR r f) rd
end
mutual
noncomputable def sfR (Sf:Fm->Pl->Prop) (Se:Fm->Fm->Prop):Rw->Fm->Prop
 | .pl p,f=>Sf f p
 | .ag n rs,f=>∀ i,i < n->sfS Sf Se rs (Nat.repeat (enS rs) i f)
 | .kp rs,f=>sfS Sf Se rs f
 | .ev rs,f=>sfS Sf Se rs f/\Se f (enS rs f)
noncomputable def sfS (Sf:Fm->Pl->Prop) (Se:Fm->Fm->Prop):List Rw->Fm->Prop
 | [],_=>True
 | r :: rs,f=>sfR Sf Se r f/\sfS Sf Se rs (enR r f)
end
theorem dN {Q:DQ} {d:D} {M:DM} (q:Q d M):Dn Q d M:=⟨M,.refl _,q⟩
theorem fK {rs:List Rw} {i:Nat} {d:D} (h:(aT rs)[i]? = some d):∃ r,rs[i]? = some r/\d = rwD r:=by
 rw [dH,List.getElem?_map] at h
 obtain ⟨r,e,z⟩:=Option.map_eq_some_iff.mp h
 exact ⟨r,e,z.symm⟩
theorem cH (rs:List Rw):(aT rs).length = rs.length:=by rw [dH,List.length_map]
theorem dM {α:Type} {rs:List α} {i:Nat} {r:α} (h:rs[i]? = some r):rs.take (i + 1) = rs.take i ++ [r]:=by
 have hl:=(List.getElem?_eq_some_iff.mp h).1
 have e:rs[i] = r:=(List.getElem?_eq_some_iff.mp h).2
 rw [List.take_succ_eq_append_getElem hl,e]
theorem fE:∀ xs ys:List Rw,dnS (xs ++ ys) = dnS xs + dnS ys
 | [],ys=>by rw [List.nil_append,dnS,Nat.zero_add]
 | x :: xs,ys=>by rw [List.cons_append,dnS,dnS,fE xs ys,Nat.add_assoc]
theorem aCD:∀ xs ys:List Rw,nmS (xs ++ ys) = nmS xs + nmS ys
 | [],ys=>by rw [List.nil_append,nmS,Int.zero_add]
 | x :: xs,ys=>by rw [List.cons_append,nmS,nmS,aCD xs ys,Int.add_assoc]
theorem aCr:∀ rs:List Rw,nmS rs = (rs.map nmR).sum
 | []=>rfl
 | r :: rs=>by rw [nmS,aCr rs,List.map_cons,List.sum_cons]
mutual
noncomputable def evR:Rw->Nat
 | .pl _=>0
 | .ag n rs=>evS rs * n
 | .kp rs=>evS rs
 | .ev rs=>evS rs + 1
noncomputable def evS:List Rw->Nat
 | []=>0
 | r :: rs=>evR r + evS rs
end
theorem uF:∀ xs ys:List Rw,evS (xs ++ ys) = evS xs + evS ys
 | [],ys=>by rw [List.nil_append,evS,Nat.zero_add]
 | x :: xs,ys=>by rw [List.cons_append,evS,evS,uF xs ys,Nat.add_assoc]
theorem uE:∀ (xs ys:List Rw) (f:Fm),enS (xs ++ ys) f = enS ys (enS xs f)
 | [],ys,f=>by rw [List.nil_append,enS]
 | x :: xs,ys,f=>by rw [List.cons_append,enS,enS,uE xs ys]
theorem tX:∀ (xs ys:List Rw) (a:Int) (f:Fm) (rd:List Int),lgS (xs ++ ys) a f rd = lgS xs a f rd ++ lgS ys (a + nmS xs) (enS xs f) rd
 | [],ys,a,f,rd=>by rw [List.nil_append,lgS,nmS,enS,Int.add_zero,List.nil_append]
 | x :: xs,ys,a,f,rd=>by rw [List.cons_append,lgS,lgS,nmS,enS,tX xs ys,List.append_assoc,Int.add_assoc]
theorem tW:∀ (xs ys:List Rw) (a:Int) (f:Fm) (rd:List Int),edS (xs ++ ys) a f rd = edS xs a f rd ++ edS ys (a + nmS xs) (enS xs f) rd
 | [],ys,a,f,rd=>by rw [List.nil_append,edS,nmS,enS,Int.add_zero,List.nil_append]
 | x :: xs,ys,a,f,rd=>by rw [List.cons_append,edS,edS,nmS,enS,tW xs ys,List.append_assoc,Int.add_assoc]
theorem aC9 {Sf:Fm->Pl->Prop} {Se:Fm->Fm->Prop}:∀ (xs ys:List Rw) (f:Fm),sfS Sf Se (xs ++ ys) f ↔ sfS Sf Se xs f/\sfS Sf Se ys (enS xs f)
 | [],ys,f=>by rw [List.nil_append,sfS,enS];simp
 | x :: xs,ys,f=>by rw [List.cons_append,sfS,sfS,enS,aC9 xs ys,and_assoc]
mutual
theorem aC3:∀ (r:Rw) (a:Int) (f:Fm) (rd:List Int),(lgR r a f rd).length<=dnR r
 | .pl p,a,f,rd=>by
  rw [lgR,dnR,List.length_map]
  cases kG p<;>simp
 | .ag n rs,a,f,rd=>by
  rw [lgR,dnR]
  have:∀ m,((List.range m).flatMap fun i=>lgS rs (a + 1) (Nat.repeat (enS rs) i f) (rd ++ [(i:Int)])).length<=dnS rs * m:=fun m=>by
   induction m with
   | zero=>simp
   | succ m ih =>
    rw [List.range_succ,List.flatMap_append,List.length_append,Nat.mul_succ]
    have:=jJ rs (a + 1) (Nat.repeat (enS rs) m f) (rd ++ [(m:Int)])
    simp only [List.flatMap_cons,List.flatMap_nil,List.append_nil]
    omega
  exact this n
 | .kp rs,a,f,rd=>by rw [lgR,dnR];exact jJ rs _ _ _
 | .ev _,_,_,_=>by rw [lgR];exact Nat.zero_le _
theorem jJ:∀ (rs:List Rw) (a:Int) (f:Fm) (rd:List Int),(lgS rs a f rd).length<=dnS rs
 | [],_,_,_=>by rw [lgS];exact Nat.zero_le _
 | r :: rs,a,f,rd=>by
  rw [lgS,dnS,List.length_append]
  have h1:=aC3 r a f rd
  have h2:=jJ rs (a + nmR r) (enR r f) rd
  omega
end
mutual
theorem aCM:∀ (r:Rw) (a:Int) (f:Fm) (rd:List Int),(edR r a f rd).length<=evR r
 | .pl p,a,f,rd=>by rw [edR];exact Nat.zero_le _
 | .ag n rs,a,f,rd=>by
  rw [edR,evR]
  have:∀ m,((List.range m).flatMap fun i=>edS rs (a + 1) (Nat.repeat (enS rs) i f) (rd ++ [(i:Int)])).length<=evS rs * m:=fun m=>by
   induction m with
   | zero=>simp
   | succ m ih =>
    rw [List.range_succ,List.flatMap_append,List.length_append,Nat.mul_succ]
    have:=kS rs (a + 1) (Nat.repeat (enS rs) m f) (rd ++ [(m:Int)])
    simp only [List.flatMap_cons,List.flatMap_nil,List.append_nil]
    omega
  exact this n
 | .kp rs,a,f,rd=>by rw [edR,evR];exact kS rs _ _ _
 | .ev rs,_,_,_=>by rw [edR,evR];simp
theorem kS:∀ (rs:List Rw) (a:Int) (f:Fm) (rd:List Int),(edS rs a f rd).length<=evS rs
 | [],_,_,_=>by rw [edS];exact Nat.zero_le _
 | r :: rs,a,f,rd=>by
  rw [edS,evS,List.length_append]
  have h1:=aCM r a f rd
  have h2:=kS rs (a + nmR r) (enR r f) rd
  omega
end
noncomputable def lrD (x:LR):D:=.tup [lgD x.1,.int x.2.1,.tup (x.2.2.map D.int)]
noncomputable def EdR (M M':DM) (d:D) (e:Ed):Prop:=∃ q:Addr,d = .tup [FmD e.f,.int e.a,.tup (e.rd.map D.int),.ref q]/\M q = none/\M' q = some (e.ls.map lrD)
structure iG (M M':DM) (ps pe:Addr) (L Es:List D) (ls:List LR) (es:List Ed):Prop where
 s:M' ps = some (L ++ ls.map lrD)
 e:∃ Es',M' pe = some (Es ++ Es')/\Paired (EdR M M') Es' es
 o:∀ k:AK,k ≠ .l ps->k ≠ .l pe->∀ o,M k = some o->M' k = some o
theorem iG.refl {M:DM} {ps pe:Addr} {L Es:List D} (h1:M ps = some L) (h2:M pe = some Es):iG M M ps pe L Es [] [] :=
 ⟨by rw [List.map_nil,List.append_nil];exact h1,⟨[],by rw [List.append_nil];exact h2,.nil⟩,fun _ _ _ _ h=>h⟩
theorem aCU {α β:Type} {F:α->β->Prop}:∀ {l₁:List α} {l₂:List β} {m₁:List α} {m₂:List β},Paired F l₁ l₂->Paired F m₁ m₂->Paired F (l₁ ++ m₁) (l₂ ++ m₂)
 | _,_,_,_,.nil,h=>h
 | _,_,_,_,.cons h₁ t,h=>.cons h₁ (aCU t h)
theorem iG.trans {M M1 M2:DM} {ps pe:Addr} {L Es Es1:List D} {ls ls2:List LR} {es es2:List Ed} (a1:M ps = some L) (a2:M pe = some Es) (h:iG M M1 ps pe L Es ls es) (e1:M1 pe = some Es1) (h2:iG M1 M2 ps pe (L ++ ls.map lrD) Es1 ls2 es2):iG M M2 ps pe L Es (ls ++ ls2) (es ++ es2):=by
 obtain ⟨Es',e,pr⟩:=h.e
 obtain ⟨Es2,e2,pr2⟩:=h2.e
 have eq:Es1 = Es ++ Es':=by rw [e] at e1;exact (Option.some.inj e1).symm
 subst eq
 refine ⟨by rw [List.map_append,<- List.append_assoc];exact h2.s,⟨Es' ++ Es2,by rw [<- List.append_assoc];exact e2,?_⟩,fun k n1 n2 o q=>h2.o k n1 n2 o (h.o k n1 n2 o q)⟩
 refine aCU (Paired.mapP pr fun d x ⟨q,z,f,l⟩=>⟨q,z,f,?_⟩) (Paired.mapP pr2 fun d x ⟨q,z,f,l⟩=>⟨q,z,?_,l⟩)
 ·have n1:(AK.l q) ≠ .l ps:=fun z=>by rw [z,a1] at f;cases f
  have n2:(AK.l q) ≠ .l pe:=fun z=>by rw [z,a2] at f;cases f
  exact h2.o _ n1 n2 _ l
 ·cases c:M q with
  | none=>rfl
  | some o =>
   have n1:(AK.l q) ≠ .l ps:=fun z=>by rw [z,h.s] at f;cases f
   have n2:(AK.l q) ≠ .l pe:=fun z=>by rw [z,e] at f;cases f
   have:=h.o _ n1 n2 _ c
   rw [f] at this;cases this
theorem iG.le {M M':DM} {ps pe:Addr} {L Es:List D} {ls:List LR} {es:List Ed} (h:iG M M' ps pe L Es ls es):∃ Es1,M' pe = some Es1/\Es1.length = Es.length + es.length:=by
 obtain ⟨Es',e,pr⟩:=h.e
 exact ⟨_,e,by rw [List.length_append,pr.length]⟩
theorem aEd {d d':Nat} {rs:List Rw} (h:DpS d rs) (l:d<=d'):DpS d' rs:=by
 cases d with
 | zero=>exact h.elim
 | succ d =>
  cases d' with
  | zero=>omega
  | succ d'=>exact ⟨h.1,fun r hr=>iL (h.2 r hr) (by omega)⟩
noncomputable def uO (M:DM) (x:D) (rs:List Rw):Prop:=x = .tup (aT rs) ∨ ∃ a:Addr,x = .ref a/\M a = some (aT rs)
theorem sL {i:Nat} {x:D} {rs:List Rw} {g:DG} {tb:DS} {E:fZ} {ρ:cB} {M:DM} (h:ρ[i]? = some (some x)) (ra:uO M x rs) (q:∀ at':Option Addr,(∀ a,at' = some a->M a = some (aT rs))->dIt at' (aT rs) g tb E ρ M):aBu (zZ i) g tb E ρ M:=by
 rcases ra with rfl | ⟨a,rfl,ha⟩
 ·exact aEy h (q none fun a e=>by cases e)
 ·exact aFI h ha (q (some a) fun b e=>by cases e;exact ha)
theorem rK (p:Pl):∃ w cE,plD p = .tup (.str w :: cE)/\w ≠ "again"/\w ≠ "keep"/\w ≠ "ever":=by
 cases p<;>exact ⟨_,_,rfl,by decide,by decide,by decide⟩
theorem aAY {d:D} {r:List D}:atI (d :: r) 0 = some d:=by
 unfold atI ixN
 rw [if_pos (by decide),if_pos (by rw [List.length_cons];omega)]
 rfl
noncomputable def hG (d:Nat):DSp:=fun ds M Q=>∃ x rs,ds = [x]/\uO M x rs/\DpS d rs/\Q (.int (dnS rs:Int)) M
noncomputable abbrev pT:Stmt:=top 78
theorem eX:aP ["_law_rows","_law_many_here","_law_row_here"] ["_law_rows"] (aI pT):=⟨rfl,rfl,rfl,by decide +kernel,rfl,by decide +kernel,by decide +kernel⟩
theorem aAq (hF:bO K mg "_law_done" pT ["_law_rows"]):Has P w K mg base 118 "_law_done" ["_law_rows"] (hG 8):=by
 have all:∀ d,Has P w K mg base (110 + d) "_law_done" ["_law_rows"] (hG d):=fun d=>by
  induction d with
  | zero=>exact (Has.never hF eX 109).imp fun ds M Q ⟨_,rs,_,_,z,_⟩=>z
  | succ d cV =>
   refine Has.mkZ (k:=110 + d) hF eX (fun ds M Q ⟨a,_,z,_⟩=>by rw [z];rfl) fun f cdv A outer s H ds M Q E hr h=>?_
   obtain ⟨x,rs,rfl,ra,dp,q⟩:=h
   refine ⟨_,(aE (aO (i:=1) eX.nd aC)
  (aE (wH PassesOwn.never rfl (aB 0) (aQ (i:=2) eX.nd) (aF (bA (aR (cL hr) (aH (aB 2) aC) aN) (aF (aO (i:=1) eX.nd (aL cF (aB 1) (aL bE (aH (aB 2) aC) (aG cV hr (by omega) (aA (aH (aB 2) aC) aD)))))) (aF (bA (aR sY (aH (aB 2) aC) (bN (aA aN (aA aN aD))) rfl) (aF (aO (i:=1) eX.nd (aL cF (aB 1) (aG cV hr (by omega) (aA (aH (aB 2) aC) aD))))) (aF (aO (i:=1) eX.nd (aL cF (aB 1) aC))))))))
  (aF (aM (aB 1))))),?_⟩
   decreasing_tactic
   refine sL rfl ra fun at' hat=>?_
   refine ⟨fun i ρ M'=>bG M M'/\∃ o1,ρ = [some x,some (.int (dnS (rs.take i):Int)),o1],⟨.refl _,_,rfl⟩,fun i ρ M' _ h a e=>h.1 _ _ (hat a e),?_,?_⟩
   ·rintro i d1 ρ M1 hd ⟨sub,o1,rfl⟩
    obtain ⟨r,hr',rfl⟩:=fK hd
    have dr:=dp.2 r (List.mem_of_getElem? hr')
    decreasing_tactic
    have fin:dnS (rs.take (i + 1)) = dnS (rs.take i) + dnR r:=by rw [dM hr',fE,dnS,dnS,Nat.add_zero]
    rw [fin]
    cases r with
    | pl p =>
     obtain ⟨w0,cE,e,w1,w2,w3⟩:=rK p
     dsimp only [dnR,rwD]
     rw [e]
     decreasing_tactic
     rw [aAY]
     decreasing_tactic
     rw [aS]
     refine ifF (decide_eq_false w1) ⟨by decide,fun a ha=>⟨["keep","ever"],aJ,ifF (by simp [Ne.symm w2,Ne.symm w3]) ?_⟩⟩
     exact ⟨sub.trans (bG.new ha _),_,rfl⟩
    | ag n ws =>
     obtain ⟨hn,dw⟩:=qE dr
     dsimp only [dnR,rwD]
     decreasing_tactic
     rw [aS]
     refine ifT (by decide) ⟨_,ws,rfl,.inl rfl,dw,iD (by unfold Bd;omega),?_⟩
     rw [Int.natCast_add,Int.natCast_mul,Int.mul_comm (dnS ws:Int)]
     exact ⟨sub,_,rfl⟩
    | kp ws =>
     have dw:=tI dr
     dsimp only [dnR,rwD]
     decreasing_tactic
     rw [aS]
     refine ifF (by decide) ⟨by decide,fun a ha=>⟨["keep","ever"],aJ,ifT (by decide) ⟨_,ws,rfl,.inl rfl,dw,?_⟩⟩⟩
     exact ⟨sub.trans (bG.new ha _),_,rfl⟩
    | ev ws =>
     have dw:=tG dr
     dsimp only [dnR,rwD]
     decreasing_tactic
     rw [aS]
     refine ifF (by decide) ⟨by decide,fun a ha=>⟨["keep","ever"],aJ,ifT (by decide) ⟨_,ws,rfl,.inl rfl,dw,?_⟩⟩⟩
     exact ⟨sub.trans (bG.new ha _),_,rfl⟩
   ·rintro ρ M' ⟨sub,o1,rfl⟩
    rw [cH,List.take_length]
    exact ⟨M,sub,q⟩
 exact all 8
mutual
noncomputable def drR:Rw->Bool
 | .pl p=>(kG p).isSome
 | .ag n rs=>n != 0 && drS rs
 | .kp rs=>drS rs
 | .ev rs=>drS rs
noncomputable def drS:List Rw->Bool
 | []=>false
 | r :: rs=>drR r || drS rs
end
theorem aC4:∀ xs ys:List Rw,drS (xs ++ ys) = (drS xs || drS ys)
 | [],ys=>by rw [List.nil_append,drS,Bool.false_or]
 | x :: xs,ys=>by rw [List.cons_append,drS,drS,aC4 xs ys,Bool.or_assoc]
theorem aGk (p:Pl) (n:Nat):bB (n + 3) (plD p) = true:=by cases p<;>rfl
theorem uG:∀ (d:Nat) (r:Rw) (k:Nat),Dp d r->bB (k + 2 * d + 3) (rwD r) = true
 | _,.pl p,k,_=>by rw [rwD];exact aGk p _
 | d + 1,.ag n ws,k,h=>by
  have hw:∀ x ∈ aT ws,bB (k + 2 * d + 3) x = true:=fun x hx=>by
   rw [dH] at hx
   obtain ⟨r,hr,rfl⟩:=List.mem_map.mp hx
   exact uG d r k (h.2.2 r hr)
  rw [rwD,show k + 2 * (d + 1) + 3 = (k + 2 * d + 3) + 1 + 1 by omega]
  show ([D.str "again",.int (n:Int),.tup (aT ws)].all (bB (k + 2 * d + 3 + 1))) = true
  rw [List.all_cons,List.all_cons,List.all_cons]
  show (true && (true && (((aT ws).all (bB (k + 2 * d + 3))) && true))) = true
  rw [List.all_eq_true.mpr hw];rfl
 | d + 1,.kp ws,k,h=>by
  have hw:∀ x ∈ aT ws,bB (k + 2 * d + 3) x = true:=fun x hx=>by
   rw [dH] at hx
   obtain ⟨r,hr,rfl⟩:=List.mem_map.mp hx
   exact uG d r k (h.2 r hr)
  rw [rwD,show k + 2 * (d + 1) + 3 = (k + 2 * d + 3) + 1 + 1 by omega]
  show ([D.str "keep",.tup (aT ws)].all (bB (k + 2 * d + 3 + 1))) = true
  rw [List.all_cons,List.all_cons]
  show (true && (((aT ws).all (bB (k + 2 * d + 3))) && true)) = true
  rw [List.all_eq_true.mpr hw];rfl
 | d + 1,.ev ws,k,h=>by
  have hw:∀ x ∈ aT ws,bB (k + 2 * d + 3) x = true:=fun x hx=>by
   rw [dH] at hx
   obtain ⟨r,hr,rfl⟩:=List.mem_map.mp hx
   exact uG d r k (h.2 r hr)
  rw [rwD,show k + 2 * (d + 1) + 3 = (k + 2 * d + 3) + 1 + 1 by omega]
  show ([D.str "ever",.tup (aT ws)].all (bB (k + 2 * d + 3 + 1))) = true
  rw [List.all_cons,List.all_cons]
  show (true && (((aT ws).all (bB (k + 2 * d + 3))) && true)) = true
  rw [List.all_eq_true.mpr hw];rfl
theorem wQ {d:Nat} {ws:List Rw} (h:DpS d ws) (l:d<=9):bB 60 (.tup (aT ws)) = true:=by
 cases d with
 | zero=>exact h.elim
 | succ d =>
  show (aT ws).all (bB 59) = true
  rw [List.all_eq_true]
  intro x hx
  rw [dH] at hx
  obtain ⟨r,hr,rfl⟩:=List.mem_map.mp hx
  have:=uG d r (56 - 2 * d) (h.2 r hr)
  rw [show 56 - 2 * d + 2 * d + 3 = 59 by omega] at this
  exact this
theorem aFK (p:Pl):∃ w cE,plD p = .tup (.str w :: cE)/\(w ≠ "again"/\w ≠ "keep"/\w ≠ "ever")/\id ((["go","side","dot","quarter","half","arc"]:List Str).any fun x=>x == w) = (kG p).isSome:=by
 cases p with
 | quarter a=>exact ⟨_,_,rfl,by decide,by dsimp only [kG];split<;>rfl⟩
 | _=>exact ⟨_,_,rfl,by decide,by first | rfl | (dsimp only [kG];decide)⟩
theorem aDT {w:Str} (h:w ≠ "again"/\w ≠ "keep"/\w ≠ "ever"):id ((["again","keep","ever"]:List Str).any fun x=>x == w) = false:=by
 simp [Ne.symm h.1,Ne.symm h.2.1,Ne.symm h.2.2]
noncomputable def iR (d:Nat):DSp:=fun ds M Q=>∃ x rs,ds = [x]/\uO M x rs/\DpS d rs/\Q (.bl (drS rs)) M
noncomputable abbrev mD:Stmt:=top 76
theorem eY:aP ["_law_rows","_law_many_here","_law_row_here"] ["_law_rows"] (aI mD):=⟨rfl,rfl,rfl,by decide +kernel,rfl,by decide +kernel,by decide +kernel⟩
theorem xU (hF:bO K mg "_law_draws" mD ["_law_rows"]):Has P w K mg base 118 "_law_draws" ["_law_rows"] (iR 8):=by
 have all:∀ d,d<=8->Has P w K mg base (110 + d) "_law_draws" ["_law_rows"] (iR d):=fun d=>by
  induction d with
  | zero=>exact fun _=>(Has.never hF eY 109).imp fun ds M Q ⟨_,rs,_,_,z,_⟩=>z
  | succ d ih =>
   intro ld
   have eF:=ih (by omega)
   refine Has.mkZ (k:=110 + d) hF eY (fun ds M Q ⟨a,_,z,_⟩=>by rw [z];rfl) fun f cdv A outer s H ds M Q E hr h=>?_
   obtain ⟨x,rs,rfl,ra,dp,q⟩:=h
   refine ⟨_,(aE (aO (i:=1) eY.nd aC)
  (aE (wH PassesOwn.never rfl (aB 0) (aQ (i:=2) eY.nd) (aE (bA (aR sY (aH (aB 2) aC) (bN (aA aN (aA aN (aA aN (aA aN (aA aN (aA aN aD))))))) rfl) (aF (aO (i:=1) eY.nd (aL cF (aB 1) aC))) aX)
  (aF (bA (qO (lQ (aR sY (aH (aB 2) aC) (bN (aA aN (aA aN (aA aN aD)))) rfl) (lQ (aR (aBg hr) (aH (aB 2) aC) aC) (kF (tY (aG eF hr (by omega) (aA (aH (aB 2) (eI aC)) aD))))))) (aF (aO (i:=1) eY.nd (aL cF (aB 1) aC))) aX))))
  (aF (aM (lU iE (aB 1) aC))))),?_⟩
   decreasing_tactic
   refine sL rfl ra fun at' hat=>?_
   refine ⟨fun i ρ M'=>bG M M'/\∃ (c:Nat) (o1:Option D),(0 < c ↔ drS (rs.take i) = true)/\ρ = [some x,some (.int (c:Int)),o1],⟨.refl _,0,_,by rw [List.take_zero,drS];simp,rfl⟩,fun i ρ M' _ h a e=>h.1 _ _ (hat a e),?_,?_⟩
   ·rintro i d1 ρ M1 hd ⟨sub,c,o1,hc,rfl⟩
    obtain ⟨r,hr',rfl⟩:=fK hd
    have dr:=dp.2 r (List.mem_of_getElem? hr')
    decreasing_tactic
    have fin:drS (rs.take (i + 1)) = (drS (rs.take i) || drR r):=by rw [dM hr',aC4,drS,drS,Bool.or_false]
    rw [fin]
    cases r with
    | pl p =>
     obtain ⟨w0,cE,e,wb,wl⟩:=aFK p
     dsimp only [drR,rwD]
     rw [e]
     decreasing_tactic
     rw [aAY]
     decreasing_tactic
     refine ⟨by decide,fun a ha=>⟨["go","side","dot","quarter","half","arc"],aJ,?_⟩⟩
     rw [wl]
     have s1:=sub.trans (bG.new ha [D.str "go",.str "side",.str "dot",.str "quarter",.str "half",.str "arc"])
     generalize bI M1 a _ = M2 at s1 ⊢
     cases hg:(kG p).isSome with
     | true =>
      refine ifT rfl ⟨by decide,fun a2 ha2=>⟨["again","keep","ever"],aJ,ifF (aDT wb) ?_⟩⟩
      exact ⟨s1.trans (bG.new ha2 _),c + 1,_,by simp,rfl⟩
     | false =>
      refine ifF rfl ⟨by decide,fun a2 ha2=>⟨["again","keep","ever"],aJ,ifF (aDT wb) ?_⟩⟩
      exact ⟨s1.trans (bG.new ha2 _),c,_,by simpa using hc,rfl⟩
    | ag n ws =>
     have dw:=(qE dr).2
     dsimp only [drR,rwD]
     decreasing_tactic
     refine ⟨by decide,fun a ha=>⟨["go","side","dot","quarter","half","arc"],aJ,ifF (by decide) ?_⟩⟩
     have s1:=sub.trans (bG.new ha [D.str "go",.str "side",.str "dot",.str "quarter",.str "half",.str "arc"])
     generalize bI M1 a _ = M2 at s1 ⊢
     refine ⟨by decide,fun a2 ha2=>⟨["again","keep","ever"],aJ,ifT (by decide) ?_⟩⟩
     have s2:=s1.trans (bG.new ha2 [D.str "again",.str "keep",.str "ever"])
     generalize bI M2 a2 _ = M3 at s2 ⊢
     rw [fM]
     by_cases n0:n = 0
     ·subst n0
      refine ifF rfl (ifF rfl ⟨s2,c,_,by simpa using hc,rfl⟩)
     ·refine ifT (by rw [decide_eq_false (by omega)];rfl) ⟨_,ws,rfl,.inl rfl,dw,?_⟩
      cases hg:drS ws with
      | true=>exact ifT rfl ⟨s2,c + 1,_,by simp [n0],rfl⟩
      | false=>exact ifF rfl ⟨s2,c,_,by simpa using hc,rfl⟩
    | kp ws =>
     have dw:=tI dr
     dsimp only [drR,rwD]
     decreasing_tactic
     refine ⟨by decide,fun a ha=>⟨["go","side","dot","quarter","half","arc"],aJ,ifF (by decide) ?_⟩⟩
     have s1:=sub.trans (bG.new ha [D.str "go",.str "side",.str "dot",.str "quarter",.str "half",.str "arc"])
     generalize bI M1 a _ = M2 at s1 ⊢
     refine ⟨by decide,fun a2 ha2=>⟨["again","keep","ever"],aJ,ifT (by decide) ?_⟩⟩
     have s2:=s1.trans (bG.new ha2 [D.str "again",.str "keep",.str "ever"])
     generalize bI M2 a2 _ = M3 at s2 ⊢
     refine ⟨wQ dw (by omega),rfl,?_⟩
     refine ifT rfl ⟨_,ws,rfl,.inl rfl,dw,?_⟩
     cases hg:drS ws with
     | true=>exact ifT rfl ⟨s2,c + 1,_,by simp,rfl⟩
     | false=>exact ifF rfl ⟨s2,c,_,by simpa using hc,rfl⟩
    | ev ws =>
     have dw:=tG dr
     dsimp only [drR,rwD]
     decreasing_tactic
     refine ⟨by decide,fun a ha=>⟨["go","side","dot","quarter","half","arc"],aJ,ifF (by decide) ?_⟩⟩
     have s1:=sub.trans (bG.new ha [D.str "go",.str "side",.str "dot",.str "quarter",.str "half",.str "arc"])
     generalize bI M1 a _ = M2 at s1 ⊢
     refine ⟨by decide,fun a2 ha2=>⟨["again","keep","ever"],aJ,ifT (by decide) ?_⟩⟩
     have s2:=s1.trans (bG.new ha2 [D.str "again",.str "keep",.str "ever"])
     generalize bI M2 a2 _ = M3 at s2 ⊢
     refine ⟨wQ dw (by omega),rfl,?_⟩
     refine ifT rfl ⟨_,ws,rfl,.inl rfl,dw,?_⟩
     cases hg:drS ws with
     | true=>exact ifT rfl ⟨s2,c + 1,_,by simp,rfl⟩
     | false=>exact ifF rfl ⟨s2,c,_,by simpa using hc,rfl⟩
   ·rintro ρ M' ⟨sub,c,o1,hc,rfl⟩
    rw [cH,List.take_length] at hc
    decreasing_tactic
    have e:decide ((0:Int) < (c:Int)) = drS rs:=by
     cases hg:drS rs with
     | true=>exact decide_eq_true (by have:=hc.mpr hg;omega)
     | false=>exact decide_eq_false fun z=>by rw [hc.mp (by omega)] at hg;cases hg
    rw [e]
    exact ⟨M,sub,q⟩
 exact all 8 (by decide)
noncomputable def Sz (k:Nat) (x:Rat):Prop:=∃ t b:Nat,(0 < t/\t<=12 ^ k)/\(0 < b/\b<=12 ^ k)/\x * (b:Rat) = (t:Rat)
theorem Sz.one:Sz 0 1:=⟨1,1,by decide,by decide,Rat.one_mul _⟩
theorem Sz.mul {j k:Nat} {x y:Rat} (h:Sz j x) (h2:Sz k y):Sz (j + k) (x * y):=by
 obtain ⟨t,b,⟨t0,t1⟩,⟨b0,b1⟩,e⟩:=h
 obtain ⟨u,c,⟨u0,u1⟩,⟨c0,c1⟩,e2⟩:=h2
 refine ⟨t * u,b * c,⟨Nat.mul_pos t0 u0,?_⟩,⟨Nat.mul_pos b0 c0,?_⟩,?_⟩
 ·rw [Nat.pow_add];exact Nat.mul_le_mul t1 u1
 ·rw [Nat.pow_add];exact Nat.mul_le_mul b1 c1
 ·rw [Rat.natCast_mul,Rat.natCast_mul,<- e,<- e2];grind
theorem Sz.mono {j k:Nat} {x:Rat} (h:Sz j x) (l:j<=k):Sz k x:=by
 obtain ⟨t,b,⟨t0,t1⟩,⟨b0,b1⟩,e⟩:=h
 have:=Nat.pow_le_pow_right (n:=12) (by decide) l
 exact ⟨t,b,⟨t0,by omega⟩,⟨b0,by omega⟩,e⟩
theorem Sz.pow {j:Nat} {x:Rat} (h:Sz j x):∀ n,Sz (j * n) (x ^ n)
 | 0=>by rw [Rat.pow_zero];exact Sz.one
 | n + 1=>by rw [Rat.pow_succ,Nat.mul_succ];exact (h.pow n).mul h
theorem Sz.bq {k:Nat} {x:Rat} (h:Sz k x):BQ (4 * k + 1) x:=by
 obtain ⟨t,b,⟨t0,t1⟩,⟨b0,b1⟩,e⟩:=h
 have p1:12 ^ k<=16 ^ k:=Nat.pow_le_pow_left (by decide) k
 have p2:16 ^ k = 2 ^ (4 * k):=by rw [Nat.pow_mul]
 have p3:2 ^ (4 * k) < 2 ^ (4 * k + 1):=Nat.pow_lt_pow_right (by decide) (by omega)
 have n0:((b:Int):Rat) ≠ 0:=by
  have:=yA (show (0:Int) < (b:Int) by omega)
  grind
 have es:x = ((t:Int):Rat) / ((b:Int):Rat):=by
  simp only [Rat.intCast_natCast] at n0 ⊢
  grind
 rw [es]
 exact .make (by omega) (by unfold Bd;show t < _;omega) (by unfold Bd;show b < _;omega)
mutual
noncomputable def szR:Rw->Rat
 | .pl (.grow a)=>a
 | .pl _=>1
 | .ag n rs=>szS rs ^ n
 | .kp _=>1
 | .ev _=>1
noncomputable def szS:List Rw->Rat
 | []=>1
 | r :: rs=>szR r * szS rs
end
theorem aCQ:∀ xs ys:List Rw,szS (xs ++ ys) = szS xs * szS ys
 | [],ys=>by rw [List.nil_append,szS,Rat.one_mul]
 | x :: xs,ys=>by rw [List.cons_append,szS,szS,aCQ xs ys,Rat.mul_assoc]
mutual
noncomputable def gwR (N:Nat):Rw->Prop
 | .pl (.grow a)=>Sz 1 a
 | .pl _=>True
 | .ag _ rs=>dnS rs<=N/\gwS N rs
 | .kp rs=>dnS rs<=N/\gwS N rs
 | .ev rs=>(1<=dnS rs/\dnS rs<=N)/\gwS N rs
noncomputable def gwS (N:Nat):List Rw->Prop
 | []=>True
 | r :: rs=>gwR N r/\gwS N rs
end
theorem aCP {N:Nat}:∀ {rs:List Rw} {r:Rw},gwS N rs->r ∈ rs->gwR N r
 | x :: xs,r,h,m=>by
  rw [gwS] at h
  rcases List.mem_cons.mp m with rfl | z
  ·exact h.1
  ·exact aCP h.2 z
theorem gY {N:Nat}:∀ {xs ys:List Rw},gwS N (xs ++ ys) ↔ gwS N xs/\gwS N ys
 | [],ys=>by rw [List.nil_append,gwS];simp
 | x :: xs,ys=>by rw [List.cons_append,gwS,gwS,gY,and_assoc]
mutual
theorem aEc {N:Nat}:∀ r:Rw,gwR N r->Sz (dnR r) (szR r)
 | .pl p,h=>by
  cases p with
  | grow a=>rw [gwR] at h;rw [dnR,szR];exact h
  | _ =>
      rw [dnR,szR];· exact Sz.one.mono (by decide)
      all_goals (intro _ z;cases z)
 | .ag n rs,h=>by rw [gwR] at h;rw [dnR,szR];exact (aAd rs h.2).pow n
 | .kp rs,h=>by rw [szR];exact Sz.one.mono (Nat.zero_le _)
 | .ev rs,h=>by rw [szR];exact Sz.one.mono (Nat.zero_le _)
theorem aAd {N:Nat}:∀ rs:List Rw,gwS N rs->Sz (dnS rs) (szS rs)
 | [],_=>by rw [dnS,szS];exact Sz.one
 | r :: rs,h=>by rw [gwS] at h;rw [dnS,szS];exact (aEc r h.1).mul (aAd rs h.2)
end
theorem aFN (p:Pl):(∃ a,p = .grow a) ∨ ∃ w cE,plD p = .tup (.str w :: cE)/\w ≠ "grow"/\w ≠ "again"/\szR (.pl p) = 1:=by
 cases p with
 | grow a=>exact .inl ⟨a,rfl⟩
 | _=>refine .inr ⟨_,_,rfl,by decide,by decide,?_⟩;rw [szR];intro _ z;cases z
noncomputable def nV (d:Nat):DSp:=fun ds M Q=>∃ x rs,ds = [x]/\uO M x rs/\DpS d rs/\dnS rs<=704/\gwS 704 rs/\Q (FQ (szS rs)) M
theorem aHt {p r:Rat} {j k:Nat} {M:DM} {Q:DQ} (h1:Sz j p) (h2:Sz k r) (l:j + k<=2200) (q:Q (FQ (p * r)) M):gG [FQ p,FQ r] M Q:=⟨_,_,_,_,rfl,trivial,h1.bq,h2.bq,by omega,q⟩
noncomputable abbrev pC:Stmt:=top 75
theorem eB:aP ["_law_rows","_law_size_here","_law_row_here","_law_once","_law_turn"] ["_law_rows"] (aI pC):=⟨rfl,rfl,rfl,by decide +kernel,rfl,by decide +kernel,by decide +kernel⟩
theorem aAD (hF:bO K mg "_law_size" pC ["_law_rows"]) (eR:mg "range" = none) (cC:Has P w K mg base 102 "_law_times" ["_law_one","_law_other"] gG):Has P w K mg base 118 "_law_size" ["_law_rows"] (nV 8):=by
 have all:∀ d,Has P w K mg base (110 + d) "_law_size" ["_law_rows"] (nV d):=fun d=>by
  induction d with
  | zero=>exact (Has.never hF eB 109).imp fun ds M Q ⟨_,rs,_,_,z,_⟩=>z
  | succ d jE =>
   refine Has.mkZ (k:=110 + d) hF eB (fun ds M Q ⟨a,_,z,_⟩=>by rw [z];rfl) fun f cdv A outer s H ds M Q E hr h=>?_
   obtain ⟨x,rs,rfl,ra,dp,dn,gw,q⟩:=h
   refine ⟨_,(aE (aO (i:=1) eB.nd (aK (aA aC (aA aC aD))))
  (aE (wH PassesOwn.never rfl (aB 0) (aQ (i:=2) eB.nd) (aE (bA (aR (cL hr) (aH (aB 2) aC) aN) (aF (aO (i:=1) eB.nd (aG cC hr (by omega) (aA (aB 1) (aA (aH (aB 2) aC) aD))))) aX)
  (aF (bA (aR (cL hr) (aH (aB 2) aC) aN) (aE (aO (i:=3) eB.nd (aG jE hr (by omega) (aA (aH (aB 2) aC) aD)))
  (aF (qX PassesOwn.never rfl eR (aA (aH (aB 2) aC) aD) (aQ (i:=4) eB.nd) (aF (aO (i:=1) eB.nd (aG cC hr (by omega) (aA (aB 1) (aA (aB 3) aD)))))))) aX))))
  (aF (aM (aB 1))))),?_⟩
   decreasing_tactic
   refine ⟨by decide,?_⟩
   refine sL rfl ra fun at' hat=>?_
   refine ⟨fun i ρ M'=>M' = M/\∃ o1 o2 o3,ρ = [some x,some (FQ (szS (rs.take i))),o1,o2,o3],⟨rfl,_,_,_,rfl⟩,fun i ρ M' _ h a e=>by rw [h.1];exact hat a e,?_,?_⟩
   ·rintro i d1 ρ M1 hd ⟨rfl,o1,o2,o3,rfl⟩
    obtain ⟨r,hr',rfl⟩:=fK hd
    have dr:=dp.2 r (List.mem_of_getElem? hr')
    have gr:=aCP gw (List.mem_of_getElem? hr')
    have gt:gwS 704 (rs.take i):=(gY.mp (by rw [List.take_append_drop];exact gw)).1
    have zt:=aAd _ gt
    have zr:=aEc r gr
    have fin:szS (rs.take (i + 1)) = szS (rs.take i) * szR r:=by rw [dM hr',aCQ,szS,szS,Rat.mul_one]
    have fdn:dnS (rs.take (i + 1)) = dnS (rs.take i) + dnR r:=by rw [dM hr',fE,dnS,dnS,Nat.add_zero]
    have ldn:dnS (rs.take (i + 1))<=dnS rs:=by
     have:=fE (rs.take (i + 1)) (rs.drop (i + 1))
     rw [List.take_append_drop] at this
     omega
    decreasing_tactic
    rw [fin]
    cases r with
    | pl p =>
     rcases aFN p with ⟨a,rfl⟩ | ⟨w0,cE,e,w1,w2,e1⟩
     ·dsimp only [rwD,plD]
      rw [dnR,szR] at zr
      rw [szR]
      rw [dnR] at fdn
      decreasing_tactic
      rw [aS]
      refine ifT (by decide) (aHt zt zr (by omega) ?_)
      decreasing_tactic
      rw [aS]
      exact ifF (by decide) ⟨rfl,_,_,_,rfl⟩
     ·dsimp only [rwD]
      rw [e,e1,Rat.mul_one]
      decreasing_tactic
      rw [aAY]
      decreasing_tactic
      rw [aS]
      refine ifF (decide_eq_false w1) ?_
      rw [aS]
      exact ifF (decide_eq_false w2) ⟨rfl,_,_,_,rfl⟩
    | ag n ws =>
     obtain ⟨hn,dw⟩:=qE dr
     rw [gwR] at gr
     have zw:=aAd _ gr.2
     rw [dnR] at fdn
     rw [szR]
     dsimp only [rwD]
     decreasing_tactic
     rw [aS]
     refine ifF (by decide) ?_
     rw [aS]
     refine ifT (by decide) ⟨_,ws,rfl,.inl rfl,dw,gr.1,gr.2,?_⟩
     decreasing_tactic
     refine ⟨⟨by omega,by omega⟩,?_⟩
     rw [Int.toNat_natCast]
     refine ⟨fun j ρ M'=>M' = M1/\∃ o3,ρ = [some x,some (FQ (szS (rs.take i) * szS ws ^ j)),some (.tup [.str "again",.int (n:Int),.tup (aT ws)]),some (FQ (szS ws)),o3],⟨rfl,_,by rw [Rat.pow_zero,Rat.mul_one]⟩,?_,?_⟩
     ·rintro j ρ M' hj ⟨rfl,o3,rfl⟩
      decreasing_tactic
      have m1:dnS ws * (j + 1)<=dnS ws * n:=Nat.mul_le_mul_left _ hj
      rw [Nat.mul_succ] at m1
      have e:szS (rs.take i) * szS ws ^ (j + 1) = szS (rs.take i) * szS ws ^ j * szS ws:=by rw [Rat.pow_succ,Rat.mul_assoc]
      refine aHt (zt.mul (zw.pow j)) zw (by omega) ?_
      rw [<- e]
      exact ⟨rfl,_,rfl⟩
     ·rintro ρ M' ⟨rfl,o3,rfl⟩
      exact ⟨rfl,_,_,_,rfl⟩
    | kp ws =>
     rw [szR,Rat.mul_one]
     dsimp only [rwD]
     decreasing_tactic
     rw [aS]
     refine ifF (by decide) ?_
     rw [aS]
     exact ifF (by decide) ⟨rfl,_,_,_,rfl⟩
    | ev ws =>
     rw [szR,Rat.mul_one]
     dsimp only [rwD]
     decreasing_tactic
     rw [aS]
     refine ifF (by decide) ?_
     rw [aS]
     exact ifF (by decide) ⟨rfl,_,_,_,rfl⟩
   ·rintro ρ M' ⟨rfl,o1,o2,o3,rfl⟩
    rw [cH,List.take_length]
    exact dN q
 exact all 8
noncomputable def enB (rs:List Rw):Bool:=decide (dnS rs<=300) && ((decide (szS rs = 1) || decide (4 * (szS rs).num<=3 * ((szS rs).den:Int))) && drS rs)
noncomputable def jP:DSp:=fun ds M Q=>∃ x rs,ds = [x]/\uO M x rs/\DpS 8 rs/\gwS 704 rs/\Q (.bl (enB rs)) M
noncomputable abbrev gX:Stmt:=top 77
theorem jO:aP ["_law_rows","_law_size_here"] ["_law_rows"] (aI gX):=⟨rfl,rfl,rfl,by decide +kernel,rfl,by decide +kernel,by decide +kernel⟩
theorem pL (hF:bO K mg "_law_is_endless" gX ["_law_rows"]) (cV:Has P w K mg base 118 "_law_done" ["_law_rows"] (hG 8)) (jE:Has P w K mg base 118 "_law_size" ["_law_rows"] (nV 8)) (eF:Has P w K mg base 118 "_law_draws" ["_law_rows"] (iR 8)):Has P w K mg base 119 "_law_is_endless" ["_law_rows"] jP:=by
 refine Has.mkZ hF jO (fun ds M Q ⟨_,_,z,_⟩=>by rw [z];rfl) fun f cdv A outer s H ds M Q E hr h=>?_
 obtain ⟨x,rs,rfl,ra,dp,gw,q⟩:=h
 refine ⟨_,(aE (bA (aR iE (aG cV hr (by decide) (aA (aB 0) aD)) aC) (aF (aM aCl)) aX)
  (aE (aO (i:=1) jO.nd (aG jE hr (by decide) (aA (aB 0) aD)))
  (aF (aM (aHh (aIb (lU (cL hr) (aB 1) (aK (aA aC (aA aC aD)))) (aCF (lU aKs (aL bE aC (aH (aB 1) aC)) (aL bE aC (aH (aB 1) aC))))) (aCF (aG eF hr (by decide) (aA (aB 0) aD)))))))),?_⟩
 decreasing_tactic
 refine ⟨x,rs,rfl,ra,dp,?_⟩
 decreasing_tactic
 unfold enB at q
 by_cases c:dnS rs<=300
 ·refine ifF (decide_eq_false (by omega)) ⟨x,rs,rfl,ra,dp,by omega,gw,?_⟩
  rw [decide_eq_true c,Bool.true_and] at q
  decreasing_tactic
  refine ⟨by decide,?_⟩
  rw [show (D.tup [.int 1,.int 1]) = FQ 1 from rfl,aDS]
  by_cases c1:szS rs = 1
  ·rw [decide_eq_true c1,Bool.true_or,Bool.true_and] at q
   refine ifT (decide_eq_true c1) (ifT rfl ⟨x,rs,rfl,ra,dp,dN q⟩)
  ·rw [decide_eq_false c1,Bool.false_or] at q
   refine ifF (decide_eq_false c1) ⟨iD (by unfold Bd;decide),iD (by unfold Bd;decide),?_⟩
   by_cases c2:4 * (szS rs).num<=3 * ((szS rs).den:Int)
   ·rw [decide_eq_true c2,Bool.true_and] at q
    exact ifT (decide_eq_true c2) ⟨x,rs,rfl,ra,dp,dN q⟩
   ·rw [decide_eq_false c2,Bool.false_and] at q
    exact ifF (decide_eq_false c2) (dN q)
 ·refine ifT (decide_eq_true (by omega)) ?_
  rw [decide_eq_false c,Bool.false_and] at q
  exact dN q
structure En where
 wd:Str
 n:Nat
 a:Addr
 rs:List Rw
noncomputable def enD (e:En):D:=.tup [.str e.wd,.int (e.n:Int),.ref e.a]
noncomputable def eU (M M':DM) (as:List Addr):Prop:=∀ k:AK,(∀ a ∈ as,k ≠ .l a)->∀ x,M k = some x->M' k = some x
theorem eU.refl {M:DM} {as:List Addr}:eU M M as:=fun _ _ _ e=>e
theorem eU.sub {M M' M'':DM} {as:List Addr} (h:eU M M' as) (s:bG M' M''):eU M M'' as:=fun k n x e=>s _ _ (h k n x e)
theorem eU.put {M M':DM} {as:List Addr} {a:Addr} {L:List D} (h:eU M M' as) (m:a ∈ as):eU M (bI M' a L) as:=fun k n x e=>by rw [gH (n a m)];exact h k n x e
theorem eU.mono {M M':DM} {as bs:List Addr} (h:eU M M' as) (s:∀ a ∈ as,a ∈ bs):eU M M' bs:=fun k n x e=>h k (fun a m=>n a (s a m)) x e
noncomputable def dR (rs:List Rw):List Rw:=rs ++ List.replicate (if drS rs then 0 else 1) (.pl .dot)
noncomputable def cI (rs:List Rw):List Rw:=dR rs ++ List.replicate (if enB (dR rs) then 0 else 1) (.pl (.grow (1 / 12)))
noncomputable def clE (wd:Str) (n:Nat) (rs:List Rw):Rw:=if wd = "again" then .ag (if 90 < n * dnS rs then 1 else n) rs else if wd = "ever" then (if enB (cI rs) then .ev (cI rs) else .kp (cI rs)) else .kp rs
theorem Dp.up:∀ {d:Nat} {r:Rw},Dp d r->Dp (d + 1) r
 | _,.pl _,_=>trivial
 | d + 1,.ag n rs,h=>⟨h.1,h.2.1,fun r hr=>Dp.up (h.2.2 r hr)⟩
 | d + 1,.kp rs,h=>⟨h.1,fun r hr=>Dp.up (h.2 r hr)⟩
 | d + 1,.ev rs,h=>⟨h.1,fun r hr=>Dp.up (h.2 r hr)⟩
theorem DpS.up {d:Nat} {rs:List Rw} (h:DpS d rs):DpS (d + 1) rs:=by
 cases d with
 | zero=>exact h.elim
 | succ d=>exact ⟨h.1,fun r hr=>Dp.up (h.2 r hr)⟩
theorem gO (xs ys:List Rw):aT (xs ++ ys) = aT xs ++ aT ys:=by rw [dH,dH,dH,List.map_append]
theorem aDr (r:Rw) (n:Nat):aT (List.replicate n r) = List.replicate n (rwD r):=by rw [dH,List.map_replicate]
theorem aL4:rwD (.pl (.grow (1 / 12))) = D.tup [.str "grow",.tup [.int 1,.int 12]]:=by
 show D.tup [.str "grow",FQ (1 / 12)] = _
 unfold FQ
 rw [show (1 / 12:Rat).num = 1 by decide +kernel,show (1 / 12:Rat).den = 12 by decide +kernel];rfl
theorem aKz {p:Addr} {d:D} {r:Rw} {b:Bool} {M:DM} {Q:DQ} (hp:M p = some [d]) (hr:rwD r = d) (q:∀ p2:Addr,M p2 = none->Q (.ref p2) (bI M p2 (aT (List.replicate (if b then 0 else 1) r)))):aHD (.ref p) (.int (if (!b) = true then 1 else 0)) M Q:=by
 refine ⟨_,hp,by simp,by split<;>decide,by split<;>decide,by split<;>simp,fun p2 hp2=>?_⟩
 have:=q p2 hp2
 rw [aDr,hr] at this
 cases b with
 | true=>exact this
 | false=>exact this
theorem aAH {N n:Nat} {r:Rw} (h:gwR N r):gwS N (List.replicate n r):=by
 induction n with
 | zero=>rw [List.replicate_zero,gwS];trivial
 | succ n ih=>rw [List.replicate_succ,gwS];exact ⟨h,ih⟩
theorem aCy {d N:Nat} {xs ys:List Rw} (h:DpS (d + 1) xs) (l:(xs ++ ys).length<=N) (hy:∀ r ∈ ys,Dp d r) (lN:N<=1000:=by decide):DpS (d + 1) (xs ++ ys) :=
 ⟨by omega,fun r hr=>(List.mem_append.mp hr).elim (h.2 r) (hy r)⟩
theorem aFH {xs:List D} {d:D}:atI (xs ++ [d]) (-1) = some d:=by
 unfold atI ixN
 rw [if_neg (by decide),if_pos (by rw [List.length_append,List.length_cons,List.length_nil];omega)]
 rw [List.length_append,List.length_cons,List.length_nil]
 show (xs ++ [d])[((-1:Int) + ((xs.length + (0 + 1):Nat):Int)).toNat]? = some d
 rw [show ((-1:Int) + ((xs.length + (0 + 1):Nat):Int)).toNat = xs.length by omega]
 simp
noncomputable def lP:DSp:=fun ds M Q=>∃ (st:Addr) (es:List En) (u e:En),ds = [.ref st]/\M st = some ((es ++ [u,e]).map enD)/\es.length<=20/\(st ≠ u.a/\st ≠ e.a/\u.a ≠ e.a)/\M u.a = some (aT u.rs)/\M e.a = some (aT e.rs)/\(e.wd = "again" ∨ e.wd = "keep" ∨ e.wd = "ever")/\e.n<=12/\DpS 7 e.rs/\gwS 704 e.rs/\u.rs.length<=900/\e.rs.length<=900/\dnS e.rs<=2000 /\
 ∀ M',M' st = some ((es ++ [u]).map enD)->M' u.a = some (aT (u.rs ++ [clE e.wd e.n e.rs]))->eU M M' [st,u.a]->Q .non M'
noncomputable abbrev nC:Stmt:=top 79
theorem cY:aP ["_law_stack","_law_word","_law_many_here","_law_rows","_law_block"] ["_law_stack"] (aI nC):=⟨rfl,rfl,rfl,by decide +kernel,rfl,by decide +kernel,by decide +kernel⟩
theorem xP (hF:bO K mg "_law_close" nC ["_law_stack"]) (qJ:mg "int" = none) (fF:mg "tuple" = none) (cV:Has P w K mg base 118 "_law_done" ["_law_rows"] (hG 8)) (fC:Has P w K mg base 119 "_law_is_endless" ["_law_rows"] jP) (eF:Has P w K mg base 118 "_law_draws" ["_law_rows"] (iR 8)):Has P w K mg base 120 "_law_close" ["_law_stack"] lP:=by
 refine Has.mkZ hF cY (fun ds M Q ⟨_,_,_,_,z,_⟩=>by rw [z];rfl) fun f cdv A outer s H ds M Q E hr h=>?_
 obtain ⟨st,es,u,e,rfl,hst,les,⟨n1,n2,n3⟩,hu,he,hw,hn,dp,gw,lu,le,dn,q⟩:=h
 refine ⟨_,(aE (eT (aCw (aB 0)) (eH (n:=3) rfl (aV (aQ (i:=1) cY.nd) (aV (aQ (i:=2) cY.nd) (aV (aQ (i:=3) cY.nd) dG)))))
  (mV (bA (aR (cL hr) (aB 1) aN) (aE (aO (i:=3) cY.nd (aL cF (aB 3) (aL aDc (bN (aA (aK (aA aN aD)) aD)) (dU vV qJ (aA (aC7 (aG eF hr (by decide) (aA (aB 3) aD))) aD)))))
  (aE (aO (i:=3) cY.nd (aL cF (aB 3) (aL aDc (bN (aA (aK (aA aN (aA (aK (aA aC (aA aC aD))) aD))) aD)) (dU vV qJ (aA (aC7 (aG fC hr (by decide) (aA (aB 3) aD))) aD)))))
  (aF (aO (i:=1) cY.nd (aH (bN (aA aN (aA aN aD))) (dU vV qJ (aA (aG fC hr (by decide) (aA (aB 3) aD)) aD))))))) aX)
  (aE (aO (i:=4) cY.nd (aK (aA (aB 1) (aA (dU nF fF (aA (aB 3) aD)) aD))))
  (mV (bA (aR (cL hr) (aB 1) aN) (aF (aO (i:=4) cY.nd (aK (aA (aB 1) (aA (aH (bN (aA (aB 2) (aA aC aD))) (dU vV qJ (aA (lU iE (aL bE (aB 2) (aG cV hr (by decide) (aA (aB 3) aD))) aC) aD))) (aA (dU nF fF (aA (aB 3) aD)) aD)))))) aX)
  (aF (cX (fR (aH (aH (aB 0) (eI aC)) aC) (aB 4)))))))),?_⟩
 decreasing_tactic
 have el:((es ++ [u,e]).map enD) = (es ++ [u]).map enD ++ [enD e]:=by simp
 have ll:((es ++ [u,e]).map enD)[((es ++ [u,e]).map enD).length - 1]? = some (enD e):=by rw [el];simp
 have ld:((es ++ [u,e]).map enD).dropLast = (es ++ [u]).map enD:=by rw [el];simp
 refine ⟨_,_,hst,ll,?_⟩
 rw [ld]
 rw [show enD e = .tup [.str e.wd,.int (e.n:Int),.ref e.a] from rfl]
 decreasing_tactic
 have k0:eU M (bI M st ((es ++ [u]).map enD)) [st]:=eU.refl.put (List.mem_singleton.mpr rfl)
 have st0:bI M st ((es ++ [u]).map enD) st = some ((es ++ [u]).map enD):=aJ
 have he0:bI M st ((es ++ [u]).map enD) e.a = some (aT e.rs):=by rw [cS (Ne.symm n2)];exact he
 have hu0:bI M st ((es ++ [u]).map enD) u.a = some (aT u.rs):=by rw [cS (Ne.symm n1)];exact hu
 generalize bI M st ((es ++ [u]).map enD) = M0 at k0 st0 he0 hu0
 refine ⟨rfl,fun ρ' M'=>∃ (wd2:Str) (la:Addr) (rs2:List Rw),ρ' = [some (.ref st),some (.str wd2),some (.int (e.n:Int)),some (.ref la),none]/\M' la = some (aT rs2)/\M' st = some ((es ++ [u]).map enD)/\M' u.a = some (aT u.rs)/\eU M M' [st]/\(e.wd = "ever"->rs2 = cI e.rs/\wd2 = if enB (cI e.rs) then ("ever":Str) else "keep")/\(e.wd ≠ "ever"->rs2 = e.rs/\wd2 = e.wd),?_,?_⟩
 ·rw [aS]
  by_cases ce:e.wd = "ever"
  ·refine ifT (decide_eq_true ce) ⟨by decide,by decide,fun p hp=>?_⟩
   have s1:=bG.new hp [D.tup [D.str "dot"]]
   refine ⟨_,e.rs,rfl,.inr ⟨_,rfl,s1 _ _ he0⟩,DpS.up dp,?_⟩
   decreasing_tactic
   refine aKz aJ (r:=.pl .dot) rfl fun p2 hp2=>?_
   have s2:=s1.trans (bG.new hp2 (aT (List.replicate (if drS e.rs then 0 else 1) (.pl .dot))))
   have hp2':bI (bI M0 p [D.tup [D.str "dot"]]) p2 (aT (List.replicate (if drS e.rs then 0 else 1) (.pl .dot))) p2 = some (aT (List.replicate (if drS e.rs then 0 else 1) (.pl .dot))):=aJ
   generalize bI (bI M0 p [D.tup [D.str "dot"]]) p2 _ = M2 at s2 hp2' ⊢
   decreasing_tactic
   have l1:(dR e.rs).length<=901:=by
    unfold dR
    rw [List.length_append,List.length_replicate]
    split<;>omega
   refine ⟨_,_,s2 _ _ he0,hp2',by rw [cH,cH,List.length_replicate];split<;>omega,fun p3 hp3=>?_⟩
   rw [<- gO,show e.rs ++ List.replicate (if drS e.rs then 0 else 1) (.pl .dot) = dR e.rs from rfl]
   have s3:=s2.trans (bG.new hp3 (aT (dR e.rs)))
   have h3:bI M2 p3 (aT (dR e.rs)) p3 = some (aT (dR e.rs)):=aJ
   generalize bI M2 p3 _ = M3 at s3 h3 ⊢
   refine ⟨by decide,by decide,by decide,fun p4 hp4=>?_⟩
   have s4:=bG.new hp4 [D.tup [D.str "grow",D.tup [D.int 1,D.int 12]]]
   have d1:DpS 8 (dR e.rs):=aCy (DpS.up dp) l1 fun r hr=>by
    rw [(List.mem_replicate.mp hr).2];trivial
   have g1:gwS 704 (dR e.rs):=gY.mpr ⟨gw,aAH (by rw [gwR];trivial;intro _ z;cases z)⟩
   refine ⟨_,dR e.rs,rfl,.inr ⟨_,rfl,s4 _ _ h3⟩,d1,g1,?_⟩
   decreasing_tactic
   refine aKz aJ (r:=.pl (.grow (1 / 12))) aL4 fun p5 hp5=>?_
   have s5:=s4.trans (bG.new hp5 (aT (List.replicate (if enB (dR e.rs) then 0 else 1) (.pl (.grow (1 / 12))))))
   have h5:bI (bI M3 p4 [D.tup [D.str "grow",D.tup [D.int 1,D.int 12]]]) p5 (aT (List.replicate (if enB (dR e.rs) then 0 else 1) (.pl (.grow (1 / 12))))) p5 = some (aT (List.replicate (if enB (dR e.rs) then 0 else 1) (.pl (.grow (1 / 12))))):=aJ
   generalize bI (bI M3 p4 [D.tup [D.str "grow",D.tup [D.int 1,D.int 12]]]) p5 _ = M5 at s5 h5 ⊢
   decreasing_tactic
   have l2:(cI e.rs).length<=902:=by
    unfold cI
    rw [List.length_append,List.length_replicate]
    split<;>omega
   refine ⟨_,_,s5 _ _ h3,h5,by rw [cH,cH,List.length_replicate];split<;>omega,fun p6 hp6=>?_⟩
   rw [<- gO,show dR e.rs ++ List.replicate (if enB (dR e.rs) then 0 else 1) (.pl (.grow (1 / 12))) = cI e.rs from rfl]
   have s6:=s5.trans (bG.new hp6 (aT (cI e.rs)))
   have h6:bI M5 p6 (aT (cI e.rs)) p6 = some (aT (cI e.rs)):=aJ
   generalize bI M5 p6 _ = M6 at s6 h6 ⊢
   refine ⟨by decide,fun p7 hp7=>?_⟩
   have s7:=bG.new hp7 [D.str "keep",D.str "ever"]
   have h7:bI M6 p7 [D.str "keep",D.str "ever"] p7 = some [D.str "keep",D.str "ever"]:=aJ
   generalize bI M6 p7 _ = M7 at s7 h7 ⊢
   have d2:DpS 8 (cI e.rs):=aCy d1 l2 fun r hr=>by
    rw [(List.mem_replicate.mp hr).2];trivial
   have g2:gwS 704 (cI e.rs):=gY.mpr ⟨g1,aAH (by rw [gwR];exact ⟨1,12,by decide,by decide,by decide +kernel⟩)⟩
   refine ⟨_,cI e.rs,rfl,.inr ⟨_,rfl,s7 _ _ h6⟩,d2,g2,?_⟩
   decreasing_tactic
   have fs:bG M0 M7:=(s3.trans s6).trans s7
   cases hb:enB (cI e.rs) with
   | true=>exact ⟨_,_,h7,rfl,_,_,_,rfl,s7 _ _ h6,fs _ _ st0,fs _ _ hu0,k0.sub fs,fun _=>⟨rfl,by rw [if_pos rfl]⟩,fun z=>absurd ce z⟩
   | false=>exact ⟨_,_,h7,rfl,_,_,_,rfl,s7 _ _ h6,fs _ _ st0,fs _ _ hu0,k0.sub fs,fun _=>⟨rfl,by rw [if_neg (by decide)]⟩,fun z=>absurd ce z⟩
  ·exact ifF (decide_eq_false ce) ⟨_,_,_,rfl,he0,st0,hu0,k0,fun z=>absurd z ce,fun _=>⟨rfl,rfl⟩⟩
 rintro ρ' M1 ⟨wd2,la,rs2,rfl,hla,hst1,hu1,k1,ev1,ne1⟩
 decreasing_tactic
 refine ⟨_,hla,by decide,fun ρ' M'=>∃ o1 o2 o3 b,ρ' = [some (.ref st),o1,o2,o3,some b]/\b = rwD (clE e.wd e.n e.rs)/\M' st = some ((es ++ [u]).map enD)/\M' u.a = some (aT u.rs)/\eU M M' [st],?_,?_⟩
 ·rw [aS]
  by_cases ca:wd2 = "again"
  ·have ea:e.wd = "again":=by
    by_cases ce:e.wd = "ever"
    ·have:=(ev1 ce).2
     rw [ca] at this
     cases hb:enB (cI e.rs)<;>rw [hb] at this<;>exact absurd this (by decide)
    ·rw [<- (ne1 ce).2];exact ca
   obtain ⟨rfl,_⟩:=ne1 (by rw [ea];decide)
   refine ifT (decide_eq_true ca) ⟨by decide,fun p hp=>?_⟩
   have s1:=bG.new hp [D.int (e.n:Int),.int 1]
   refine ⟨_,e.rs,rfl,.inr ⟨_,rfl,s1 _ _ hla⟩,DpS.up dp,iD (by unfold Bd;omega),?_⟩
   have ec:clE e.wd e.n e.rs = .ag (if 90 < e.n * dnS e.rs then 1 else e.n) e.rs:=by unfold clE;rw [if_pos ea]
   have em:(90:Int) < (e.n:Int) * (dnS e.rs:Int) ↔ 90 < e.n * dnS e.rs:=by
    have:((e.n * dnS e.rs:Nat):Int) = (e.n:Int) * (dnS e.rs:Int):=Int.natCast_mul _ _
    omega
   by_cases c:90 < e.n * dnS e.rs
   ·rw [if_pos (decide_eq_true (em.mpr c))]
    refine ⟨_,_,aJ,rfl,_,s1 _ _ hla,by decide,_,_,_,_,rfl,?_,s1 _ _ hst1,s1 _ _ hu1,k1.sub s1⟩
    rw [ec,if_pos c,ca];rfl
   ·rw [if_neg (by rw [decide_eq_false fun z=>c (em.mp z)];decide)]
    refine ⟨_,_,aJ,rfl,_,s1 _ _ hla,by decide,_,_,_,_,rfl,?_,s1 _ _ hst1,s1 _ _ hu1,k1.sub s1⟩
    rw [ec,if_neg c,ca];rfl
  ·refine ifF (decide_eq_false ca) ⟨_,_,_,_,rfl,?_,hst1,hu1,k1⟩
   by_cases ce:e.wd = "ever"
   ·obtain ⟨rfl,rfl⟩:=ev1 ce
    have ec:clE e.wd e.n e.rs = if enB (cI e.rs) then .ev (cI e.rs) else .kp (cI e.rs):=by
     unfold clE
     rw [if_neg (show ¬ e.wd = "again" by rw [ce];decide),if_pos ce]
    rw [ec]
    cases hb:enB (cI e.rs)<;>rfl
   ·obtain ⟨rfl,rfl⟩:=ne1 ce
    have ek:e.wd = "keep":=by
     rcases hw with z | z | z
     ·exact absurd z ca
     ·exact z
     ·exact absurd z ce
    unfold clE
    rw [if_neg ca,if_neg ce,ek];rfl
 ·rintro ρ' M2 ⟨o1,o2,o3,_,rfl,rfl,h1,h2,k2⟩
  decreasing_tactic
  have al:atI ((es ++ [u]).map enD) (-1) = some (enD u):=by rw [List.map_append];exact aFH
  refine ⟨_,_,h1,al,?_⟩
  rw [show enD u = .tup [.str u.wd,.int (u.n:Int),.ref u.a] from rfl]
  decreasing_tactic
  refine ⟨⟨_,h2⟩,_,_,rfl,h2,by rw [cH];omega,dN (q _ ?_ ?_ ?_)⟩
  ·rw [cS n1];exact h1
  ·rw [gO];exact aJ
  ·exact (k2.mono fun a m=>by rw [List.mem_singleton.mp m];exact List.mem_cons_self ..).put (List.mem_cons_of_mem _ (List.mem_singleton.mpr rfl))
noncomputable def Fc (m:Nat):Nat:=if m<=2 then m else if m = 3 then 12 else if m = 4 then 24 else 18 * m
theorem aGi {m n:Nat} (h:m<=n):Fc m<=Fc n:=by
 unfold Fc
 repeat' split
 all_goals omega
theorem aEg (m n:Nat):Fc m + Fc n<=Fc (m + n):=by
 unfold Fc
 repeat' split
 all_goals omega
theorem aJw (m:Nat):Fc m + 2<=Fc (m + 2):=by
 unfold Fc
 repeat' split
 all_goals omega
theorem aHr {m:Nat}:Fc m<=18 * m:=by
 unfold Fc
 repeat' split
 all_goals omega
theorem aEE {m n d:Nat} (hd:d<=Fc m) (hn:n<=12) (h:n * d<=90):n * d<=Fc (m + 2):=by
 have h1:n * d<=12 * d:=Nat.mul_le_mul_right _ hn
 unfold Fc at *
 repeat' split
 all_goals (try omega)
 all_goals (repeat' split at hd)
 all_goals omega
mutual
noncomputable def alR (F:Pl->Prop):Rw->Prop
 | .pl p=>F p
 | .ag _ rs=>alS F rs
 | .kp rs=>alS F rs
 | .ev rs=>alS F rs
noncomputable def alS (F:Pl->Prop):List Rw->Prop
 | []=>True
 | r :: rs=>alR F r/\alS F rs
end
theorem iM {F:Pl->Prop}:∀ {xs ys:List Rw},alS F (xs ++ ys) ↔ alS F xs/\alS F ys
 | [],ys=>by rw [List.nil_append,alS];simp
 | x :: xs,ys=>by rw [List.cons_append,alS,alS,iM,and_assoc]
mutual
theorem aGP {F G:Pl->Prop} (k:∀ p,F p->G p):∀ r:Rw,alR F r->alR G r
 | .pl p,h=>by rw [alR] at *;exact k p h
 | .ag _ rs,h=>by rw [alR] at *;exact qB k rs h
 | .kp rs,h=>by rw [alR] at *;exact qB k rs h
 | .ev rs,h=>by rw [alR] at *;exact qB k rs h
theorem qB {F G:Pl->Prop} (k:∀ p,F p->G p):∀ rs:List Rw,alS F rs->alS G rs
 | [],_=>by rw [alS];trivial
 | r :: rs,h=>by rw [alS] at *;exact ⟨aGP k r h.1,qB k rs h.2⟩
end
mutual
noncomputable def hmR:Rw->Nat
 | .pl _=>1
 | .ag _ rs=>1 + hmS rs
 | .kp rs=>1 + hmS rs
 | .ev rs=>1 + hmS rs
noncomputable def hmS:List Rw->Nat
 | []=>0
 | r :: rs=>hmR r + hmS rs
end
theorem eA:∀ xs ys:List Rw,hmS (xs ++ ys) = hmS xs + hmS ys
 | [],ys=>by rw [List.nil_append,hmS,Nat.zero_add]
 | x :: xs,ys=>by rw [List.cons_append,hmS,hmS,eA xs ys,Nat.add_assoc]
mutual
noncomputable def ltR:Rw->Prop
 | .pl _=>True
 | .ag n rs=>n<=12/\ltS rs
 | .kp rs=>ltS rs
 | .ev rs=>ltS rs
noncomputable def ltS:List Rw->Prop
 | []=>True
 | r :: rs=>ltR r/\ltS rs
end
theorem lB:∀ {xs ys:List Rw},ltS (xs ++ ys) ↔ ltS xs/\ltS ys
 | [],ys=>by rw [List.nil_append,ltS];simp
 | x :: xs,ys=>by rw [List.cons_append,ltS,ltS,lB,and_assoc]
theorem aAQ {n:Nat} {p:Pl}:ltS (List.replicate n (.pl p))/\hmS (List.replicate n (.pl p)) = n:=by
 induction n with
 | zero=>rw [List.replicate_zero,ltS,hmS];exact ⟨trivial,rfl⟩
 | succ n ih=>rw [List.replicate_succ,ltS,ltR,hmS,hmR,ih.2];exact ⟨⟨trivial,ih.1⟩,by omega⟩
structure xM (F:Pl->Prop) (i m:Nat) (rs:List Rw):Prop where
 dp:∀ r ∈ rs,Dp (4 - i) r
 len:rs.length<=m
 dn:dnS rs<=Fc m
 gw:gwS 704 rs
 al:alS F rs
 lt:ltS rs/\hmS rs<=3 * m
theorem xM.row {F:Pl->Prop} {i m:Nat} {rs:List Rw} (h:xM F i m rs) {p:Pl} (hp:F p) (hg:gwR 704 (.pl p)):xM F i (m + 1) (rs ++ [.pl p]):=by
 refine ⟨fun r hr=>?_,by rw [List.length_append];have:=h.len;show rs.length + 1<=m + 1;omega,?_,gY.mpr ⟨h.gw,by rw [gwS,gwS];exact ⟨hg,trivial⟩⟩,iM.mpr ⟨h.al,by rw [alS,alS,alR];exact ⟨hp,trivial⟩⟩,lB.mpr ⟨h.lt.1,by rw [ltS,ltS,ltR];exact ⟨trivial,trivial⟩⟩,by rw [eA,hmS,hmS,hmR];have:=h.lt.2;omega⟩
 ·rcases List.mem_append.mp hr with z | z
  ·exact h.dp r z
  ·rw [List.mem_singleton.mp z];unfold Dp;trivial
 ·rw [fE,dnS,dnS,dnR]
  have:=h.dn
  have:=aEg m 1
  have:Fc 1 = 1:=rfl
  omega
theorem aFt {F:Pl->Prop} {n:Nat} {r:Rw} (h:alR F r):alS F (List.replicate n r):=by
 induction n with
 | zero=>rw [List.replicate_zero,alS];trivial
 | succ n ih=>rw [List.replicate_succ,alS];exact ⟨h,ih⟩
theorem aEp {n:Nat} {p:Pl}:dnS (List.replicate n (.pl p)) = n:=by
 induction n with
 | zero=>rw [List.replicate_zero,dnS]
 | succ n ih=>rw [List.replicate_succ,dnS,ih,dnR];omega
mutual
theorem aIg:∀ r:Rw,drR r = true->1<=dnR r
 | .pl p,_=>by rw [dnR];exact Nat.le_refl _
 | .ag n rs,h=>by
  rw [drR,Bool.and_eq_true] at h
  have:=vH rs h.2
  have n0:0 < n:=by have:=h.1;simp at this;omega
  rw [dnR];exact Nat.mul_pos this n0
 | .kp rs,h=>by rw [drR] at h;rw [dnR];exact vH rs h
 | .ev rs,h=>by rw [drR] at h;rw [dnR];exact vH rs h
theorem vH:∀ rs:List Rw,drS rs = true->1<=dnS rs
 | [],h=>by rw [drS] at h;cases h
 | r :: rs,h=>by
  rw [drS,Bool.or_eq_true] at h
  rw [dnS]
  rcases h with z | z
  ·have:=aIg r z;omega
  ·have:=vH rs z;omega
end
theorem aJj {rs:List Rw} (h:enB rs = true):drS rs = true:=by
 unfold enB at h
 rw [Bool.and_eq_true,Bool.and_eq_true] at h
 exact h.2.2
theorem aGZ {F:Pl->Prop} {i m:Nat} {rs:List Rw} (h:xM F i m rs) (fd:F .dot) (fg:F (.grow (1 / 12))):(∀ r ∈ cI rs,Dp (4 - i) r)/\(cI rs).length<=m + 2/\dnS (cI rs)<=Fc m + 2/\gwS 704 (cI rs)/\alS F (cI rs)/\ltS (cI rs)/\hmS (cI rs)<=3 * m + 2:=by
 have one:∀ b:Bool,(if b = true then 0 else 1)<=1:=fun b=>by cases b<;>decide
 have pl:∀ {d:Nat} {p:Pl},Dp d (.pl p):=fun {d p}=>by unfold Dp;trivial
 unfold cI dR
 have o1:=one (drS rs)
 generalize (if drS rs = true then 0 else 1) = k1 at o1 ⊢
 have o2:=one (enB (rs ++ List.replicate k1 (.pl .dot)))
 generalize (if enB (rs ++ List.replicate k1 (.pl .dot)) = true then 0 else 1) = k2 at o2 ⊢
 refine ⟨fun r hr=>?_,?_,?_,gY.mpr ⟨gY.mpr ⟨h.gw,aAH (by rw [gwR];trivial;intro _ z;cases z)⟩,aAH (by rw [gwR];exact ⟨1,12,by decide,by decide,by decide +kernel⟩)⟩,iM.mpr ⟨iM.mpr ⟨h.al,aFt (by rw [alR];exact fd)⟩,aFt (by rw [alR];exact fg)⟩,lB.mpr ⟨lB.mpr ⟨h.lt.1,aAQ.1⟩,aAQ.1⟩,by rw [eA,eA,aAQ.2,aAQ.2];have:=h.lt.2;omega⟩
 ·rcases List.mem_append.mp hr with z | z
  ·rcases List.mem_append.mp z with y | y
   ·exact h.dp r y
   ·rw [(List.mem_replicate.mp y).2];exact pl
  ·rw [(List.mem_replicate.mp z).2];exact pl
 ·rw [List.length_append,List.length_append,List.length_replicate,List.length_replicate]
  have:=h.len
  omega
 ·rw [fE,fE,aEp,aEp]
  have:=h.dn
  omega
theorem aKP {F:Pl->Prop} {i m n:Nat} {rs:List Rw} {wd:Str} (h:xM F (i + 1) m rs) (hi:i + 1<=4) (hm:m<=39) (hn:n<=12) (fd:F .dot) (fg:F (.grow (1 / 12))):Dp (4 - i) (clE wd n rs)/\dnR (clE wd n rs)<=Fc (m + 2)/\gwR 704 (clE wd n rs)/\alR F (clE wd n rs)/\ltR (clE wd n rs)/\hmR (clE wd n rs)<=3 * (m + 2):=by
 obtain ⟨e1,e2,e3,e4,e5,e6,e7⟩:=aGZ h fd fg
 obtain ⟨t1,t2⟩:=h.lt
 have d4:4 - i = (4 - (i + 1)) + 1:=by omega
 have f2:=aJw m
 have fl:=aHr (m:=m)
 have hl:=h.len
 have hd:=h.dn
 have fm:=aGi (show m<=m + 2 by omega)
 unfold clE
 rw [d4]
 by_cases c1:wd = "again"
 ·rw [if_pos c1]
  refine ⟨⟨?_,by omega,h.dp⟩,?_,by rw [gwR];exact ⟨by omega,h.gw⟩,by rw [alR];exact h.al,by rw [ltR];exact ⟨by split<;>omega,t1⟩,by rw [hmR];omega⟩
  ·split<;>omega
  ·rw [dnR]
   by_cases c:90 < n * dnS rs
   ·rw [if_pos c];omega
   ·rw [if_neg c,Nat.mul_comm];exact aEE hd hn (by omega)
 ·rw [if_neg c1]
  by_cases c2:wd = "ever"
  ·rw [if_pos c2]
   cases hb:enB (cI rs) with
   | true=>exact ⟨⟨by omega,e1⟩,by show dnR (.ev _)<=_;rw [dnR];omega,by show gwR _ (.ev _);rw [gwR];exact ⟨⟨vH _ (aJj hb),by omega⟩,e4⟩,by show alR _ (.ev _);rw [alR];exact e5,by show ltR (.ev _);rw [ltR];exact e6,by show hmR (.ev _)<=_;rw [hmR];omega⟩
   | false=>exact ⟨⟨by omega,e1⟩,by show dnR (.kp _)<=_;rw [dnR];omega,by show gwR _ (.kp _);rw [gwR];exact ⟨by omega,e4⟩,by show alR _ (.kp _);rw [alR];exact e5,by show ltR (.kp _);rw [ltR];exact e6,by show hmR (.kp _)<=_;rw [hmR];omega⟩
  ·rw [if_neg c2]
   exact ⟨⟨by omega,h.dp⟩,by rw [dnR];omega,by rw [gwR];exact ⟨by omega,h.gw⟩,by rw [alR];exact h.al,by rw [ltR];exact t1,by rw [hmR];omega⟩
theorem xM.blk {F:Pl->Prop} {i m k:Nat} {us:List Rw} {r:Rw} (h:xM F i m us) (k0:0 < k) (b1:Dp (4 - i) r) (b2:dnR r<=Fc k) (b3:gwR 704 r) (b4:alR F r) (b5:ltR r) (b6:hmR r<=3 * k):xM F i (m + k) (us ++ [r]):=by
 refine ⟨fun x hx=>?_,by rw [List.length_append];have:=h.len;show us.length + 1<=m + k;omega,?_,gY.mpr ⟨h.gw,by rw [gwS,gwS];exact ⟨b3,trivial⟩⟩,iM.mpr ⟨h.al,by rw [alS,alS];exact ⟨b4,trivial⟩⟩,lB.mpr ⟨h.lt.1,by rw [ltS,ltS];exact ⟨b5,trivial⟩⟩,by rw [eA,hmS,hmS];have:=h.lt.2;omega⟩
 ·rcases List.mem_append.mp hx with z | z
  ·exact h.dp x z
  ·rw [List.mem_singleton.mp z];exact b1
 ·rw [fE,dnS,dnS]
  have:=h.dn
  have:=aEg m k
  omega
noncomputable abbrev Es:=List (En × Nat)
noncomputable def esD (es:Es):List D:=es.map fun x=>enD x.1
noncomputable def wd3 (w:Str):Prop:=w = "again" ∨ w = "keep" ∨ w = "ever"
structure SI (F:Pl->Prop) (B M:DM) (st:Addr) (es:Es) (c:Nat):Prop where
 sub:bG B M
 new:B st = none
 hst:M st = some (esD es)
 len:es.length<=5
 sum:(es.map (·.2)).sum + es.length<=c + 1
 ent:∀ (i:Nat) x,es[i]? = some x->(xM F i x.2 x.1.rs/\M x.1.a = some (aT x.1.rs)/\B x.1.a = none)/\st ≠ x.1.a/\x.1.n<=12/\(0 < i->wd3 x.1.wd)
 nod:(es.map (·.1.a)).Nodup
theorem mQ {B M M':DM} {as:List Addr} (s:bG B M) (k:eU M M' as) (n:∀ a ∈ as,B a = none):bG B M':=fun a x e=>k a (fun b hb z=>by rw [z,n b hb] at e;cases e) x (s _ _ e)
theorem mT {α:Type} {xs:List α} {y:α} {i:Nat} {x:α} (h:(xs ++ [y])[i]? = some x):xs[i]? = some x ∨ (i = xs.length/\x = y):=by
 rw [List.getElem?_append] at h
 split at h
 ·exact .inl h
 ·rename_i l
  have:i - xs.length = 0:=by
   cases hk:i - xs.length with
   | zero=>rfl
   | succ k=>rw [hk] at h;simp at h
  rw [this] at h
  simp at h
  exact .inr ⟨by omega,h.symm⟩
theorem SI.top {F:Pl->Prop} {B M M':DM} {st:Addr} {es:Es} {u:En} {m m' c c':Nat} {rs':List Rw} (h:SI F B M st (es ++ [(u,m)]) c) (hs:M' st = some (esD (es ++ [(u,m)]))) (hu:M' u.a = some (aT rs')) (k:eU M M' [st,u.a]) (ok:xM F es.length m' rs') (hc:(es.map (·.2)).sum + m' + es.length<=c'):SI F B M' st (es ++ [({ u with rs:=rs' },m')]) c':=by
 have hend:(es ++ [(u,m)])[es.length]? = some (u,m):=by rw [List.getElem?_append_right (Nat.le_refl _)];simp
 have hu0:=h.ent _ _ hend
 refine ⟨mQ h.sub k fun a ha=>?_,h.new,?_,?_,?_,fun i x hx=>?_,?_⟩
 ·rcases List.mem_cons.mp ha with rfl | z
  ·exact h.new
  ·rw [List.mem_singleton.mp z];exact hu0.1.2.2
 ·rw [hs];unfold esD;rw [List.map_append,List.map_append];rfl
 ·have:=h.len
  rw [List.length_append] at *;exact this
 ·rw [List.map_append,List.sum_append,List.length_append]
  simp
  omega
 ·rcases mT hx with z | ⟨rfl,rfl⟩
  ·have hi:=(List.getElem?_eq_some_iff.mp z).1
   have hx0:(es ++ [(u,m)])[i]? = some x:=by rw [List.getElem?_append_left hi];exact z
   obtain ⟨⟨a1,a2,a3⟩,a4,a5⟩:=h.ent i x hx0
   refine ⟨⟨a1,k _ (fun b hb y=>?_) _ a2,a3⟩,a4,a5⟩
   rcases List.mem_cons.mp hb with rfl | z2
   ·cases y;exact a4 rfl
   ·rw [List.mem_singleton.mp z2] at y
    have nd:=h.nod
    rw [List.map_append,List.nodup_append] at nd
    have:=nd.2.2 x.1.a (List.mem_map.mpr ⟨x,List.mem_of_getElem? z,rfl⟩) u.a (by simp)
    exact this (by injection y)
  ·exact ⟨⟨ok,hu,hu0.1.2.2⟩,hu0.2.1,hu0.2.2.1,hu0.2.2.2⟩
 ·have nd:=h.nod
  rw [List.map_append] at *;exact nd
theorem SI.push {F:Pl->Prop} {B M M':DM} {st a:Addr} {es:Es} {wd:Str} {n c c':Nat} (h:SI F B M st es c) (hl:es.length < 5) (ha:M a = none) (hs:M' st = some (esD (es ++ [(⟨wd,n,a,[]⟩,0)]))) (hu:M' a = some []) (k:eU M M' [st,a]) (hw:wd3 wd) (hn:n<=12) (hc:c + 1<=c'):SI F B M' st (es ++ [(⟨wd,n,a,[]⟩,0)]) c':=by
 have fresh:∀ b:Addr,(∃ x,M b = some x)->b ≠ a:=fun b ⟨x,e⟩ z=>by rw [z,ha] at e;cases e
 have ba:B a = none:=by
  cases e:B a with
  | none=>rfl
  | some x=>rw [h.sub _ _ e] at ha;cases ha
 refine ⟨mQ h.sub k fun b hb=>?_,h.new,hs,by rw [List.length_append];exact hl,?_,fun i x hx=>?_,?_⟩
 ·rcases List.mem_cons.mp hb with rfl | z
  ·exact h.new
  ·rw [List.mem_singleton.mp z];exact ba
 ·have:=h.sum
  rw [List.map_append,List.sum_append,List.length_append]
  simp
  omega
 ·rcases mT hx with z | ⟨rfl,rfl⟩
  ·obtain ⟨⟨a1,a2,a3⟩,a4,a5⟩:=h.ent i x z
   refine ⟨⟨a1,k _ (fun b hb y=>?_) _ a2,a3⟩,a4,a5⟩
   rcases List.mem_cons.mp hb with rfl | z2
   ·exact a4 (by injection y with y;exact y.symm)
   ·rw [List.mem_singleton.mp z2] at y
    exact fresh _ ⟨_,a2⟩ (by injection y)
  ·refine ⟨⟨⟨(fun r hr=>nomatch hr),Nat.le_refl _,(by show dnS []<=_;rw [dnS];exact Nat.zero_le _),(by show gwS _ [];rw [gwS];trivial),(by show alS _ [];rw [alS];trivial),(by show ltS [];rw [ltS];trivial),(by show hmS []<=_;rw [hmS];exact Nat.zero_le _)⟩,hu,ba⟩,fresh _ ⟨_,h.hst⟩,hn,fun _=>hw⟩
 ·rw [List.map_append,List.nodup_append]
  refine ⟨h.nod,by simp,fun b hb d hd=>?_⟩
  rw [List.mem_singleton.mp hd]
  obtain ⟨x,hx,rfl⟩:=List.mem_map.mp hb
  obtain ⟨i,hi⟩:=List.mem_iff_getElem?.mp hx
  exact fresh _ ⟨_,(h.ent i x hi).1.2.1⟩
theorem SI.close {F:Pl->Prop} {B M M':DM} {st:Addr} {es:Es} {u e:En} {m m' c:Nat} (h:SI F B M st (es ++ [(u,m),(e,m')]) c) (hs:M' st = some (esD (es ++ [(u,m)]))) (hu:M' u.a = some (aT (u.rs ++ [clE e.wd e.n e.rs]))) (kp:eU M M' [st,u.a]) (fd:F .dot) (fg:F (.grow (1 / 12))) (hc:c<=40):SI F B M' st (es ++ [({ u with rs:=u.rs ++ [clE e.wd e.n e.rs] },m + (m' + 2))]) (c + 1):=by
 have spl:es ++ [(u,m),(e,m')] = (es ++ [(u,m)]) ++ [(e,m')]:=by simp
 rw [spl] at h
 have he:((es ++ [(u,m)]) ++ [(e,m')])[(es ++ [(u,m)]).length]? = some (e,m'):=by rw [List.getElem?_append_right (Nat.le_refl _)];simp
 have he0:=h.ent _ _ he
 have hun:((es ++ [(u,m)]) ++ [(e,m')])[es.length]? = some (u,m):=by
  rw [List.getElem?_append_left (by rw [List.length_append];show _ < _ + 1;omega),List.getElem?_append_right (Nat.le_refl _)];simp
 have hu0:=h.ent _ _ hun
 have sm:=h.sum
 have ln:=h.len
 rw [List.map_append,List.map_append,List.sum_append,List.sum_append,List.length_append,List.length_append] at sm
 simp at sm
 rw [List.length_append,List.length_append] at ln
 simp at ln
 have l1:(es ++ [(u,m)]).length = es.length + 1:=by rw [List.length_append];rfl
 rw [l1] at he0
 obtain ⟨b1,b2,b3,b4,b5,b6⟩:=aKP (wd:=e.wd) (n:=e.n) he0.1.1 (by omega) (by show m'<=39;omega) he0.2.2.1 fd fg
 have ok:=hu0.1.1.blk (k:=m' + 2) (by omega) b1 b2 b3 b4 b5 b6
 refine ⟨mQ h.sub kp fun a ha=>?_,h.new,?_,by rw [List.length_append];show es.length + 1<=5;omega,?_,fun i x hx=>?_,?_⟩
 ·rcases List.mem_cons.mp ha with rfl | z
  ·exact h.new
  ·rw [List.mem_singleton.mp z];exact hu0.1.2.2
 ·rw [hs];unfold esD;rw [List.map_append,List.map_append];rfl
 ·rw [List.map_append,List.sum_append,List.length_append]
  simp
  omega
 ·rcases mT hx with z | ⟨rfl,rfl⟩
  ·have hi:=(List.getElem?_eq_some_iff.mp z).1
   have hx0:((es ++ [(u,m)]) ++ [(e,m')])[i]? = some x:=by
    rw [List.getElem?_append_left (by rw [l1];omega),List.getElem?_append_left hi];exact z
   obtain ⟨⟨a1,a2,a3⟩,a4,a5⟩:=h.ent i x hx0
   refine ⟨⟨a1,kp _ (fun b hb y=>?_) _ a2,a3⟩,a4,a5⟩
   rcases List.mem_cons.mp hb with rfl | z2
   ·exact a4 (by injection y with y;exact y.symm)
   ·rw [List.mem_singleton.mp z2] at y
    have nd:=h.nod
    rw [List.map_append,List.nodup_append,List.map_append,List.nodup_append] at nd
    exact nd.1.2.2 x.1.a (List.mem_map.mpr ⟨x,List.mem_of_getElem? z,rfl⟩) u.a (by simp) (by injection y)
  ·exact ⟨⟨ok,hu,hu0.1.2.2⟩,hu0.2.1,hu0.2.2.1,hu0.2.2.2⟩
 ·have nd:=h.nod
  rw [List.map_append,List.nodup_append] at nd
  have:=nd.1
  rw [List.map_append] at *;exact this
noncomputable def aBt:D:=.tup [.int 0,.int 1]
noncomputable def dO:DSp:=fun ds M Q=>∃ x y t,ds = [PQ x y,.int t]/\Q (FR x y t 1 1) M
noncomputable abbrev pA:Stmt:=top 33
theorem aBp:aP ["place","turns"] ["place","turns"] (aI pA):=⟨rfl,rfl,rfl,by decide +kernel,rfl,by decide +kernel,by decide +kernel⟩
theorem aAO (hF:bO K mg "at_place" pA ["place","turns"]) (mB:fP K mg "ONE" aFM):Has P w K mg base 101 "at_place" ["place","turns"] dO:=by
 refine Has.mkZ hF aBp (fun ds M Q ⟨a,b,c,z,_⟩=>by rw [z];rfl) fun f cdv A outer s H ds M Q E hr h=>?_
 obtain ⟨x,y,t,rfl,q⟩:=h
 refine ⟨_,(aF (aM (aK (aA (aB 0) (aA (aB 1) (aA aC (aA (bD mB) aD))))))),?_⟩
 decreasing_tactic
 exact ⟨by decide,M,.refl _,q⟩
noncomputable def eZ (B:Nat) (ok:Pl->Prop):DSp:=fun ds M Q=>∃ p,ds = [plD p]/\ok p/\plB B p/\Q (.tup [lgO (kG p),FmD (dJ p)]) M
theorem eK {B:Nat} {ok:Pl->Prop} (ds:List D) (M:DM) (Q:DQ) (h:eZ B ok ds M Q):ds.length = 1:=by obtain ⟨p,rfl,_⟩:=h;rfl
noncomputable def lS:DSp:=fun ds M Q=>∃ (x:Str) (a b:Rat),ds = [.tup [.str x,FQ a,FQ b]]/\Q (.tup [lgD (.st 0 0 a b),FmD ⟨a,b,0,1,1⟩]) M
noncomputable abbrev nY:Stmt:=top 35
theorem qD:aP ["row","place"] ["row"] (aI nY):=⟨rfl,rfl,rfl,by decide +kernel,rfl,by decide +kernel,by decide +kernel⟩
theorem xW (hF:bO K mg "side_deed" nY ["row"]) (aZ:fP K mg "MIDDLE" sE) (bC:Has P w K mg base 101 "at_place" ["place","turns"] dO):Has P w K mg base 102 "side_deed" ["row"] lS:=by
 refine Has.mkZ hF qD (fun ds M Q ⟨a,b,c,z,_⟩=>by rw [z];rfl) fun f cdv A outer s H ds M Q E hr h=>?_
 obtain ⟨x,a,b,rfl,q⟩:=h
 refine ⟨_,(aE (aO (i:=1) qD.nd (aK (aA (aH (aB 0) aC) (aA (aH (aB 0) aC) aD))))
  (aF (aM (aK (aA (aK (aA aN (aA (bD aZ) (aA (aB 1) aD)))) (aA (aG bC hr (by decide) (aA (aB 1) (aA aC aD))) aD)))))),?_⟩
 decreasing_tactic
 refine ⟨by decide,by decide,a,b,0,rfl,?_⟩
 decreasing_tactic
 exact ⟨by decide,M,.refl _,q⟩
noncomputable def vY:DSp:=eZ 900 fun p=>∃ a,p = .go a
noncomputable abbrev sA:Stmt:=top 34
theorem aBS:aP ["row"] ["row"] (aI sA):=⟨rfl,rfl,rfl,by decide +kernel,rfl,by decide +kernel,by decide +kernel⟩
theorem aBd (hF:bO K mg "go_deed" sA ["row"]) (cT:fP K mg "NOTHING" aBt) (fX:Has P w K mg base 102 "side_deed" ["row"] lS):Has P w K mg base 103 "go_deed" ["row"] vY:=by
 refine Has.mkZ hF aBS eK fun f cdv A outer s H ds M Q E hr h=>?_
 obtain ⟨p,rfl,⟨a,rfl⟩,b,q⟩:=h
 refine ⟨_,(aF (aM (aG fX hr (by decide) (aA (aK (aA aN (aA (aH (aB 0) aC) (aA (bD cT) aD)))) aD)))),?_⟩
 dsimp only [plD]
 decreasing_tactic
 refine ⟨by decide,"side",a,0,rfl,?_⟩
 exact ⟨M,.refl _,q⟩
noncomputable def rH:DSp:=eZ 900 fun p=>∃ a,p = .skip a
noncomputable abbrev nQ:Stmt:=top 36
theorem aAy:aP ["row"] ["row"] (aI nQ):=⟨rfl,rfl,rfl,by decide +kernel,rfl,by decide +kernel,by decide +kernel⟩
theorem yF (hF:bO K mg "skip_deed" nQ ["row"]) (cT:fP K mg "NOTHING" aBt) (bC:Has P w K mg base 101 "at_place" ["place","turns"] dO):Has P w K mg base 103 "skip_deed" ["row"] rH:=by
 refine Has.mkZ hF aAy eK fun f cdv A outer s H ds M Q E hr h=>?_
 obtain ⟨p,rfl,⟨a,rfl⟩,b,q⟩:=h
 refine ⟨_,(aF (aM (aK (aA fL (aA (aG bC hr (by decide) (aA (aK (aA (aH (aB 0) aC) (aA (bD cT) aD))) (aA aC aD))) aD))))),?_⟩
 dsimp only [plD]
 decreasing_tactic
 refine ⟨by decide,a,0,0,rfl,?_⟩
 decreasing_tactic
 exact ⟨by decide,M,.refl _,q⟩
noncomputable def sR:DSp:=eZ 900 fun p=>p = .dot
noncomputable abbrev pU:Stmt:=top 37
theorem aA7:aP ["row"] ["row"] (aI pU):=⟨rfl,rfl,rfl,by decide +kernel,rfl,by decide +kernel,by decide +kernel⟩
theorem aAg (hF:bO K mg "dot_deed" pU ["row"]) (aZ:fP K mg "MIDDLE" sE) (iJ:Has P w K mg base 101 "first" [] qF):Has P w K mg base 103 "dot_deed" ["row"] sR:=by
 refine Has.mkZ hF aA7 eK fun f cdv A outer s H ds M Q E hr h=>?_
 obtain ⟨p,rfl,rfl,b,q⟩:=h
 refine ⟨_,(aF (aM (aK (aA (aK (aA aN (aA (bD aZ) (aA (bD aZ) aD)))) (aA (pG iJ hr (by decide)) aD))))),?_⟩
 decreasing_tactic
 refine ⟨by decide,rfl,?_⟩
 decreasing_tactic
 exact ⟨by decide,M,.refl _,q⟩
noncomputable def qY:DSp:=eZ 900 fun p=>p = .left
noncomputable abbrev mG:Stmt:=top 38
theorem aAr:aP ["row"] ["row"] (aI mG):=⟨rfl,rfl,rfl,by decide +kernel,rfl,by decide +kernel,by decide +kernel⟩
theorem yC (hF:bO K mg "left_deed" mG ["row"]) (aZ:fP K mg "MIDDLE" sE) (bC:Has P w K mg base 101 "at_place" ["place","turns"] dO):Has P w K mg base 103 "left_deed" ["row"] qY:=by
 refine Has.mkZ hF aAr eK fun f cdv A outer s H ds M Q E hr h=>?_
 obtain ⟨p,rfl,rfl,b,q⟩:=h
 refine ⟨_,(aF (aM (aK (aA fL (aA (aG bC hr (by decide) (aA (bD aZ) (aA aC aD))) aD))))),?_⟩
 decreasing_tactic
 refine ⟨0,0,1,rfl,?_⟩
 decreasing_tactic
 exact ⟨by decide,M,.refl _,q⟩
noncomputable def oS:DSp:=eZ 900 fun p=>p = .rnd
noncomputable abbrev lH:Stmt:=top 39
theorem xO:aP ["row"] ["row"] (aI lH):=⟨rfl,rfl,rfl,by decide +kernel,rfl,by decide +kernel,by decide +kernel⟩
theorem wB (hF:bO K mg "round_deed" lH ["row"]) (aZ:fP K mg "MIDDLE" sE) (bC:Has P w K mg base 101 "at_place" ["place","turns"] dO):Has P w K mg base 103 "round_deed" ["row"] oS:=by
 refine Has.mkZ hF xO eK fun f cdv A outer s H ds M Q E hr h=>?_
 obtain ⟨p,rfl,rfl,b,q⟩:=h
 refine ⟨_,(aF (aM (aK (aA fL (aA (aG bC hr (by decide) (aA (bD aZ) (aA aC aD))) aD))))),?_⟩
 decreasing_tactic
 refine ⟨0,0,2,rfl,?_⟩
 decreasing_tactic
 exact ⟨by decide,M,.refl _,q⟩
noncomputable def oO:DSp:=eZ 900 fun p=>p = .right
noncomputable abbrev lC:Stmt:=top 40
theorem yD:aP ["row"] ["row"] (aI lC):=⟨rfl,rfl,rfl,by decide +kernel,rfl,by decide +kernel,by decide +kernel⟩
theorem uZ (hF:bO K mg "right_deed" lC ["row"]) (aZ:fP K mg "MIDDLE" sE) (bC:Has P w K mg base 101 "at_place" ["place","turns"] dO):Has P w K mg base 103 "right_deed" ["row"] oO:=by
 refine Has.mkZ hF yD eK fun f cdv A outer s H ds M Q E hr h=>?_
 obtain ⟨p,rfl,rfl,b,q⟩:=h
 refine ⟨_,(aF (aM (aK (aA fL (aA (aG bC hr (by decide) (aA (bD aZ) (aA aC aD))) aD))))),?_⟩
 decreasing_tactic
 refine ⟨0,0,3,rfl,?_⟩
 decreasing_tactic
 exact ⟨by decide,M,.refl _,q⟩
noncomputable def nA:DSp:=eZ 900 fun p=>p = .mirror
noncomputable abbrev jT:Stmt:=top 41
theorem xB:aP ["row"] ["row"] (aI jT):=⟨rfl,rfl,rfl,by decide +kernel,rfl,by decide +kernel,by decide +kernel⟩
theorem tO (hF:bO K mg "mirror_deed" jT ["row"]) (aZ:fP K mg "MIDDLE" sE) (mB:fP K mg "ONE" aFM):Has P w K mg base 103 "mirror_deed" ["row"] nA:=by
 refine Has.mkZ hF xB eK fun f cdv A outer s H ds M Q E hr h=>?_
 obtain ⟨p,rfl,rfl,b,q⟩:=h
 refine ⟨_,(aF (aM (aK (aA fL (aA (aK (aA (bD aZ) (aA aC (aA (eI aC) (aA (bD mB) aD))))) aD))))),?_⟩
 decreasing_tactic
 exact ⟨by decide,by decide,M,.refl _,q⟩
noncomputable def qK:DSp:=eZ 900 fun p=>∃ a,p = .grow a
noncomputable abbrev nX:Stmt:=top 42
theorem aAF:aP ["row"] ["row"] (aI nX):=⟨rfl,rfl,rfl,by decide +kernel,rfl,by decide +kernel,by decide +kernel⟩
theorem xZ (hF:bO K mg "grow_deed" nX ["row"]) (aZ:fP K mg "MIDDLE" sE):Has P w K mg base 103 "grow_deed" ["row"] qK:=by
 refine Has.mkZ hF aAF eK fun f cdv A outer s H ds M Q E hr h=>?_
 obtain ⟨p,rfl,⟨a,rfl⟩,b,q⟩:=h
 refine ⟨_,(aF (aM (aK (aA fL (aA (aK (aA (bD aZ) (aA aC (aA aC (aA (aH (aB 0) aC) aD))))) aD))))),?_⟩
 dsimp only [plD]
 decreasing_tactic
 exact ⟨by decide,by decide,M,.refl _,q⟩
theorem jQ {a:Rat}:0 < a.num ↔ 0 < a:=by rw [Rat.lt_iff];simp
noncomputable def mC:DSp:=eZ 900 fun p=>∃ a,p = .quarter a
noncomputable abbrev jA:Stmt:=top 43
theorem iA:aP ["row","a","place"] ["row"] (aI jA):=⟨rfl,rfl,rfl,by decide +kernel,rfl,by decide +kernel,by decide +kernel⟩
theorem sC (hF:bO K mg "quarter_deed" jA ["row"]) (aZ:fP K mg "MIDDLE" sE) (cT:fP K mg "NOTHING" aBt) (bC:Has P w K mg base 101 "at_place" ["place","turns"] dO):Has P w K mg base 103 "quarter_deed" ["row"] mC:=by
 refine Has.mkZ hF iA eK fun f cdv A outer s H ds M Q E hr h=>?_
 obtain ⟨p,rfl,⟨a,rfl⟩,b,q⟩:=h
 refine ⟨_,(aE (aO (i:=1) iA.nd (aH (aB 0) aC))
  (aE (bA (aR iE (aH (aB 1) aC) aC) (aF (aM (aK (aA (aK (aA aN (aA (aK (aA (bD cT) (aA (aB 1) aD))) (aA (bD aZ) (aA (aK (aA (aB 1) (aA (aB 1) aD))) (aA aC aD)))))) (aA (aG bC hr (by decide) (aA (aK (aA (aB 1) (aA (aB 1) aD))) (aA aC aD))) aD))))) aX)
  (aE (aO (i:=2) iA.nd (aK (aA (aK (aA (eI (aH (aB 1) aC)) (aA (aH (aB 1) aC) aD))) (aA (aB 1) aD))))
  (aF (aM (aK (aA (aK (aA aN (aA (aK (aA (bD cT) (aA (aB 1) aD))) (aA (bD aZ) (aA (aB 2) (aA (eI aC) aD)))))) (aA (aG bC hr (by decide) (aA (aB 2) (aA aC aD))) aD)))))))),?_⟩
 dsimp only [plD]
 decreasing_tactic
 dsimp only [kG,dJ] at q
 by_cases c:0 < a
 ·rw [if_pos c,if_pos c] at q
  refine ifT (decide_eq_true (jQ.mpr c)) ⟨by decide,by decide,by decide,by decide,a,a,1,rfl,?_⟩
  decreasing_tactic
  exact ⟨by decide,M,.refl _,q⟩
 ·rw [if_neg c,if_neg c] at q
  refine ifF (decide_eq_false fun z=>c (jQ.mp z)) ⟨by decide,by decide,by decide,by decide,?_⟩
  rw [zW]
  refine ⟨-a,a,3,rfl,?_⟩
  decreasing_tactic
  exact ⟨by decide,M,.refl _,q⟩
noncomputable def qV:DSp:=eZ 900 fun p=>∃ a,p = .half a
noncomputable abbrev nU:Stmt:=top 44
theorem rE:aP ["row","place"] ["row"] (aI nU):=⟨rfl,rfl,rfl,by decide +kernel,rfl,by decide +kernel,by decide +kernel⟩
theorem xN (hF:bO K mg "half_deed" nU ["row"]) (aZ:fP K mg "MIDDLE" sE) (cT:fP K mg "NOTHING" aBt) (pY:Has P w K mg base 102 "plus" ["one","other"] uA) (bC:Has P w K mg base 101 "at_place" ["place","turns"] dO):Has P w K mg base 103 "half_deed" ["row"] qV:=by
 refine Has.mkZ hF rE eK fun f cdv A outer s H ds M Q E hr h=>?_
 obtain ⟨p,rfl,⟨a,rfl⟩,b,q⟩:=h
 refine ⟨_,(aE (aO (i:=1) rE.nd (aK (aA (bD cT) (aA (aG pY hr (by decide) (aA (aH (aB 0) aC) (aA (aH (aB 0) aC) aD))) aD))))
  (aF (aM (aK (aA (aK (aA aN (aA (aK (aA (bD cT) (aA (aH (aB 0) aC) aD))) (aA (bD aZ) (aA (aB 1) (aA (gR (aR iE (aH (aH (aB 0) aC) aC) aC) aC (eI aC)) aD)))))) (aA (aG bC hr (by decide) (aA (aB 1) (aA aC aD))) aD)))))),?_⟩
 dsimp only [plD]
 decreasing_tactic
 dsimp only [kG,dJ] at q
 refine ⟨a,a,900,900,rfl,trivial,b.1,b.1,by decide,by decide,by decide,?_⟩
 decreasing_tactic
 by_cases c:0 < a
 ·rw [if_pos c] at q
  refine ifT (decide_eq_true (jQ.mpr c)) ⟨by decide,0,a + a,2,rfl,?_⟩
  decreasing_tactic
  exact ⟨by decide,M,.refl _,q⟩
 ·rw [if_neg c] at q
  refine ifF (decide_eq_false fun z=>c (jQ.mp z)) ⟨by decide,0,a + a,2,rfl,?_⟩
  decreasing_tactic
  exact ⟨by decide,M,.refl _,q⟩
noncomputable def tJ:DSp:=eZ 900 fun p=>∃ a b c d,p = .arc a b c d
noncomputable abbrev pZ:Stmt:=top 45
theorem tK:aP ["row","place"] ["row"] (aI pZ):=⟨rfl,rfl,rfl,by decide +kernel,rfl,by decide +kernel,by decide +kernel⟩
theorem aAc (hF:bO K mg "arc_deed" pZ ["row"]) (aZ:fP K mg "MIDDLE" sE) (bC:Has P w K mg base 101 "at_place" ["place","turns"] dO):Has P w K mg base 103 "arc_deed" ["row"] tJ:=by
 refine Has.mkZ hF tK eK fun f cdv A outer s H ds M Q E hr h=>?_
 obtain ⟨p,rfl,⟨a,b,c,d,rfl⟩,bb,q⟩:=h
 refine ⟨_,(aE (aO (i:=1) tK.nd (aK (aA (aH (aB 0) aC) (aA (aH (aB 0) aC) aD))))
  (aF (aM (aK (aA (aK (aA aN (aA (aK (aA (aH (aB 0) aC) (aA (aH (aB 0) aC) aD))) (aA (bD aZ) (aA (aB 1) (aA aC aD)))))) (aA (aG bC hr (by decide) (aA (aB 1) (aA aC aD))) aD)))))),?_⟩
 dsimp only [plD]
 decreasing_tactic
 refine ⟨by decide,by decide,by decide,c,d,0,rfl,?_⟩
 decreasing_tactic
 exact ⟨by decide,M,.refl _,q⟩
noncomputable def aKg:List (Str × Str):=[("go","go_deed"),("skip","skip_deed"),("side","side_deed"),("dot","dot_deed"),("left","left_deed"),("right","right_deed"),("round","round_deed"),("mirror","mirror_deed"),("grow","grow_deed"),("quarter","quarter_deed"),("half","half_deed"),("arc","arc_deed")]
noncomputable def lK:DSp:=eZ 900 fun _=>True
noncomputable abbrev rY:Stmt:=top 47
theorem vI:aP ["row","deed"] ["row"] (aI rY):=⟨rfl,rfl,rfl,by decide +kernel,rfl,by decide +kernel,by decide +kernel⟩
theorem aBC (hF:bO K mg "deed_of" rY ["row"]) (aAP:aF6 w K mg "DEEDS" aKg) (sB:Has P w K mg base 103 "go_deed" ["row"] vY) (fX:Has P w K mg base 102 "side_deed" ["row"] lS) (mK:Has P w K mg base 103 "skip_deed" ["row"] rH) (oV:Has P w K mg base 103 "dot_deed" ["row"] sR) (nR:Has P w K mg base 103 "left_deed" ["row"] qY) (kX:Has P w K mg base 103 "round_deed" ["row"] oS) (lW:Has P w K mg base 103 "right_deed" ["row"] oO) (jV:Has P w K mg base 103 "mirror_deed" ["row"] nA) (mS:Has P w K mg base 103 "grow_deed" ["row"] qK) (iZ:Has P w K mg base 103 "quarter_deed" ["row"] mC) (nG:Has P w K mg base 103 "half_deed" ["row"] qV) (pW:Has P w K mg base 103 "arc_deed" ["row"] tJ):Has P w K mg base 104 "deed_of" ["row"] lK:=by
 refine Has.mkZ hF vI eK fun f cdv A outer s H ds M Q E hr h=>?_
 obtain ⟨p,rfl,_,b,q⟩:=h
 refine ⟨_,(aE (aO (i:=1) vI.nd (aGz aAP (aH (aB 0) aC)))
  (aF (aM (aDL (j:=103) (aB 1) hr (by decide) (aA (aB 0) aD))))),?_⟩
 have q':=dN q
 cases p with
 | go a=>exact ⟨"go_deed",rfl,fun f hf=>⟨_,_,_,hf,sB,_,rfl,⟨a,rfl⟩,b,q'⟩⟩
 | side a c=>exact ⟨"side_deed",rfl,fun f hf=>⟨_,_,_,hf,fX.mono (by decide),_,a,c,rfl,q'⟩⟩
 | skip a=>exact ⟨"skip_deed",rfl,fun f hf=>⟨_,_,_,hf,mK,_,rfl,⟨a,rfl⟩,b,q'⟩⟩
 | dot=>exact ⟨"dot_deed",rfl,fun f hf=>⟨_,_,_,hf,oV,_,rfl,rfl,b,q'⟩⟩
 | left=>exact ⟨"left_deed",rfl,fun f hf=>⟨_,_,_,hf,nR,_,rfl,rfl,b,q'⟩⟩
 | right=>exact ⟨"right_deed",rfl,fun f hf=>⟨_,_,_,hf,lW,_,rfl,rfl,b,q'⟩⟩
 | rnd=>exact ⟨"round_deed",rfl,fun f hf=>⟨_,_,_,hf,kX,_,rfl,rfl,b,q'⟩⟩
 | mirror=>exact ⟨"mirror_deed",rfl,fun f hf=>⟨_,_,_,hf,jV,_,rfl,rfl,b,q'⟩⟩
 | grow a=>exact ⟨"grow_deed",rfl,fun f hf=>⟨_,_,_,hf,mS,_,rfl,⟨a,rfl⟩,b,q'⟩⟩
 | quarter a=>exact ⟨"quarter_deed",rfl,fun f hf=>⟨_,_,_,hf,iZ,_,rfl,⟨a,rfl⟩,b,q'⟩⟩
 | half a=>exact ⟨"half_deed",rfl,fun f hf=>⟨_,_,_,hf,nG,_,rfl,⟨a,rfl⟩,b,q'⟩⟩
 | arc a c d e=>exact ⟨"arc_deed",rfl,fun f hf=>⟨_,_,_,hf,pW,_,rfl,⟨a,c,d,e,rfl⟩,b,q'⟩⟩
noncomputable def dD:DSp:=fun ds M Q=>∃ r,ds = [rwD r]/\Q (inR r) M
noncomputable abbrev kB:Stmt:=top 50
theorem wU:aP ["row"] ["row"] (aI kB):=⟨rfl,rfl,rfl,by decide +kernel,rfl,by decide +kernel,by decide +kernel⟩
theorem tQ (hF:bO K mg "rows_within" kB ["row"]):Has P w K mg base 101 "rows_within" ["row"] dD:=by
 refine Has.mkZ hF wU (fun ds M Q ⟨a,z,_⟩=>by rw [z];rfl) fun f cdv A outer s H ds M Q E hr h=>?_
 obtain ⟨r,rfl,q⟩:=h
 refine ⟨_,(aE (bA (aR (cL hr) (aH (aB 0) aC) aN) (aF (aM (aH (aB 0) aC))) aX)
  (aF (aM (gR (qO (aBM (aR (cL hr) (aH (aB 0) aC) aN) (aAL (aR (cL hr) (aH (aB 0) aC) aN)))) (aH (aB 0) aC) fL)))),?_⟩
 have q':=dN q
 cases r with
 | pl p =>
  cases p<;>(dsimp only [rwD,plD];decreasing_tactic;rw [aS];refine ifF (by decide) ?_;rw [aS];refine ifF (by decide) ?_;rw [aS];exact ifF (by decide) q')
 | ag n rs =>
  dsimp only [rwD]
  decreasing_tactic
  rw [aS]
  exact ifT (by decide) q'
 | kp rs =>
  dsimp only [rwD]
  decreasing_tactic
  rw [aS]
  refine ifF (by decide) ?_
  rw [aS]
  exact ifT (by decide) q'
 | ev rs =>
  dsimp only [rwD]
  decreasing_tactic
  rw [aS]
  refine ifF (by decide) ?_
  rw [aS]
  refine ifF (by decide) ?_
  rw [aS]
  exact ifT (by decide) q'
noncomputable def uC (d:Nat):DSp:=fun ds M Q=>∃ rs,ds = [.tup (aT rs)]/\DpS d rs/\Q (.int (dnS rs:Int)) M
noncomputable abbrev hZ:Stmt:=top 53
theorem cM:aP ["rows","many","row","within"] ["rows"] (aI hZ):=⟨rfl,rfl,rfl,by decide +kernel,rfl,by decide +kernel,by decide +kernel⟩
theorem rC (hF:bO K mg "how_many_done" hZ ["rows"]) (bF:Has P w K mg base 101 "rows_within" ["row"] dD):Has P w K mg base 118 "how_many_done" ["rows"] (uC 8):=by
 have all:∀ d,Has P w K mg base (110 + d) "how_many_done" ["rows"] (uC d):=fun d=>by
  induction d with
  | zero=>exact (Has.never hF cM 109).imp fun ds M Q ⟨rs,_,z,_⟩=>z
  | succ d cK =>
   refine Has.mkZ (k:=110 + d) hF cM (fun ds M Q ⟨a,z,_⟩=>by rw [z];rfl) fun f cdv A outer s H ds M Q E hr h=>?_
   obtain ⟨rs,rfl,dp,q⟩:=h
   refine ⟨_,(aE (aO (i:=1) cM.nd aC)
  (aE (kK PassesOwn.never rfl (aB 0) (aQ (i:=2) cM.nd) (aE (aO (i:=3) cM.nd (aG bF hr (by omega) (aA (aB 2) aD)))
  (aF (bA (aR aC0 (aB 3) fL) (aF (kE (i:=1) vR cM.nd aC)) (aF (kE (i:=1) vR cM.nd (aL bE (aG cK hr (by omega) (aA (aB 3) aD)) (gR (aR (cL hr) (aH (aB 2) aC) aN) (aH (aB 2) aC) aC))))))))
  (aF (aM (aB 1))))),?_⟩
   decreasing_tactic
   refine ⟨fun i ρ M'=>M' = M/\∃ o1 o2,ρ = [some (.tup (aT rs)),some (.int (dnS (rs.take i):Int)),o1,o2],⟨rfl,_,_,rfl⟩,fun i ρ M' _ _ a e=>(by cases e),?_,?_⟩
   ·rintro i d1 ρ M' hd ⟨rfl,o1,o2,rfl⟩
    obtain ⟨r,hr',rfl⟩:=fK hd
    have dr:=dp.2 r (List.mem_of_getElem? hr')
    decreasing_tactic
    refine ⟨r,rfl,?_⟩
    have fin:dnS (rs.take (i + 1)) = dnS (rs.take i) + dnR r:=by rw [dM hr',fE,dnS,dnS,Nat.add_zero]
    rw [fin]
    cases r with
    | pl p =>
     dsimp only [inR,dnR]
     decreasing_tactic
     exact ifT rfl ⟨rfl,_,_,rfl⟩
    | ag n ws =>
     obtain ⟨hn,dw⟩:=qE dr
     dsimp only [inR,dnR,rwD]
     decreasing_tactic
     refine ifF rfl ⟨ws,rfl,dw,?_⟩
     decreasing_tactic
     rw [aS]
     refine ifT (by decide) ⟨pI (by unfold Bd;omega),?_⟩
     rw [Int.natCast_add,Int.natCast_mul]
     exact ⟨rfl,_,_,rfl⟩
    | kp ws =>
     have dw:=tI dr
     dsimp only [inR,dnR,rwD]
     decreasing_tactic
     refine ifF rfl ⟨ws,rfl,dw,?_⟩
     decreasing_tactic
     rw [aS]
     refine ifF (by decide) ⟨pI (by unfold Bd;decide),?_⟩
     rw [Int.natCast_add,Int.mul_one]
     exact ⟨rfl,_,_,rfl⟩
    | ev ws =>
     have dw:=tG dr
     dsimp only [inR,dnR,rwD]
     decreasing_tactic
     refine ifF rfl ⟨ws,rfl,dw,?_⟩
     decreasing_tactic
     rw [aS]
     refine ifF (by decide) ⟨pI (by unfold Bd;decide),?_⟩
     rw [Int.natCast_add,Int.mul_one]
     exact ⟨rfl,_,_,rfl⟩
   ·rintro ρ M' ⟨rfl,o1,o2,rfl⟩
    rw [cH,List.take_length]
    exact dN q
 exact all 8
noncomputable def kZ (d:Nat):DSp:=fun ds M Q=>∃ rs,ds = [.tup (aT rs)]/\DpS d rs/\Q (.int (nmS rs)) M
noncomputable def sF (d:Nat):DSp:=fun ds M Q=>∃ r,ds = [rwD r]/\Dp d r/\Q (.int (nmR r)) M
noncomputable abbrev dF:Stmt:=top 51
theorem iF:aP ["row","rows"] ["row"] (aI dF):=⟨rfl,rfl,rfl,by decide +kernel,rfl,by decide +kernel,by decide +kernel⟩
theorem gL {d:Nat} (hF:bO K mg "how_many_numbers" dF ["row"]) (bF:Has P w K mg base 101 "rows_within" ["row"] dD) (dI:Has P w K mg base (110 + 2 * d) "numbers_of_rows" ["rows"] (kZ d)):Has P w K mg base (110 + 2 * d + 1) "how_many_numbers" ["row"] (sF d):=by
 refine Has.mkZ hF iF (fun ds M Q ⟨a,z,_⟩=>by rw [z];rfl) fun f cdv A outer s H ds M Q E hr h=>?_
 obtain ⟨r,rfl,dp,q⟩:=h
 refine ⟨_,(aE (aO (i:=1) iF.nd (aG bF hr (by omega) (aA (aB 0) aD)))
  (aE (bA (aR aC0 (aB 1) fL) (aF (aM aC)) aX)
  (aF (aM (aL cF aC (aG dI hr (by omega) (aA (aB 1) aD))))))),?_⟩
 decreasing_tactic
 refine ⟨r,rfl,?_⟩
 have q':=dN q
 cases r with
 | pl p =>
  dsimp only [inR]
  decreasing_tactic
  exact ifT rfl q'
 | ag n ws =>
  dsimp only [inR]
  decreasing_tactic
  exact ifF rfl ⟨ws,rfl,(qE dp).2,q'⟩
 | kp ws =>
  dsimp only [inR]
  decreasing_tactic
  exact ifF rfl ⟨ws,rfl,tI dp,q'⟩
 | ev ws =>
  dsimp only [inR]
  decreasing_tactic
  exact ifF rfl ⟨ws,rfl,tG dp,q'⟩
noncomputable abbrev eV:Stmt:=top 52
theorem jG:aP ["rows"] ["rows"] (aI eV):=⟨rfl,rfl,rfl,by decide +kernel,rfl,by decide +kernel,by decide +kernel⟩
theorem oJ (hF:bO K mg "numbers_of_rows" eV ["rows"]) (hF_how_many_numbers:bO K mg "how_many_numbers" dF ["row"]) (bF:Has P w K mg base 101 "rows_within" ["row"] dD) (aDW:mg "sum" = none):Has P w K mg base 126 "numbers_of_rows" ["rows"] (kZ 8):=by
 have all:∀ d,Has P w K mg base (110 + 2 * d) "numbers_of_rows" ["rows"] (kZ d):=fun d=>by
  induction d with
  | zero=>exact (Has.never hF jG 109).imp fun ds M Q ⟨rs,_,z,_⟩=>z
  | succ d ih =>
   have dB:=gL hF_how_many_numbers bF ih
   refine Has.mkZ (k:=110 + 2 * d + 1) hF jG (fun ds M Q ⟨a,z,_⟩=>by rw [z];rfl) fun f cdv A outer s H ds M Q E hr h=>?_
   obtain ⟨rs,rfl,dp,q⟩:=h
   refine ⟨_,(aF (aM (eN (aIs rfl) aDW (aA (aDb (⟨rfl,by decide +kernel,by decide +kernel,by decide +kernel,rfl,by decide +kernel⟩:qR ["rows"] (aI eV) ["row"] [none] _) rfl (aB 0) (fun _ _ _ _ _=>(aQ (i:=0) (show List.Nodup (["row"]:List Str) by decide +kernel))) (fun _ _ _ _ _=>(aG dB hr (by omega) (aA (aB 0) aD)))) aD)))),?_⟩
   decreasing_tactic
   refine ⟨by rw [cH];exact dp.1,fun i ys M'=>M' = M/\ys = ((rs.take i).map nmR).map D.int,⟨rfl,rfl⟩,fun i ys M' _ _ a e=>(by cases e),?_,?_⟩
   ·rintro i d1 ys M' hd ⟨rfl,rfl⟩
    obtain ⟨r,hr',rfl⟩:=fK hd
    decreasing_tactic
    refine ⟨r,rfl,dp.2 r (List.mem_of_getElem? hr'),rfl,?_⟩
    rw [dM hr']
    simp
   ·rintro ys M' hl ⟨rfl,rfl⟩ p hp
    refine ⟨rs.map nmR,?_,?_⟩
    ·rw [aJ,cH,List.take_length]
    ·rw [<- aCr]
     exact ⟨_,bG.new hp _,q⟩
 exact all 8
theorem mR (hF:bO K mg "how_many_numbers" dF ["row"]) (bF:Has P w K mg base 101 "rows_within" ["row"] dD) (dI:Has P w K mg base 126 "numbers_of_rows" ["rows"] (kZ 8)):Has P w K mg base 127 "how_many_numbers" ["row"] (sF 8):=by
 exact gL (d:=8) hF bF dI
noncomputable def sW:DSp:=fun ds M Q=>∃ l,ds = [lgD l]/\aAb l/\lgB 4000 l/\Q (pcD (pcL l)) M
noncomputable abbrev oW:Stmt:=top 48
theorem aA3:aP ["leg"] ["leg"] (aI oW):=⟨rfl,rfl,rfl,by decide +kernel,rfl,by decide +kernel,by decide +kernel⟩
theorem aAB (hF:bO K mg "piece_of" oW ["leg"]) (sM:Has P w K mg base 103 "stretch" ["p","q"] wA) (aCA:Has P w K mg base 104 "arc" ["c","p","q"] aFF):Has P w K mg base 105 "piece_of" ["leg"] sW:=by
 refine Has.mkZ hF aA3 (fun ds M Q ⟨a,z,_⟩=>by rw [z];rfl) fun f cdv A outer s H ds M Q E hr h=>?_
 obtain ⟨l,rfl,ok,b,q⟩:=h
 refine ⟨_,(aE (bA (aR (cL hr) (aH (aB 0) aC) aN) (aF (aM (aG sM hr (by decide) (aA (aH (aB 0) aC) (aA (aH (aB 0) aC) aD))))) aX)
  (aE (bA (aR (cL hr) (aH (aB 0) aC) aC) (aF (aM (aG aCA hr (by decide) (aA (aH (aB 0) aC) (aA (aH (aB 0) aC) (aA (aH (aB 0) aC) aD)))))) aX)
  (aF (aM (aG aCA hr (by decide) (aA (aH (aB 0) aC) (aA (aH (aB 0) aC) (aA (aH (aB 0) aC) aD)))))))),?_⟩
 have q':=dN q
 cases l with
 | st x y u v =>
  dsimp only [lgD]
  decreasing_tactic
  rw [aS]
  refine ifT (by decide) ?_
  exact ⟨x,y,u,v,rfl,b.1.mono (by decide),b.2.1.mono (by decide),b.2.2.1.mono (by decide),b.2.2.2.mono (by decide),q'⟩
 | bd a c d e g i wy =>
  obtain ⟨b1,b2,b3,b4,b5,b6,_⟩:=b
  dsimp only [lgD]
  decreasing_tactic
  rw [aS]
  refine ifF (by decide) ?_
  rw [fM]
  dsimp only [pcL] at q'
  refine dif (fun c1=>?_) fun c1=>?_
  ·rw [if_pos c1] at q'
   exact ⟨_,_,_,_,_,_,rfl,ok.1,ok.2.1,ok.2.2,b1,b2,b3,b4,b5,b6,q'⟩
  ·rw [if_neg c1] at q'
   exact ⟨_,_,_,_,_,_,rfl,ok.2.1,ok.1,ok.2.2.symm,b1,b2,b5,b6,b3,b4,q'⟩
noncomputable def aKB (s:Rat):Lg->Prop
 | .st x y u v=>wG s x y/\wG s u v
 | .bd a b c d e f w=>wG s a b/\wG s c d/\wG s e f/\(w = 1 ∨ w = -1)
noncomputable def pV:DSp:=fun ds M Q=>∃ f l,ds = [FmD f,lgD l]/\f.Good 4000/\aKB f.s l/\Q (lgD (ldL f l)) M
theorem ldC {px py s x y:Rat} {t h:Int} {M:DM} {Q:DQ} (g:iH px py t h s 4000) (l:wG s x y) (q:Q (PQ (ldX px t h s x y) (ldY py t h s x y)) M):wW [FR px py t h s,PQ x y] M Q:=⟨_,_,_,_,_,_,_,rfl,g.mono (by decide),l.up,q⟩
noncomputable abbrev oC:Stmt:=top 49
theorem lV:aP ["frame","leg","c","p","q"] ["frame","leg"] (aI oC):=⟨rfl,rfl,rfl,by decide +kernel,rfl,by decide +kernel,by decide +kernel⟩
theorem aA9 (hF:bO K mg "led_leg" oC ["frame","leg"]) (nM:Has P w K mg base 105 "led" ["frame","p"] wW):Has P w K mg base 106 "led_leg" ["frame","leg"] pV:=by
 refine Has.mkZ hF lV (fun ds M Q ⟨a,b,z,_⟩=>by rw [z];rfl) fun f cdv A outer s H ds M Q E hr h=>?_
 obtain ⟨f,l,rfl,g,b,q⟩:=h
 refine ⟨_,(aE (bA (aR (cL hr) (aH (aB 1) aC) aN) (aF (aM (aK (aA aN (aA (aG nM hr (by decide) (aA (aB 0) (aA (aH (aB 1) aC) aD))) (aA (aG nM hr (by decide) (aA (aB 0) (aA (aH (aB 1) aC) aD))) aD)))))) aX)
  (aE (eT (aDb (⟨rfl,by decide +kernel,by decide +kernel,by decide +kernel,rfl,by decide +kernel⟩:qR ["frame","leg","c","p","q"] (aI oC) ["point","frame"] [none,some 0] _) rfl (oU (aB 1) (iW aC) (iW aC)) (fun _ _ _ _ _=>(aQ (i:=0) (show List.Nodup (["point","frame"]:List Str) by decide +kernel))) (fun _ _ _ _ _=>(aG nM hr (by decide) (aA (aB 1) (aA (aB 0) aD))))) (eH (n:=3) rfl (aV (aQ (i:=2) lV.nd) (aV (aQ (i:=3) lV.nd) (aV (aQ (i:=4) lV.nd) dG)))))
  (aF (aM (aK (aA aN (aA (aB 2) (aA (aB 3) (aA (aB 4) (aA (aL bE (aH (aB 1) aC) (aH (aB 0) aC)) aD)))))))))),?_⟩
 have q':=dN q
 cases l with
 | st x y u v =>
  dsimp only [lgD]
  decreasing_tactic
  rw [aS]
  refine ifT (by decide) ?_
  refine ldC g b.1 ?_
  decreasing_tactic
  refine ldC g b.2 ?_
  decreasing_tactic
  exact ⟨by decide,q'⟩
 | bd a c d e i j wy =>
  obtain ⟨b1,b3,b5,b7⟩:=b
  dsimp only [lgD]
  decreasing_tactic
  rw [aS]
  refine ifF (by decide) ?_
  rw [show Dd.cutD [D.str "bend",PQ a c,PQ d e,PQ i j,.int wy] (some 1) (some 4) = [PQ a c,PQ d e,PQ i j] from rfl]
  refine aJG (by show 3<=1000;decide) ?_
  decreasing_tactic
  refine ldC g b1 ?_
  decreasing_tactic
  refine ldC g b3 ?_
  decreasing_tactic
  refine ldC g b5 ?_
  decreasing_tactic
  intro p hp
  refine ⟨_,aJ,rfl,iD (qL b7),by decide,?_⟩
  exact ⟨M,bG.new hp _,q⟩
noncomputable def SfA (f:Fm) (p:Pl):Prop:=f.Good 4000/\plB 400 p/\(∀ l,kG p = some l->aKB f.s l/\lgB 4000 (ldL f l))/\wG f.s (dJ p).px (dJ p).py
noncomputable def SeA (f g:Fm):Prop:=f.Good 4400/\g.Good 4400/\LdB 4400 (1 / f.s) f.px f.py/\(unF f).Good 4400/\LdB 4400 g.s (unF f).px (unF f).py
theorem xG {p:Pl} (h:plB 400 p):(dJ p).Good 1000:=by
 have z:=bqz.mono (show 1<=1000 by decide)
 have o:=bq1.mono (show 1<=1000 by decide)
 have p1:(0:Rat) < 1:=by decide
 have m {x:Rat} (h:BQ 400 x):BQ 1000 x:=h.mono (by decide)
 cases p with
 | go a=>exact ⟨m h,z,(by show (0:Int)<=0;decide),(by show (0:Int) < 4;decide),.inl rfl,p1,o⟩
 | side a b=>exact ⟨m h.1,m h.2,(by show (0:Int)<=0;decide),(by show (0:Int) < 4;decide),.inl rfl,p1,o⟩
 | skip a=>exact ⟨m h,z,(by show (0:Int)<=0;decide),(by show (0:Int) < 4;decide),.inl rfl,p1,o⟩
 | dot=>exact ⟨z,z,by decide,by decide,.inl rfl,p1,o⟩
 | left=>exact ⟨z,z,by decide,by decide,.inl rfl,p1,o⟩
 | right=>exact ⟨z,z,by decide,by decide,.inl rfl,p1,o⟩
 | rnd=>exact ⟨z,z,by decide,by decide,.inl rfl,p1,o⟩
 | mirror=>exact ⟨z,z,by decide,by decide,.inr rfl,p1,o⟩
 | grow a=>exact ⟨z,z,(by show (0:Int)<=0;decide),(by show (0:Int) < 4;decide),.inl rfl,h.2,m h.1⟩
 | quarter a =>
  dsimp only [dJ]
  by_cases c:0 < a
  ·rw [if_pos c];exact ⟨m h.1,m h.1,(by show (0:Int)<=1;decide),(by show (1:Int) < 4;decide),.inl rfl,p1,o⟩
  ·rw [if_neg c];exact ⟨m h.1.neg,m h.1,(by show (0:Int)<=3;decide),(by show (3:Int) < 4;decide),.inl rfl,p1,o⟩
 | half a=>exact ⟨z,(h.1.add h.1).mono (by decide),(by show (0:Int)<=2;decide),(by show (2:Int) < 4;decide),.inl rfl,p1,o⟩
 | arc a b c d=>exact ⟨m h.2.2.1,m h.2.2.2.1,(by show (0:Int)<=0;decide),(by show (0:Int) < 4;decide),.inl rfl,p1,o⟩
theorem aDX {p:Pl} (h:plB 400 p):plB 900 p:=by
 have m {x:Rat} (h:BQ 400 x):BQ 900 x:=h.mono (by decide)
 cases p with
 | go a=>exact m h
 | side a b=>exact ⟨m h.1,m h.2⟩
 | skip a=>exact m h
 | grow a=>exact ⟨m h.1,h.2⟩
 | quarter a=>exact ⟨m h.1,h.2⟩
 | half a=>exact ⟨m h.1,h.2⟩
 | arc a b c d=>exact ⟨m h.1,m h.2.1,m h.2.2.1,m h.2.2.2.1,h.2.2.2.2⟩
 | _=>trivial
theorem aJy {d:D} {r:List D}:atI (d :: r) 0 = some d:=by
 unfold atI ixN
 rw [if_pos (by decide),if_pos (by rw [List.length_cons];omega)]
 rfl
noncomputable def gD (d:Nat):DSp:=fun ds M Q=>∃ rs a f rd ps pe L Es,ds = [.tup (aT rs),.int a,FmD f,.tup (rd.map D.int),.tup [.ref ps,.ref pe]]/\DpS d rs/\sfS SfA SeA rs f/\rd.length + d<=900/\ps ≠ pe/\M ps = some L/\M pe = some Es /\
 L.length + dnS rs<=1000/\Es.length + evS rs<=1000/\∀ M',iG M M' ps pe L Es (lgS rs a f rd) (edS rs a f rd)->Q (FmD (enS rs f)) M'
noncomputable def aBB (d:Nat):DSp:=fun ds M Q=>∃ r a f rd ps pe L Es,ds = [rwD r,.int a,FmD f,.tup (rd.map D.int),.tup [.ref ps,.ref pe]]/\Dp d r/\sfR SfA SeA r f/\rd.length + d + 1<=900/\ps ≠ pe/\M ps = some L/\M pe = some Es /\
 L.length + dnR r<=1000/\Es.length + evR r<=1000/\∀ M',iG M M' ps pe L Es (lgR r a f rd) (edR r a f rd)->Q (FmD (enR r f)) M'
theorem aLz {f g:Fm} {M:DM} {Q:DQ} (h1:f.Good 4000) (h2:g.Good 4000) (l:wG f.s g.px g.py) (q:Q (FmD (f.comp g)) M):kH [FmD f,FmD g] M Q:=⟨_,_,_,_,_,_,_,_,_,_,rfl,iH.mono h1 (by decide),iH.mono h2 (by decide),l.up,q⟩
theorem aLU {f g:Fm} {M:DM} {Q:DQ} (h1:f.Good 4400) (h2:g.Good 4400) (l:LdB 4400 f.s g.px g.py) (q:Q (FmD (f.comp g)) M):kH [FmD f,FmD g] M Q:=⟨_,_,_,_,_,_,_,_,_,_,rfl,h1,h2,l,q⟩
theorem aLI {f:Fm} {M:DM} {Q:DQ} (h1:f.Good 4400) (l:LdB 4400 (1 / f.s) f.px f.py) (q:Q (FmD (unF f)) M):oB [FmD f] M Q:=⟨_,_,_,_,_,rfl,h1,l,q⟩
noncomputable abbrev lF:Stmt:=top 65
theorem eE:aP ["row","at","frame","rounds","sheet","pen","n","legs","stop","leg","step"] ["row","at","frame","rounds","sheet"] (aI lF):=⟨rfl,rfl,rfl,by decide +kernel,rfl,by decide +kernel,by decide +kernel⟩
theorem xQ {d:Nat} (hF:bO K mg "draw_row" lF ["row","at","frame","rounds","sheet"]) (cZ:Has P w K mg base (130 + 2 * d) "draw_rows" ["rows","number","frame","rounds","sheet"] (gD d)) (eR:mg "range" = none) (kO:Has P w K mg base 106 "behind" ["one","other"] kH) (mL:Has P w K mg base 106 "undone" ["frame"] oB) (kJ:Has P w K mg base 104 "deed_of" ["row"] lK) (kM:Has P w K mg base 106 "led_leg" ["frame","leg"] pV):Has P w K mg base (130 + 2 * d + 1) "draw_row" ["row","at","frame","rounds","sheet"] (aBB d):=by
 refine Has.mkZ hF eE (fun ds M Q ⟨_,_,_,_,_,_,_,_,z,_⟩=>by rw [z];rfl) fun f cdv A outer s H ds M Q E hr h=>?_
 obtain ⟨r,a,f,rd,ps,pe,L,Es,rfl,dp,sf,hrd,nse,hs,he,lL,lE,q⟩:=h
 refine ⟨_,(aE (bA (aR (cL hr) (aH (aB 0) aC) aN) (aE (aO (i:=5) eE.nd (aB 2))
  (aE (qX PassesOwn.never rfl eR (aA (aH (aB 0) aC) aD) (aQ (i:=6) eE.nd) (aF (aO (i:=5) eE.nd (aG cZ hr (by omega) (aA (aH (aB 0) aC) (aA (aL cF (aB 1) aC) (aA (aB 5) (aA (aL tV (aB 3) (aK (aA (aB 6) aD))) (aA (aB 4) aD)))))))))
  (aF (aM (aB 5))))) aX)
  (aE (bA (aR (cL hr) (aH (aB 0) aC) aN) (aE (cX (aG cZ hr (by omega) (aA (aH (aB 0) aC) (aA (aL cF (aB 1) aC) (aA (aB 2) (aA (aB 3) (aA (aB 4) aD)))))))
  (aF (aM (aB 2)))) aX)
  (aE (bA (aR (cL hr) (aH (aB 0) aC) aN) (aE (aO (i:=7) eE.nd (bN aD))
  (aE (aO (i:=8) eE.nd (aG cZ hr (by omega) (aA (aH (aB 0) aC) (aA (aL cF (aB 1) aC) (aA (aB 2) (aA (aK aD) (aA (aK (aA (aB 7) (aA (bN aD) aD))) aD)))))))
  (aE (cX (fR (aH (aB 4) aC) (aK (aA (aG kO hr (by omega) (aA (aB 8) (aA (aG mL hr (by omega) (aA (aB 2) aD)) aD))) (aA (aB 1) (aA (aB 3) (aA (aB 7) aD)))))))
  (aF (aM (aB 2)))))) aX)
  (aE (eT (aG kJ hr (by omega) (aA (aB 0) aD)) (eH (n:=2) rfl (aV (aQ (i:=9) eE.nd) (aV (aQ (i:=10) eE.nd) dG))))
  (aE (bA (aR aFd (aB 9) fL) (aF (cX (fR (aH (aB 4) aC) (aK (aA (aG kM hr (by omega) (aA (aB 2) (aA (aB 9) aD))) (aA (aB 1) (aA (aB 3) aD))))))) aX)
  (aF (aM (aG kO hr (by omega) (aA (aB 2) (aA (aB 10) aD)))))))))),?_⟩
 cases r with
 | pl p =>
  obtain ⟨gf,pb,lgk,ldk⟩:=sf
  have sgd:(dJ p).Good 4000:=iH.mono (xG pb) (by decide)
  have fin:∀ M',iG M M' ps pe L Es (lgR (.pl p) a f rd) []->Dn Q (FmD (f.comp (dJ p))) M':=fun M' h=>dN (q M' h)
  have hd:∃ w cE,plD p = .tup (.str w :: cE)/\w ≠ "again"/\w ≠ "keep"/\w ≠ "ever":=by
   cases p<;>exact ⟨_,_,rfl,by decide,by decide,by decide⟩
  have hdeed:∀ Q',Q' (.tup [lgO (kG p),FmD (dJ p)]) M->lK [plD p] M Q':=fun Q' q'=>⟨p,rfl,trivial,aDX pb,q'⟩
  dsimp only [rwD]
  generalize plD p = pd at hd hdeed
  obtain ⟨w0,cE,rfl,w1,w2,w3⟩:=hd
  decreasing_tactic
  try rw [aJy]
  decreasing_tactic
  rw [aS]
  refine ifF (decide_eq_false w1) ?_
  decreasing_tactic
  try rw [aJy]
  decreasing_tactic
  rw [aS]
  refine ifF (decide_eq_false w2) ?_
  decreasing_tactic
  try rw [aJy]
  decreasing_tactic
  rw [aS]
  refine ifF (decide_eq_false w3) ?_
  decreasing_tactic
  refine hdeed _ ?_
  decreasing_tactic
  refine ⟨rfl,?_⟩
  cases e:kG p with
  | none =>
   dsimp only [lgO]
   refine ifF rfl (aLz gf sgd ldk ?_)
   refine fin M ?_
   rw [lgR,e]
   exact .refl hs he
  | some l =>
   have lb:=(lgk l e).1
   dsimp only [lgO]
   obtain ⟨lx,hlx⟩:∃ xs,lgD l = .tup xs:=by cases l<;>exact ⟨_,rfl⟩
   rw [hlx]
   refine ifT rfl ⟨⟨L,hs⟩,?_⟩
   rw [<- hlx]
   refine ⟨f,l,rfl,gf,lb,?_⟩
   decreasing_tactic
   refine ⟨by decide,L,_,rfl,hs,?_,?_⟩
   ·rw [dnR] at lL;omega
   refine aLz gf sgd ldk (fin _ ?_)
   rw [lgR,e]
   exact ⟨aJ,⟨[],by rw [cS (Ne.symm nse),List.append_nil];exact he,.nil⟩,fun k n1 n2 o h=>by rw [gH n1];exact h⟩
 | ag n ws =>
  obtain ⟨hn,dw⟩:=qE dp
  dsimp only [rwD]
  decreasing_tactic
  rw [aS]
  refine ifT (by decide) ⟨⟨by omega,by omega⟩,?_⟩
  rw [Int.toNat_natCast]
  rw [dnR] at lL
  rw [evR] at lE
  refine ⟨fun i ρ M'=>i<=n/\iG M M' ps pe L Es ((List.range i).flatMap fun i=>lgS ws (a + 1) (Nat.repeat (enS ws) i f) (rd ++ [(i:Int)])) ((List.range i).flatMap fun i=>edS ws (a + 1) (Nat.repeat (enS ws) i f) (rd ++ [(i:Int)])) /\
   ∃ o1 o2 o3 o4 o5,ρ = [some (.tup [.str "again",.int (n:Int),.tup (aT ws)]),some (.int a),some (FmD f),some (.tup (rd.map D.int)),some (.tup [.ref ps,.ref pe]),some (FmD (Nat.repeat (enS ws) i f)),o1,o2,o3,o4,o5],⟨Nat.zero_le _,.refl hs he,_,_,_,_,_,rfl⟩,?_,?_⟩
  ·rintro i ρ M1 hi ⟨_,af,o1,o2,o3,o4,o5,rfl⟩
   decreasing_tactic
   rw [Int.zero_add]
   refine ⟨by decide,by rw [List.length_map];show rd.length + 1<=1000;omega,?_⟩
   obtain ⟨Es1,e1,l1⟩:=af.le
   have g1:=aC3 (.ag i ws) a f rd
   have g2:=aCM (.ag i ws) a f rd
   rw [lgR,dnR] at g1
   rw [edR,evR] at g2
   have m1:dnS ws * (i + 1)<=dnS ws * n:=Nat.mul_le_mul_left _ hi
   have m2:evS ws * (i + 1)<=evS ws * n:=Nat.mul_le_mul_left _ hi
   rw [Nat.mul_succ] at m1 m2
   refine ⟨ws,a + 1,Nat.repeat (enS ws) i f,rd ++ [(i:Int)],ps,pe,_,Es1,by rw [List.map_append];rfl,dw,sf i hi,by rw [List.length_append];show rd.length + 1 + d<=900;omega,nse,af.s,e1,by rw [List.length_append,List.length_map];omega,by omega,fun M2 h2=>⟨hi,?_,_,_,_,_,_,rfl⟩⟩
   rw [List.range_succ,List.flatMap_append,List.flatMap_append]
   simp only [List.flatMap_cons,List.flatMap_nil,List.append_nil]
   exact iG.trans hs he af e1 h2
  ·rintro ρ M1 ⟨_,af,o1,o2,o3,o4,o5,rfl⟩
   exact dN (q M1 af)
 | kp ws =>
  have q':∀ M',iG M M' ps pe L Es (lgS ws (a + 1) f rd) (edS ws (a + 1) f rd)->Dn Q (FmD f) M':=fun M' h=>dN (q M' h)
  dsimp only [rwD]
  decreasing_tactic
  rw [aS]
  refine ifF (by decide) ?_
  decreasing_tactic
  rw [aS]
  refine ifT (by decide) ?_
  exact ⟨ws,a + 1,f,rd,ps,pe,L,Es,rfl,tI dp,sf,by omega,nse,hs,he,lL,lE,q'⟩
 | ev ws =>
  have dw:=tG dp
  obtain ⟨sw,se⟩:=sf
  dsimp only [rwD]
  decreasing_tactic
  rw [aS]
  refine ifF (by decide) ?_
  decreasing_tactic
  rw [aS]
  refine ifF (by decide) ?_
  decreasing_tactic
  rw [aS]
  refine ifT (by decide) ?_
  decreasing_tactic
  rw [dnR] at lL
  rw [evR] at lE
  refine ⟨by decide,fun p hp=>⟨by decide,by decide,fun p1 hp1=>⟨by decide,?_⟩⟩⟩
  have np:p ≠ p1:=Ne.symm (kN hp1).1
  have hp1':M p1 = none:=(kN hp1).2
  have e1:bI (bI M p []) p1 [] p = some []:=by rw [cS np];exact aJ
  refine ⟨ws,a + 1,f,[],p,p1,[],[],rfl,dw,sw,by show 0 + d<=900;omega,np,e1,aJ,by show 0 + _<=1000;omega,by show 0 + _<=1000;omega,fun M1 h1=>?_⟩
  have old:∀ (k:AK) o,M k = some o->M1 k = some o:=fun k o hk=>by
   have n1:k ≠ .l p:=fY hk hp
   have n2:k ≠ .l p1:=fY hk hp1'
   exact h1.o k n1 n2 o (by rw [gH n2,gH n1];exact hk)
  have he1:=old _ _ he
  refine ⟨⟨_,he1⟩,aLI se.1 se.2.2.1 (aLU se.2.1 se.2.2.2.1 se.2.2.2.2 ⟨by decide,Es,_,rfl,he1,by omega,?_⟩)⟩
  have npe:p ≠ pe:=Ne.symm (eD he hp)
  refine dN (q _ ⟨?_,⟨[_],aJ,.cons ⟨p,rfl,hp,?_⟩ .nil⟩,fun k n1 n2 o hk=>by rw [gH n2];exact old k o hk⟩)
  ·rw [cS nse,lgR,List.map_nil,List.append_nil]
   exact old _ _ hs
  ·rw [cS npe]
   exact h1.s
noncomputable abbrev mX:Stmt:=top 64
theorem eG:aP ["rows","number","frame","rounds","sheet","at","pen","row"] ["rows","number","frame","rounds","sheet"] (aI mX):=⟨rfl,rfl,rfl,by decide +kernel,rfl,by decide +kernel,by decide +kernel⟩
theorem xR (hF:bO K mg "draw_rows" mX ["rows","number","frame","rounds","sheet"]) (hF_draw_row:bO K mg "draw_row" lF ["row","at","frame","rounds","sheet"]) (eR:mg "range" = none) (kO:Has P w K mg base 106 "behind" ["one","other"] kH) (mL:Has P w K mg base 106 "undone" ["frame"] oB) (kJ:Has P w K mg base 104 "deed_of" ["row"] lK) (kM:Has P w K mg base 106 "led_leg" ["frame","leg"] pV) (dB:Has P w K mg base 127 "how_many_numbers" ["row"] (sF 8)):Has P w K mg base 146 "draw_rows" ["rows","number","frame","rounds","sheet"] (gD 8):=by
 have all:∀ d,d<=8->Has P w K mg base (130 + 2 * d) "draw_rows" ["rows","number","frame","rounds","sheet"] (gD d):=fun d=>by
  induction d with
  | zero=>exact fun _=>(Has.never hF eG 129).imp fun ds M Q ⟨_,_,_,_,_,_,_,_,_,z,_⟩=>z
  | succ d ih =>
   intro hd8
   have h_draw_row:=xQ hF_draw_row (ih (by omega)) eR kO mL kJ kM
   refine Has.mkZ (k:=130 + 2 * d + 1) hF eG (fun ds M Q ⟨_,_,_,_,_,_,_,_,z,_⟩=>by rw [z];rfl) fun f cdv A outer s H ds M Q E hr h=>?_
   obtain ⟨rs,a,f,rd,ps,pe,L,Es,rfl,dp,sf,hrd,nse,hs,he,lL,lE,q⟩:=h
   refine ⟨_,(aE (aO (i:=5) eG.nd (aB 1))
  (aE (aO (i:=6) eG.nd (aB 2))
  (aE (kK PassesOwn.never rfl (aB 0) (aQ (i:=7) eG.nd) (aE (aO (i:=6) eG.nd (aG h_draw_row hr (by omega) (aA (aB 7) (aA (aB 5) (aA (aB 6) (aA (aB 3) (aA (aB 4) aD)))))))
  (aF (kE (i:=5) vR eG.nd (aG dB hr (by omega) (aA (aB 7) aD))))))
  (aF (aM (aB 6)))))),?_⟩
   decreasing_tactic
   refine ⟨fun i ρ M'=>iG M M' ps pe L Es (lgS (rs.take i) a f rd) (edS (rs.take i) a f rd) /\
    ∃ o1,ρ = [some (.tup (aT rs)),some (.int a),some (FmD f),some (.tup (rd.map D.int)),some (.tup [.ref ps,.ref pe]),some (.int (a + nmS (rs.take i))),some (FmD (enS (rs.take i) f)),o1],⟨.refl hs he,_,by rw [List.take_zero,nmS,Int.add_zero,enS]⟩,fun i ρ M' _ _ a e=>(by cases e),?_,?_⟩
   ·rintro i d1 ρ M1 hd ⟨af,o1,rfl⟩
    obtain ⟨r,hr',rfl⟩:=fK hd
    have tk:=dM hr'
    have dr:=dp.2 r (List.mem_of_getElem? hr')
    have el:rs = rs.take i ++ r :: rs.drop (i + 1):=by
     have hl:=(List.getElem?_eq_some_iff.mp hr').1
     have e:rs[i] = r:=(List.getElem?_eq_some_iff.mp hr').2
     rw [<- e,List.getElem_cons_drop,List.take_append_drop]
    have sr:sfR SfA SeA r (enS (rs.take i) f):=by
     rw [el,aC9,sfS] at sf
     exact sf.2.1
    obtain ⟨Es1,e1,l1⟩:=af.le
    have g1:=jJ (rs.take i) a f rd
    have g2:=kS (rs.take i) a f rd
    have t1:dnS (rs.take i) + dnR r<=dnS rs:=by
     have:dnS rs = dnS (rs.take i ++ r :: rs.drop (i + 1)):=by rw [<- el]
     rw [this,fE,dnS];omega
    have t2:evS (rs.take i) + evR r<=evS rs:=by
     have:evS rs = evS (rs.take i ++ r :: rs.drop (i + 1)):=by rw [<- el]
     rw [this,uF,evS];omega
    decreasing_tactic
    refine ⟨r,_,_,rd,ps,pe,_,Es1,rfl,dr,sr,by omega,nse,af.s,e1,by rw [List.length_append,List.length_map];omega,by omega,fun M2 h2=>?_⟩
    decreasing_tactic
    refine ⟨r,rfl,iL dr (by omega),?_⟩
    rw [tk,tX,tW,aCD,uE,lgS,edS,lgS,edS,nmS,nmS,enS,enS,List.append_nil,List.append_nil,Int.add_zero,<- Int.add_assoc]
    exact ⟨iG.trans hs he af e1 h2,_,rfl⟩
   ·rintro ρ M1 ⟨af,o1,rfl⟩
    rw [cH,List.take_length] at af
    rw [cH,List.take_length]
    exact dN (q M1 af)
 exact all 8 (by decide)
theorem aD6 (x y u v:Rat):∀ n,((rq x y n).1 - (rq u v n).1) * ((rq x y n).1 - (rq u v n).1) + ((rq x y n).2 - (rq u v n).2) * ((rq x y n).2 - (rq u v n).2) = (x - u) * (x - u) + (y - v) * (y - v)
 | 0=>rfl
 | n + 1=>by
  have:=aD6 x y u v n
  show (-(rq x y n).2 - -(rq u v n).2) * (-(rq x y n).2 - -(rq u v n).2) + ((rq x y n).1 - (rq u v n).1) * ((rq x y n).1 - (rq u v n).1) = _
  grind
theorem aBU {f:Fm} (ok:f.Ok) (a b c d:Rat):dL (ldX f.px f.t f.h f.s a b) (ldY f.py f.t f.h f.s a b) (ldX f.px f.t f.h f.s c d) (ldY f.py f.t f.h f.s c d) = f.s * f.s * dL a b c d:=by
 have h1:=aD6 c ((f.h:Rat) * d) a ((f.h:Rat) * b) f.t.toNat
 unfold dL ldX ldY
 have hh:(f.h:Rat) * (f.h:Rat) = 1:=by
  rcases ok.2.2 with z | z<;>rw [z]
  ·rw [sU];grind
  ·rw [pM];grind
 generalize (rq c ((f.h:Rat) * d) f.t.toNat).1 = p1 at *
 generalize (rq c ((f.h:Rat) * d) f.t.toNat).2 = p2 at *
 generalize (rq a ((f.h:Rat) * b) f.t.toNat).1 = q1 at *
 generalize (rq a ((f.h:Rat) * b) f.t.toNat).2 = q2 at *
 have e2:((f.h:Rat) * d - (f.h:Rat) * b) * ((f.h:Rat) * d - (f.h:Rat) * b) = (d - b) * (d - b):=by
  have:((f.h:Rat) * d - (f.h:Rat) * b) * ((f.h:Rat) * d - (f.h:Rat) * b) = ((f.h:Rat) * (f.h:Rat)) * ((d - b) * (d - b)):=by grind
  rw [this,hh];grind
 rw [e2] at h1
 have e3:(p1 * f.s + f.px - (q1 * f.s + f.px)) * (p1 * f.s + f.px - (q1 * f.s + f.px)) + (p2 * f.s + f.py - (q2 * f.s + f.py)) * (p2 * f.s + f.py - (q2 * f.s + f.py)) = f.s * f.s * ((p1 - q1) * (p1 - q1) + (p2 - q2) * (p2 - q2)):=by grind
 rw [e3,h1]
theorem oE {a b c d:Rat}:dL a b c d = 0 ↔ a = c/\b = d:=by
 unfold dL
 constructor
 ·intro h
  have s1:∀ x:Rat,0<=x * x:=fun x=>by
   rcases (show 0<=x ∨ 0<=-x by grind) with z | z
   ·exact Rat.mul_nonneg z z
   ·have:=Rat.mul_nonneg z z;grind
  have h1:=s1 (c - a)
  have h2:=s1 (d - b)
  have e1:(c - a) * (c - a) = 0:=by grind
  have e2:(d - b) * (d - b) = 0:=by grind
  rcases Rat.mul_eq_zero.mp e1 with z | z<;>rcases Rat.mul_eq_zero.mp e2 with y | y<;>constructor<;>grind
 ·rintro ⟨rfl,rfl⟩;grind
theorem aHs {f:Fm} (ok:f.Ok) (s0:0 < f.s) {a b c d:Rat} (h:¬ (a = c/\b = d)):¬ (ldX f.px f.t f.h f.s a b = ldX f.px f.t f.h f.s c d/\ldY f.py f.t f.h f.s a b = ldY f.py f.t f.h f.s c d):=fun z=>by
 have h1:=oE.mpr z
 rw [aBU ok] at h1
 have ss:f.s * f.s ≠ 0:=by have:=Rat.mul_pos s0 s0;grind
 rcases Rat.mul_eq_zero.mp h1 with y | y
 ·exact ss y
 ·exact h (oE.mp y)
theorem aIQ {p:Pl} {l:Lg} {B:Nat} (h:plB B p) (e:kG p = some l):aAb l:=by
 cases p with
 | go a=>cases e;trivial
 | side a b=>cases e;trivial
 | dot=>cases e;trivial
 | quarter a =>
  have:=h.2
  dsimp only [kG] at e
  by_cases c:0 < a
  ·rw [if_pos c] at e;cases e;exact ⟨fun z=>this z.2,fun z=>this z.1.symm,by unfold dL;grind⟩
  ·rw [if_neg c] at e;cases e;exact ⟨fun z=>this z.2,fun z=>this (by grind),by unfold dL;grind⟩
 | half a =>
  have:=h.2
  cases e
  exact ⟨fun z=>this z.2,fun z=>this (by grind),by unfold dL;grind⟩
 | arc a b c d =>
  cases e
  exact h.2.2.2.2
 | _=>cases e
theorem aIF {f:Fm} {l:Lg} (g:f.Good 4000) (ok:aAb l):aAb (ldL f l):=by
 have s0:0 < f.s:=g.2.2.2.2.2.1
 cases l with
 | st x y u v=>trivial
 | bd a c d e i j w =>
  refine ⟨aHs g.ok s0 ok.1,aHs g.ok s0 ok.2.1,?_⟩
  rw [aBU g.ok,aBU g.ok,ok.2.2]
mutual
theorem aEk:∀ (r:Rw) (a:Int) (f:Fm) (rd:List Int),sfR SfA SeA r f->∀ x ∈ lgR r a f rd,aAb x.1/\lgB 4000 x.1
 | .pl p,a,f,rd,h,x,hx=>by
  rw [lgR] at hx
  cases e:kG p with
  | none=>rw [e] at hx;simp at hx
  | some l =>
   rw [e] at hx
   simp at hx
   subst hx
   exact ⟨aIF h.1 (aIQ h.2.1 e),(h.2.2.1 l e).2⟩
 | .ag n rs,a,f,rd,h,x,hx=>by
  rw [lgR] at hx
  obtain ⟨i,hi,hx⟩:=List.mem_flatMap.mp hx
  exact nP rs _ _ _ (h i (List.mem_range.mp hi)) x hx
 | .kp rs,a,f,rd,h,x,hx=>by
  rw [lgR] at hx
  exact nP rs _ _ _ h x hx
 | .ev rs,a,f,rd,h,x,hx=>by
  rw [lgR] at hx;cases hx
theorem nP:∀ (rs:List Rw) (a:Int) (f:Fm) (rd:List Int),sfS SfA SeA rs f->∀ x ∈ lgS rs a f rd,aAb x.1/\lgB 4000 x.1
 | [],a,f,rd,h,x,hx=>by rw [lgS] at hx;cases hx
 | r :: rs,a,f,rd,h,x,hx=>by
  rw [lgS] at hx
  rcases List.mem_append.mp hx with z | z
  ·exact aEk r _ _ _ h.1 x z
  ·exact nP rs _ _ _ h.2 x z
end
mutual
theorem aFk:∀ (r:Rw) (a:Int) (f:Fm) (rd:List Int),sfR SfA SeA r f->∀ e ∈ edR r a f rd,∀ x ∈ e.ls,aAb x.1/\lgB 4000 x.1
 | .pl p,a,f,rd,h,x,hx=>by rw [edR] at hx;cases hx
 | .ag n rs,a,f,rd,h,x,hx=>by
  rw [edR] at hx
  obtain ⟨i,hi,hx⟩:=List.mem_flatMap.mp hx
  exact qS rs _ _ _ (h i (List.mem_range.mp hi)) x hx
 | .kp rs,a,f,rd,h,x,hx=>by
  rw [edR] at hx
  exact qS rs _ _ _ h x hx
 | .ev rs,a,f,rd,h,x,hx=>by
  rw [edR] at hx
  rw [List.mem_singleton.mp hx]
  exact nP rs _ _ _ h.1
theorem qS:∀ (rs:List Rw) (a:Int) (f:Fm) (rd:List Int),sfS SfA SeA rs f->∀ e ∈ edS rs a f rd,∀ x ∈ e.ls,aAb x.1/\lgB 4000 x.1
 | [],a,f,rd,h,x,hx=>by rw [edS] at hx;cases hx
 | r :: rs,a,f,rd,h,x,hx=>by
  rw [edS] at hx
  rcases List.mem_append.mp hx with z | z
  ·exact aFk r _ _ _ h.1 x z
  ·exact qS rs _ _ _ h.2 x z
end
mutual
theorem aES:∀ (r:Rw) (a:Int) (f:Fm) (rd:List Int),∀ e ∈ edR r a f rd,e.ls.length<=dnR r
 | .pl p,a,f,rd,x,hx=>by rw [edR] at hx;cases hx
 | .ag n rs,a,f,rd,x,hx=>by
  rw [edR] at hx
  obtain ⟨i,hi,hx⟩:=List.mem_flatMap.mp hx
  have:=kL rs _ _ _ x hx
  have n0:1<=n:=by have:=List.mem_range.mp hi;omega
  rw [dnR]
  have:dnS rs * 1<=dnS rs * n:=Nat.mul_le_mul_left _ n0
  omega
 | .kp rs,a,f,rd,x,hx=>by
  rw [edR] at hx
  rw [dnR]
  exact kL rs _ _ _ x hx
 | .ev rs,a,f,rd,x,hx=>by
  rw [edR] at hx
  rw [List.mem_singleton.mp hx,dnR]
  exact jJ rs _ _ _
theorem kL:∀ (rs:List Rw) (a:Int) (f:Fm) (rd:List Int),∀ e ∈ edS rs a f rd,e.ls.length<=dnS rs
 | [],a,f,rd,x,hx=>by rw [edS] at hx;cases hx
 | r :: rs,a,f,rd,x,hx=>by
  rw [edS] at hx
  rw [dnS]
  rcases List.mem_append.mp hx with z | z
  ·have:=aES r _ _ _ x z;omega
  ·have:=kL rs _ _ _ x z;omega
end
noncomputable def prD (x:LR):D:=.tup [pcD (pcL x.1),.int x.2.1,.tup (x.2.2.map D.int)]
noncomputable def qC:DSp:=fun ds M Q=>∃ (p:Addr) (ls:List LR),ds = [.ref p]/\M p = some (ls.map lrD)/\ls.length<=1000/\(∀ x ∈ ls,aAb x.1/\lgB 4000 x.1)/\∀ p':Addr,M p' = none->Q (.ref p') (bI M p' (ls.map prD))
noncomputable abbrev jM:Stmt:=top 62
theorem aAp:aP ["rows"] ["rows"] (aI jM):=⟨rfl,rfl,rfl,by decide +kernel,rfl,by decide +kernel,by decide +kernel⟩
theorem yG (hF:bO K mg "pieces_of" jM ["rows"]) (pB:Has P w K mg base 105 "piece_of" ["leg"] sW):Has P w K mg base 106 "pieces_of" ["rows"] qC:=by
 refine Has.mkZ hF aAp (fun ds M Q ⟨_,_,z,_⟩=>by rw [z];rfl) fun f cdv A outer s H ds M Q E hr h=>?_
 obtain ⟨p,ls,rfl,hp,hl,ok,q⟩:=h
 refine ⟨_,(aF (aM (oF (⟨rfl,by decide +kernel,by decide +kernel,by decide +kernel,rfl,by decide +kernel⟩:qR ["rows"] (aI jM) ["leg","row","rounds"] [none,none,none] _) rfl (aB 0) (fun _ _ _ _ _=>(eH (n:=3) rfl (aV (aQ (i:=0) (show List.Nodup (["leg","row","rounds"]:List Str) by decide +kernel)) (aV (aQ (i:=1) (show List.Nodup (["leg","row","rounds"]:List Str) by decide +kernel)) (aV (aQ (i:=2) (show List.Nodup (["leg","row","rounds"]:List Str) by decide +kernel)) dG))))) (fun _ _ _ _ _=>(aK (aA (aG pB hr (by decide) (aA (aB 0) aD)) (aA (aB 1) (aA (aB 2) aD)))))))),?_⟩
 decreasing_tactic
 refine ⟨_,hp,by rw [List.length_map];exact hl,fun i ys M'=>M' = M/\ys = (ls.take i).map prD,⟨rfl,rfl⟩,fun i ys M' _ h a e=>by cases e;rw [h.1];exact hp,?_,?_⟩
 ·rintro i d ys M' hd ⟨rfl,rfl⟩
  rw [List.getElem?_map] at hd
  obtain ⟨x,hx,rfl⟩:=Option.map_eq_some_iff.mp hd
  have okx:=ok x (List.mem_of_getElem? hx)
  dsimp only [lrD]
  decreasing_tactic
  refine ⟨rfl,x.1,rfl,okx.1,okx.2,?_⟩
  decreasing_tactic
  refine ⟨by decide,rfl,?_⟩
  rw [dM hx,List.map_append]
  rfl
 ·rintro ys M' hy ⟨rfl,rfl⟩ p' hp'
  rw [List.length_map,List.take_length]
  exact dN (q p' hp')
noncomputable def EdQ (M:DM) (d:D) (e:Ed):Prop:=∃ q:Addr,d = .tup [FmD e.f,.int e.a,.tup (e.rd.map D.int),.ref q]/\M q = some (e.ls.map lrD)
noncomputable def vO (rs:List Rw):Prop:=DpS 8 rs/\sfS SfA SeA rs .one/\evS rs<=1000
noncomputable def oP:DSp:=fun ds M Q=>∃ rs,ds = [.tup (aT rs)]/\vO rs/\dnS rs<=300/\∀ (ps pe:Addr) Es M',M' ps = some ((lgS rs 0 .one []).map lrD)->M' pe = some Es->Paired (EdQ M') Es (edS rs 0 .one [])->bG M M'->Q (.tup [.ref ps,.ref pe]) M'
noncomputable abbrev iP:Stmt:=top 63
theorem eM:aP ["program","still","ends"] ["program"] (aI iP):=⟨rfl,rfl,rfl,by decide +kernel,rfl,by decide +kernel,by decide +kernel⟩
theorem wS (hF:bO K mg "gone_along" iP ["program"]) (fV:fP K mg "MOST_DONE" (.int 300)) (cK:Has P w K mg base 118 "how_many_done" ["rows"] (uC 8)) (iJ:Has P w K mg base 101 "first" [] qF) (cZ:Has P w K mg base 146 "draw_rows" ["rows","number","frame","rounds","sheet"] (gD 8)):Has P w K mg base 147 "gone_along" ["program"] oP:=by
 refine Has.mkZ hF eM (fun ds M Q ⟨_,z,_⟩=>by rw [z];rfl) fun f cdv A outer s H ds M Q E hr h=>?_
 obtain ⟨rs,rfl,⟨dp,sf,evs⟩,dn,q⟩:=h
 refine ⟨_,(aE (bA (aR iE (aG cK hr (by decide) (aA (aB 0) aD)) (bD fV)) (aF kP) aX)
  (aE (aO (i:=1) eM.nd (bN aD))
  (aE (aO (i:=2) eM.nd (bN aD))
  (aE (cX (aG cZ hr (by decide) (aA (aB 0) (aA aC (aA (pG iJ hr (by decide)) (aA (aK aD) (aA (aK (aA (aB 1) (aA (aB 2) aD))) aD)))))))
  (aF (aM (aK (aA (aB 1) (aA (aB 2) aD))))))))),?_⟩
 decreasing_tactic
 refine ⟨rs,rfl,dp,?_⟩
 decreasing_tactic
 refine ifF (decide_eq_false (by omega)) ⟨by decide,fun p hp=>⟨by decide,fun p1 hp1=>⟨rfl,?_⟩⟩⟩
 have np:p ≠ p1:=Ne.symm (kN hp1).1
 have hp1':M p1 = none:=(kN hp1).2
 decreasing_tactic
 refine ⟨by decide,by decide,rs,0,.one,[],p,p1,[],[],rfl,dp,sf,by decide,np,by rw [cS np];exact aJ,aJ,by show 0 + _<=1000;omega,by show 0 + _<=1000;omega,fun M1 h1=>⟨by decide,?_⟩⟩
 obtain ⟨Es',e1,pr⟩:=h1.e
 refine dN (q p p1 Es' M1 h1.s e1 (Paired.mapP pr fun d x ⟨a,z,_,y⟩=>⟨a,z,y⟩) fun k o hk=>?_)
 have n1:k ≠ .l p:=fY hk hp
 have n2:k ≠ .l p1:=fY hk hp1'
 exact h1.o k n1 n2 o (by rw [gH n2,gH n1];exact hk)
noncomputable def aKh:List D->Prop:=fun ds=>∃ rs,ds = [.tup (aT rs)]/\DpS 8 rs/\300 < dnS rs
theorem uS {C_TooMuch:Addr} (hF:bO K mg "gone_along" iP ["program"]) (fG:tP K mg "TooMuch" C_TooMuch) (fV:fP K mg "MOST_DONE" (.int 300)) (cK:Has P w K mg base 118 "how_many_done" ["rows"] (uC 8)) (iJ:Has P w K mg base 101 "first" [] qF) (cZ:Has P w K mg base 146 "draw_rows" ["rows","number","frame","rounds","sheet"] (gD 8)):aHQ P w K mg base 147 "gone_along" ["program"] C_TooMuch aKh:=by
 refine mO.mkZ hF fG eM (fun ds M ⟨_,z,_⟩=>by rw [z];rfl) fun f cdv A outer s H ds M E hr h hRO=>?_
 obtain ⟨rs,rfl,dp,dn⟩:=h
 refine ⟨_,(aE (bA (aR iE (aG cK hr (by decide) (aA (aB 0) aD)) (bD fV)) (aF (yN hRO (aA aN aD))) aX)
  (aE (aO (i:=1) eM.nd (bN aD))
  (aE (aO (i:=2) eM.nd (bN aD))
  (aE (cX (aG cZ hr (by decide) (aA (aB 0) (aA aC (aA (pG iJ hr (by decide)) (aA (aK aD) (aA (aK (aA (aB 1) (aA (aB 2) aD))) aD)))))))
  (aF (aM (aK (aA (aB 1) (aA (aB 2) aD))))))))),?_⟩
 decreasing_tactic
 refine ⟨rs,rfl,dp,?_⟩
 decreasing_tactic
 exact ifT (decide_eq_true (by omega)) ⟨by decide,.refl _⟩
noncomputable def EdN (M M':DM) (d:D) (e:Ed):Prop:=∃ q:Addr,d = .tup [FmD e.f,.int e.a,.tup (e.rd.map D.int),.ref q]/\M q = none/\M' q = some (e.ls.map prD)
noncomputable def rfD:D->Option Addr
 | .tup [_,_,_,.ref q]=>some q
 | _=>none
noncomputable def aLC (ys:List D):Prop:=∀ (i j:Nat) a b q,i < j->ys[i]? = some a->ys[j]? = some b->rfD a = some q->rfD b ≠ some q
noncomputable def sS:DSp:=fun ds M Q=>∃ rs,ds = [.tup (aT rs)]/\vO rs/\dnS rs<=300/\∀ (ps pe:Addr) Es M',M ps = none->M pe = none->ps ≠ pe->M' ps = some ((lgS rs 0 .one []).map prD)->M' pe = some Es->Paired (EdN M M') Es (edS rs 0 .one [])->aLC Es->(∀ d ∈ Es,rfD d ≠ some ps)->bG M M'->Q (.tup [.ref ps,.ref pe]) M'
theorem iU {α β:Type} {F:α->β->Prop}:∀ {l₁:List α} {l₂:List β} {i:Nat} {a:α},Paired F l₁ l₂->l₁[i]? = some a->∃ b,l₂[i]? = some b/\F a b
 | _,_,_,_,.nil,h=>by simp at h
 | _,_,0,_,.cons h₁ t,h=>by simp at h;subst h;exact ⟨_,rfl,h₁⟩
 | _,_,i + 1,a,.cons h₁ t,h=>by
  obtain ⟨b,e,r⟩:=iU (i:=i) (a:=a) t (by simpa using h)
  exact ⟨b,by simpa using e,r⟩
noncomputable abbrev uK:Stmt:=top 61
theorem vS:aP ["program","still","ends"] ["program"] (aI uK):=⟨rfl,rfl,rfl,by decide +kernel,rfl,by decide +kernel,by decide +kernel⟩
theorem aDm (hF:bO K mg "drawn" uK ["program"]) (kR:Has P w K mg base 147 "gone_along" ["program"] oP) (jN:Has P w K mg base 106 "pieces_of" ["rows"] qC):Has P w K mg base 148 "drawn" ["program"] sS:=by
 refine Has.mkZ hF vS (fun ds M Q ⟨_,z,_⟩=>by rw [z];rfl) fun f cdv A outer s H ds M Q E hr h=>?_
 obtain ⟨rs,rfl,ok,dn,q⟩:=h
 refine ⟨_,(aE (eT (aG kR hr (by decide) (aA (aB 0) aD)) (eH (n:=2) rfl (aV (aQ (i:=1) vS.nd) (aV (aQ (i:=2) vS.nd) dG))))
  (aF (aM (aK (aA (aG jN hr (by decide) (aA (aB 1) aD)) (aA (oF (⟨rfl,by decide +kernel,by decide +kernel,by decide +kernel,rfl,by decide +kernel⟩:qR ["program","still","ends"] (aI uK) ["end"] [none] _) rfl (aB 2) (fun _ _ _ _ _=>(aQ (i:=0) (show List.Nodup (["end"]:List Str) by decide +kernel))) (fun _ _ _ _ _=>(aL tV (oU (aB 0) wD (iW aC)) (aK (aA (aG jN hr (by decide) (aA (aH (aB 0) aC) aD)) aD))))) aD)))))),?_⟩
 decreasing_tactic
 refine ⟨rs,rfl,ok,dn,fun ps pe Es M1 h1 h2 pr sub=>?_⟩
 decreasing_tactic
 have ll:=jJ rs 0 .one []
 refine ⟨rfl,ps,_,rfl,h1,by omega,nP rs 0 .one [] ok.2.1,fun p hp=>?_⟩
 decreasing_tactic
 have pl:=pr.length
 have el:=kS rs 0 .one []
 have evl:=ok.2.2
 have npe:pe ≠ p:=eD h2 hp
 refine ⟨Es,by rw [cS npe];exact h2,by omega,fun i ys M'=>bG (bI M1 p ((lgS rs 0 .one []).map prD)) M'/\Paired (EdN M M') ys ((edS rs 0 .one []).take i)/\aLC ys/\∀ d ∈ ys,rfD d ≠ some p,⟨.refl _,.nil,(fun i j a b q _ h=>by simp at h),fun d h=>nomatch h⟩,fun i ys M' _ h a e=>by cases e;exact h.1 _ _ (by rw [cS npe];exact h2),?_,?_⟩
 ·rintro i d ys M' hd ⟨sb,pys,dis,nps⟩
  obtain ⟨e,he,a,rfl,ha⟩:=iU pr hd
  have me:=List.mem_of_getElem? he
  have na:a ≠ p:=eD ha hp
  have ha':M' a = some (e.ls.map lrD):=sb _ _ (by rw [cS na];exact ha)
  decreasing_tactic
  have lle:=kL rs 0 .one [] e me
  refine ⟨a,e.ls,rfl,ha',by omega,qS rs 0 .one [] ok.2.1 e me,fun p' hp'=>?_⟩
  decreasing_tactic
  refine ⟨by decide,by show 3 + 1<=1000;decide,?_⟩
  have s2:bG M' (bI M' p' (e.ls.map prD)):=bG.new hp' _
  have hps:M' p = some ((lgS rs 0 .one []).map prD):=sb _ _ aJ
  refine ⟨sb.trans s2,?_,(fun i j a b q l h1 h2 h3 h4=>?_),fun d hd=>?_⟩
  rotate_left
  ·rcases mT h2 with z | ⟨rfl,rfl⟩
   ·have hi:=(List.getElem?_eq_some_iff.mp z).1
    rw [List.getElem?_append_left (by omega)] at h1
    exact dis i j a b q l h1 z h3 h4
   ·rw [List.getElem?_append_left l] at h1
    obtain ⟨e2,_,b2,rfl,_,v2⟩:=iU pys h1
    cases h3
    cases h4
    rw [hp'] at v2;cases v2
  ·rcases List.mem_append.mp hd with z | z
   ·exact nps d z
   ·rw [List.mem_singleton.mp z]
    intro y
    cases y
    rw [hp'] at hps;cases hps
  rw [dM he]
  have f1:M p' = none:=by
   cases c:M p' with
   | none=>rfl
   | some o =>
    have k:=sub _ _ c
    rw [sb _ _ (by rw [cS (eD k hp)];exact k)] at hp';cases hp'
  exact Paired.snoc (Paired.mapP pys fun d x ⟨b,z,v,y⟩=>⟨b,z,v,s2 _ _ y⟩) ⟨p',rfl,f1,aJ⟩
 ·rintro ys M' hy ⟨sb,pys,dis,nps⟩ p2 hp2
  rw [pl,List.take_length] at pys
  have hs:M' p = some ((lgS rs 0 .one []).map prD):=sb _ _ aJ
  have s2:bG M' (bI M' p2 ys):=bG.new hp2 _
  have subp:bG M M':=fun k o hk=>sb k o (by
   have:=sub k o hk
   rw [gH (fY this hp)];exact this)
  have np2:p ≠ p2:=eD hs hp2
  have f1:M p = none:=by
   cases c:M p with
   | none=>rfl
   | some o=>rw [sub _ _ c] at hp;cases hp
  have f2:M p2 = none:=by
   cases c:M p2 with
   | none=>rfl
   | some o=>rw [subp _ _ c] at hp2;cases hp2
  exact ⟨by decide,dN (q p p2 ys _ f1 f2 np2 (s2 _ _ hs) aJ (Paired.mapP pys fun d x ⟨b,z,v,y⟩=>⟨b,z,v,s2 _ _ y⟩) dis nps (subp.trans s2))⟩
theorem aCp {f:Fm}:ldX f.px f.t f.h f.s 0 0 = f.px/\ldY f.py f.t f.h f.s 0 0 = f.py:=by
 have r0:∀ n,rq 0 ((f.h:Rat) * 0) n = (0,0):=fun n=>by
  induction n with
  | zero=>rw [rq0];grind
  | succ n ih =>
   show (-(rq 0 ((f.h:Rat) * 0) n).2,(rq 0 ((f.h:Rat) * 0) n).1) = _
   rw [ih]
   exact Prod.ext (by grind) rfl
 unfold ldX ldY
 rw [r0]
 constructor<;>grind
noncomputable def Dv (D:Nat) (x:Rat):Prop:=∃ z:Int,x * (D:Rat) = (z:Rat)
theorem Dv.add {D:Nat} {x y:Rat} (h:Dv D x) (h2:Dv D y):Dv D (x + y):=by
 obtain ⟨a,ha⟩:=h
 obtain ⟨b,hb⟩:=h2
 exact ⟨a + b,by rw [Rat.intCast_add,<- ha,<- hb];grind⟩
theorem Dv.neg {D:Nat} {x:Rat} (h:Dv D x):Dv D (-x):=by
 obtain ⟨a,ha⟩:=h
 exact ⟨-a,by rw [Rat.intCast_neg,<- ha];grind⟩
theorem Dv.mul {D E:Nat} {x y:Rat} (h:Dv D x) (h2:Dv E y):Dv (D * E) (x * y):=by
 obtain ⟨a,ha⟩:=h
 obtain ⟨b,hb⟩:=h2
 exact ⟨a * b,by rw [Rat.intCast_mul,<- ha,<- hb,Rat.natCast_mul];grind⟩
theorem Dv.up {D:Nat} {x:Rat} (h:Dv D x) (k:Nat):Dv (D * k) x:=by
 obtain ⟨a,ha⟩:=h
 refine ⟨a * (k:Int),?_⟩
 rw [Rat.intCast_mul,<- ha,Rat.natCast_mul,Rat.intCast_natCast];grind
theorem Dv.up' {D:Nat} {x:Rat} (h:Dv D x) (k:Nat):Dv (k * D) x:=by rw [Nat.mul_comm];exact h.up k
theorem Dv.zero {D:Nat}:Dv D 0:=⟨0,by grind⟩
theorem Dv.own (x:Rat):Dv x.den x:=⟨x.num,by
 have:=eP x
 rw [this];rfl⟩
theorem Dv.le {D:Nat} {x:Rat} (h:Dv D x) (h0:0 < D):x.den<=D:=by
 obtain ⟨z,hz⟩:=h
 have e:=eP x
 have n0:((x.den:Int):Rat) ≠ 0:=by
  have:=x.den_pos
  have:(0:Rat) < ((x.den:Int):Rat):=yA (by omega)
  grind
 have k:x.num * (D:Int) = z * (x.den:Int):=by
  have:((x.num * (D:Int):Int):Rat) = ((z * (x.den:Int):Int):Rat):=by
   rw [Rat.intCast_mul,Rat.intCast_mul,e,<- hz]
   simp only [Rat.intCast_natCast]
   grind
  exact_mod_cast this
 have d1:(x.den:Int) ∣ x.num * (D:Int):=⟨z,by rw [k,Int.mul_comm]⟩
 have g:Int.gcd (x.den:Int) x.num = 1:=by
  have:=x.reduced
  rw [Int.gcd_comm];exact this
 have d2:=pS d1 g
 have:=Int.le_of_dvd (by omega) d2
 omega
noncomputable def Ab (B:Nat) (x:Rat):Prop:=-(B:Rat)<=x/\x<=(B:Rat)
theorem aDJ (n:Nat):(0:Rat)<=(n:Rat):=by
 have:((0:Nat):Rat)<=(n:Rat):=by exact_mod_cast Nat.zero_le n
 exact this
theorem Ab.mono {B C:Nat} {x:Rat} (h:Ab B x) (l:B<=C):Ab C x:=by
 have:(B:Rat)<=(C:Rat):=by exact_mod_cast l
 exact ⟨by have:=h.1;grind,by have:=h.2;grind⟩
theorem Ab.add {B C:Nat} {x y:Rat} (h:Ab B x) (h2:Ab C y):Ab (B + C) (x + y):=by
 obtain ⟨a,b⟩:=h
 obtain ⟨c,d⟩:=h2
 constructor<;>rw [Rat.natCast_add]<;>grind
theorem Ab.neg {B:Nat} {x:Rat} (h:Ab B x):Ab B (-x):=by
 obtain ⟨a,b⟩:=h
 constructor<;>grind
theorem Ab.mul {B C:Nat} {x y:Rat} (h:Ab B x) (h2:Ab C y):Ab (B * C) (x * y):=by
 obtain ⟨a,b⟩:=h
 obtain ⟨c,d⟩:=h2
 have p1:=Rat.mul_nonneg (show 0<=(B:Rat) - x by grind) (show 0<=(C:Rat) + y by grind)
 have p2:=Rat.mul_nonneg (show 0<=(B:Rat) + x by grind) (show 0<=(C:Rat) - y by grind)
 have p3:=Rat.mul_nonneg (show 0<=(B:Rat) - x by grind) (show 0<=(C:Rat) - y by grind)
 have p4:=Rat.mul_nonneg (show 0<=(B:Rat) + x by grind) (show 0<=(C:Rat) + y by grind)
 constructor<;>rw [Rat.natCast_mul]<;>grind
theorem Ab.zero {B:Nat}:Ab B 0:=⟨by have:=aDJ B;grind,aDJ B⟩
theorem aI8 {B:Nat} {x:Rat} (h:Ab B x):x.num.natAbs<=B * x.den:=by
 obtain ⟨a,b⟩:=h
 have e:=eP x
 have d0:(0:Rat) < ((x.den:Int):Rat):=yA (by have:=x.den_pos;omega)
 have k1:x.num<=(B:Int) * (x.den:Int):=by
  have:((x.num:Int):Rat)<=(((B:Int) * (x.den:Int):Int):Rat):=by
   rw [Rat.intCast_mul,e]
   have:=Rat.mul_nonneg (show 0<=(B:Rat) - x by grind) (Rat.le_of_lt d0)
   simp only [Rat.intCast_natCast] at this ⊢
   grind
  exact_mod_cast this
 have k2:-((B:Int) * (x.den:Int))<=x.num:=by
  have:((-((B:Int) * (x.den:Int)):Int):Rat)<=((x.num:Int):Rat):=by
   rw [Rat.intCast_neg,Rat.intCast_mul,e]
   have:=Rat.mul_nonneg (show 0<=(B:Rat) + x by grind) (Rat.le_of_lt d0)
   simp only [Rat.intCast_natCast] at this ⊢
   grind
  exact_mod_cast this
 have:((B * x.den:Nat):Int) = (B:Int) * (x.den:Int):=Int.natCast_mul _ _
 omega
theorem bq_of {D B n:Nat} {x:Rat} (d:Dv D x) (a:Ab B x) (h0:0 < D) (hD:D < 2 ^ n) (hB:B * D < 2 ^ n):BQ n x:=by
 have l:=d.le h0
 have m:=aI8 a
 have:B * x.den<=B * D:=Nat.mul_le_mul_left _ l
 refine ⟨by unfold Bd;omega,?_⟩
 unfold Bd
 show x.den < 2 ^ n
 omega
theorem sZ {n:Nat} {x:Rat} (h:BQ n x):Ab (2 ^ n) x:=by
 have e:=eP x
 have d1:(1:Rat)<=((x.den:Int):Rat):=by
  have:((1:Int):Rat)<=((x.den:Int):Rat):=by exact_mod_cast (show (1:Int)<=(x.den:Int) by have:=x.den_pos;omega)
  exact this
 have hb:x.num.natAbs < 2 ^ n:=h.1
 have n1:((x.num:Int):Rat)<=((2 ^ n:Nat):Rat):=by
  have:x.num<=((2 ^ n:Nat):Int):=by omega
  have:((x.num:Int):Rat)<=(((2 ^ n:Nat):Int):Rat):=by exact_mod_cast this
  rw [Rat.intCast_natCast] at this;exact this
 have n2:-((2 ^ n:Nat):Rat)<=((x.num:Int):Rat):=by
  have:-((2 ^ n:Nat):Int)<=x.num:=by omega
  have:((-((2 ^ n:Nat):Int):Int):Rat)<=((x.num:Int):Rat):=by exact_mod_cast this
  rw [Rat.intCast_neg,Rat.intCast_natCast] at this;exact this
 have z:=aDJ (2 ^ n)
 clear hb
 unfold Ab
 generalize ((2 ^ n:Nat):Rat) = P at *
 generalize ((x.den:Int):Rat) = d at *
 rw [e] at n1 n2
 constructor
 ·rcases (show 0<=x ∨ 0<=-x by grind) with c | c
  ·grind
  ·have:=Rat.mul_nonneg c (show 0<=d - 1 by grind)
   grind
 ·rcases (show 0<=x ∨ 0<=-x by grind) with c | c
  ·have:=Rat.mul_nonneg c (show 0<=d - 1 by grind)
   grind
  ·grind
theorem aBm {D:Nat} {x y:Rat} (h1:Dv D x) (h2:Dv D y):∀ n,Dv D (rq x y n).1/\Dv D (rq x y n).2
 | 0=>⟨h1,h2⟩
 | n + 1=>⟨(aBm h1 h2 n).2.neg,(aBm h1 h2 n).1⟩
theorem aE1 {B:Nat} {x y:Rat} (h1:Ab B x) (h2:Ab B y):∀ n,Ab B (rq x y n).1/\Ab B (rq x y n).2
 | 0=>⟨h1,h2⟩
 | n + 1=>⟨(aE1 h1 h2 n).2.neg,(aE1 h1 h2 n).1⟩
theorem zO {h:Int} (hh:h = 1 ∨ h = -1) {D:Nat} {y:Rat} (b:Dv D y):Dv D ((h:Rat) * y):=by
 rcases hh with rfl | rfl
 ·rw [sU,Rat.one_mul];exact b
 ·rw [pM,show (-1:Rat) * y = -y by grind];exact b.neg
theorem zR {h:Int} (hh:h = 1 ∨ h = -1) {D:Nat} {y:Rat} (b:Ab D y):Ab D ((h:Rat) * y):=by
 rcases hh with rfl | rfl
 ·rw [sU,Rat.one_mul];exact b
 ·rw [pM,show (-1:Rat) * y = -y by grind];exact b.neg
structure Gf (A W k:Nat) (f:Fm):Prop where
 ok:f.Ok
 pos:0 < f.s
 ex:∃ N T:Nat,(0 < N/\N<=12 ^ k)/\(0 < T/\T<=12 ^ k)/\f.s * (N:Rat) = (T:Rat)/\Dv (N * A) f.px/\Dv (N * A) f.py
 ax:Ab (k * 12 ^ k * W) f.px
 ay:Ab (k * 12 ^ k * W) f.py
theorem Gf.one {A W:Nat}:Gf A W 0 .one:=⟨Fm.ok_one,by decide,⟨1,1,by decide,by decide,(by show (1:Rat) * ((1:Nat):Rat) = ((1:Nat):Rat);rw [Rat.one_mul]),Dv.zero,Dv.zero⟩,Ab.zero,Ab.zero⟩
theorem aCR {s:Rat} {N T:Nat} (n0:0 < N) (s0:0 < s) (e:s * (N:Rat) = (T:Rat)):Ab T s:=by
 have n1:(1:Rat)<=(N:Rat):=by
  have:((1:Nat):Rat)<=(N:Rat):=by exact_mod_cast n0
  exact this
 have:=Rat.mul_nonneg (Rat.le_of_lt s0) (show 0<=(N:Rat) - 1 by grind)
 exact ⟨by have:=aDJ T;grind,by grind⟩
theorem uM {s:Rat} {N T:Nat} (e:s * (N:Rat) = (T:Rat)):Dv N s:=⟨(T:Int),by rw [e,Rat.intCast_natCast]⟩
theorem Gf.pt {A W k:Nat} {f:Fm} (g:Gf A W k f) {x y:Rat} (dx:Dv A x) (dy:Dv A y) (ax:Ab W x) (ay:Ab W y) :
  (∃ N T:Nat,(0 < N/\N<=12 ^ k)/\(0 < T/\T<=12 ^ k)/\f.s * (N:Rat) = (T:Rat)/\Dv (N * A) (ldX f.px f.t f.h f.s x y)/\Dv (N * A) (ldY f.py f.t f.h f.s x y))/\Ab ((k + 1) * 12 ^ k * W) (ldX f.px f.t f.h f.s x y)/\Ab ((k + 1) * 12 ^ k * W) (ldY f.py f.t f.h f.s x y):=by
 obtain ⟨N,T,⟨n0,n1⟩,⟨t0,t1⟩,e,d1,d2⟩:=g.ex
 obtain ⟨r1,r2⟩:=aBm dx (zO g.ok.2.2 dy) f.t.toNat
 obtain ⟨b1,b2⟩:=aE1 ax (zR g.ok.2.2 ay) f.t.toNat
 have sd:=uM e
 have sa:=(aCR n0 g.pos e).mono t1
 have q:W * 12 ^ k + k * 12 ^ k * W<=(k + 1) * 12 ^ k * W:=by
  rw [Nat.mul_comm W,Nat.add_mul,Nat.add_mul,Nat.one_mul,Nat.add_comm];exact Nat.le_refl _
 refine ⟨⟨N,T,⟨n0,n1⟩,⟨t0,t1⟩,e,?_,?_⟩,?_,?_⟩
 ·unfold ldX
  exact Dv.add (by rw [Nat.mul_comm];exact r1.mul sd) d1
 ·unfold ldY
  exact Dv.add (by rw [Nat.mul_comm];exact r2.mul sd) d2
 ·unfold ldX
  exact ((b1.mul sa).add g.ax).mono q
 ·unfold ldY
  exact ((b2.mul sa).add g.ay).mono q
theorem aC8 {k:Nat}:12 ^ k<=12 ^ (k + 1):=Nat.pow_le_pow_right (by decide) (by omega)
theorem aHH {k W:Nat}:(k + 1) * 12 ^ k * W<=(k + 1) * 12 ^ (k + 1) * W:=Nat.mul_le_mul_right _ (Nat.mul_le_mul_left _ aC8)
theorem Gf.move {A W k:Nat} {f g:Fm} (G:Gf A W k f) (hg:g.Ok) (s1:g.s = 1) (dx:Dv A g.px) (dy:Dv A g.py) (ax:Ab W g.px) (ay:Ab W g.py):Gf A W (k + 1) (f.comp g):=by
 obtain ⟨⟨N,T,⟨n0,n1⟩,⟨t0,t1⟩,e,d1,d2⟩,a1,a2⟩:=G.pt dx dy ax ay
 have se:f.s * g.s = f.s:=by rw [s1];grind
 refine ⟨G.ok.comp hg,?_,⟨N,T,⟨n0,Nat.le_trans n1 aC8⟩,⟨t0,Nat.le_trans t1 aC8⟩,?_,d1,d2⟩,a1.mono aHH,a2.mono aHH⟩
 ·show 0 < f.s * g.s
  rw [se];exact G.pos
 ·show f.s * g.s * (N:Rat) = (T:Rat)
  rw [se];exact e
theorem Gf.still {A W k:Nat} {f g:Fm} (G:Gf A W k f) (hg:g.Ok) (x0:g.px = 0) (y0:g.py = 0) {t b:Nat} (t0:0 < t) (t1:t<=12) (b0:0 < b) (b1:b<=12) (e:g.s * (b:Rat) = (t:Rat)) (gp:0 < g.s):Gf A W (k + 1) (f.comp g):=by
 obtain ⟨N,T,⟨n0,n1⟩,⟨u0,u1⟩,es,d1,d2⟩:=G.ex
 have px:(f.comp g).px = f.px:=by show ldX f.px f.t f.h f.s g.px g.py = f.px;rw [x0,y0,aCp.1]
 have py:(f.comp g).py = f.py:=by show ldY f.py f.t f.h f.s g.px g.py = f.py;rw [x0,y0,aCp.2]
 have q:k * 12 ^ k * W<=(k + 1) * 12 ^ (k + 1) * W:=Nat.mul_le_mul_right _ (Nat.mul_le_mul (by omega) aC8)
 refine ⟨G.ok.comp hg,Rat.mul_pos G.pos gp,⟨N * b,T * t,⟨Nat.mul_pos n0 b0,?_⟩,⟨Nat.mul_pos u0 t0,?_⟩,?_,?_,?_⟩,?_,?_⟩
 ·rw [Nat.pow_succ];exact Nat.mul_le_mul n1 b1
 ·rw [Nat.pow_succ];exact Nat.mul_le_mul u1 t1
 ·show f.s * g.s * ((N * b:Nat):Rat) = ((T * t:Nat):Rat)
  rw [Rat.natCast_mul,Rat.natCast_mul,<- es,<- e];grind
 ·rw [px,Nat.mul_right_comm];exact d1.up b
 ·rw [py,Nat.mul_right_comm];exact d2.up b
 ·rw [px];exact G.ax.mono q
 ·rw [py];exact G.ay.mono q
noncomputable def plG (A W:Nat):Pl->Prop
 | .go a=>Dv A a/\Ab W a
 | .side a b=>(Dv A a/\Ab W a)/\Dv A b/\Ab W b
 | .skip a=>Dv A a/\Ab W a
 | .grow a=>∃ t b:Nat,(0 < t/\t<=12)/\(0 < b/\b<=12)/\a * (b:Rat) = (t:Rat)
 | .quarter a=>Dv A a/\Ab W a
 | .half a=>Dv A a/\Ab W a/\Ab W (a + a)
 | .arc a b c d=>((Dv A a/\Ab W a)/\Dv A b/\Ab W b)/\(Dv A c/\Ab W c)/\Dv A d/\Ab W d
 | _=>True
theorem plG.up {A W:Nat} {p:Pl} (m:Nat) (h:plG A W p):plG (A * m) W p:=by
 cases p with
 | go a=>exact ⟨h.1.up m,h.2⟩
 | side a b=>exact ⟨⟨h.1.1.up m,h.1.2⟩,h.2.1.up m,h.2.2⟩
 | skip a=>exact ⟨h.1.up m,h.2⟩
 | grow a=>exact h
 | quarter a=>exact ⟨h.1.up m,h.2⟩
 | half a=>exact ⟨h.1.up m,h.2⟩
 | arc a b c d=>exact ⟨⟨⟨h.1.1.1.up m,h.1.1.2⟩,h.1.2.1.up m,h.1.2.2⟩,⟨h.2.1.1.up m,h.2.1.2⟩,h.2.2.1.up m,h.2.2.2⟩
 | _=>trivial
theorem uR {A W:Nat} {p:Pl} (h:plG A W p) (b:plB 400 p):(dJ p).Ok/\(((dJ p).s = 1/\(Dv A (dJ p).px/\Dv A (dJ p).py)/\Ab W (dJ p).px/\Ab W (dJ p).py) ∨ ((dJ p).px = 0/\(dJ p).py = 0/\0 < (dJ p).s/\∃ t b:Nat,(0 < t/\t<=12)/\(0 < b/\b<=12)/\(dJ p).s * (b:Rat) = (t:Rat))):=by
 refine ⟨(xG b).ok,?_⟩
 have o:(1:Rat) * ((1:Nat):Rat) = ((1:Nat):Rat):=Rat.one_mul _
 cases p with
 | go a=>exact .inl ⟨rfl,⟨h.1,Dv.zero⟩,h.2,Ab.zero⟩
 | side a b=>exact .inl ⟨rfl,⟨h.1.1,h.2.1⟩,h.1.2,h.2.2⟩
 | skip a=>exact .inl ⟨rfl,⟨h.1,Dv.zero⟩,h.2,Ab.zero⟩
 | grow a=>exact .inr ⟨rfl,rfl,b.2,h⟩
 | quarter a =>
  dsimp only [dJ]
  by_cases c:0 < a
  ·rw [if_pos c];exact .inl ⟨rfl,⟨h.1,h.1⟩,h.2,h.2⟩
  ·rw [if_neg c];exact .inl ⟨rfl,⟨h.1.neg,h.1⟩,h.2.neg,h.2⟩
 | half a=>exact .inl ⟨rfl,⟨Dv.zero,h.1.add h.1⟩,Ab.zero,h.2.2⟩
 | arc a b c d=>exact .inl ⟨rfl,⟨h.2.1.1,h.2.2.1⟩,h.2.1.2,h.2.2.2⟩
 | dot=>exact .inl ⟨rfl,⟨Dv.zero,Dv.zero⟩,Ab.zero,Ab.zero⟩
 | _=>exact .inr ⟨rfl,rfl,by show (0:Rat) < 1;decide,1,1,by decide,by decide,o⟩
theorem Gf.step {A W k:Nat} {f:Fm} {p:Pl} (G:Gf A W k f) (h:plG A W p) (b:plB 400 p):Gf A W (k + 1) (f.comp (dJ p)):=by
 obtain ⟨ok,⟨s1,⟨dx,dy⟩,ax,ay⟩ | ⟨x0,y0,gp,t,c,⟨t0,t1⟩,⟨c0,c1⟩,e⟩⟩:=uR h b
 ·exact G.move ok s1 dx dy ax ay
 ·exact G.still ok x0 y0 t0 t1 c0 c1 e gp
structure wZ (A W K:Nat):Prop where
 a:0 < A
 w:0 < W
 b:((K + 1) * 12 ^ (K + 1) * W) * (12 ^ (K + 1) * A) < 2 ^ 4000
 s:12 ^ (K + 1) < 2 ^ 1100
section
variable {A W K k:Nat} {f:Fm}
theorem zS (h:wZ A W K) {B D:Nat} (hB:B<=(K + 1) * 12 ^ (K + 1) * W) (hD:D<=12 ^ (K + 1) * A):D < 2 ^ 4000/\B * D < 2 ^ 4000:=by
 have h1:B * D<=((K + 1) * 12 ^ (K + 1) * W) * (12 ^ (K + 1) * A):=Nat.mul_le_mul hB hD
 have h2:1 * D<=((K + 1) * 12 ^ (K + 1) * W) * D:=Nat.mul_le_mul_right _ (Nat.mul_pos (Nat.mul_pos (by omega) (Nat.pow_pos (by decide))) h.w)
 have h3:((K + 1) * 12 ^ (K + 1) * W) * D<=((K + 1) * 12 ^ (K + 1) * W) * (12 ^ (K + 1) * A):=Nat.mul_le_mul_left _ hD
 have:=h.b
 omega
theorem aBy (l:k<=K):12 ^ k<=12 ^ (K + 1):=Nat.pow_le_pow_right (by decide) (by omega)
theorem Gf.good (n:wZ A W K) (l:k<=K) (G:Gf A W k f):f.Good 4000/\BQ 1100 f.s:=by
 obtain ⟨N,T,⟨n0,n1⟩,⟨t0,t1⟩,e,d1,d2⟩:=G.ex
 have pk:=aBy l
 have hB:k * 12 ^ k * W<=(K + 1) * 12 ^ (K + 1) * W:=Nat.mul_le_mul_right _ (Nat.mul_le_mul (by omega) pk)
 have hD:N * A<=12 ^ (K + 1) * A:=Nat.mul_le_mul_right _ (Nat.le_trans n1 pk)
 obtain ⟨q1,q2⟩:=zS n hB hD
 have D0:0 < N * A:=Nat.mul_pos n0 n.a
 have sN:N < 2 ^ 1100:=Nat.lt_of_le_of_lt (Nat.le_trans n1 pk) n.s
 have sT:T < 2 ^ 1100:=Nat.lt_of_le_of_lt (Nat.le_trans t1 pk) n.s
 have bs:BQ 1100 f.s:=by
  have n0':((N:Int):Int) ≠ 0:=by omega
  have es:f.s = (((T:Int)):Rat) / (((N:Int)):Rat):=by
   have:((N:Int):Rat) ≠ 0:=by
    have:=yA (show (0:Int) < (N:Int) by omega)
    grind
   simp only [Rat.intCast_natCast] at this ⊢
   grind
  rw [es]
  exact .make n0' (by unfold Bd;show T < _;exact sT) (by unfold Bd;show N < _;exact sN)
 exact ⟨⟨bq_of d1 G.ax D0 q1 q2,bq_of d2 G.ay D0 q1 q2,G.ok.1,G.ok.2.1,G.ok.2.2,G.pos,bs.mono (by decide)⟩,bs⟩
theorem Gf.led (n:wZ A W K) (l:k<=K) (G:Gf A W k f) {x y:Rat} (dx:Dv A x) (dy:Dv A y) (ax:Ab W x) (ay:Ab W y):wG f.s x y/\BQ 4000 (ldX f.px f.t f.h f.s x y)/\BQ 4000 (ldY f.py f.t f.h f.s x y):=by
 obtain ⟨⟨N,T,⟨n0,n1⟩,⟨t0,t1⟩,e,d1,d2⟩,a1,a2⟩:=G.pt dx dy ax ay
 have pk:=aBy l
 have hB:(k + 1) * 12 ^ k * W<=(K + 1) * 12 ^ (K + 1) * W:=Nat.mul_le_mul_right _ (Nat.mul_le_mul (by omega) pk)
 have hD:N * A<=12 ^ (K + 1) * A:=Nat.mul_le_mul_right _ (Nat.le_trans n1 pk)
 obtain ⟨q1,q2⟩:=zS n hB hD
 have D0:0 < N * A:=Nat.mul_pos n0 n.a
 have one:W<=(K + 1) * 12 ^ (K + 1) * W:=by
  have:1 * W<=(K + 1) * 12 ^ (K + 1) * W:=Nat.mul_le_mul_right _ (Nat.mul_pos (by omega) (Nat.pow_pos (by decide)))
  omega
 have oneA:A<=12 ^ (K + 1) * A:=by
  have:1 * A<=12 ^ (K + 1) * A:=Nat.mul_le_mul_right _ (Nat.pow_pos (by decide))
  omega
 obtain ⟨r1,r2⟩:=zS n one oneA
 have sd:=uM e
 have sa:=(aCR n0 G.pos e).mono t1
 have hBs:W * 12 ^ k<=(K + 1) * 12 ^ (K + 1) * W:=by
  rw [Nat.mul_comm W]
  refine Nat.mul_le_mul_right _ ?_
  have:1 * 12 ^ k<=(K + 1) * 12 ^ (K + 1):=Nat.mul_le_mul (by omega) pk
  omega
 obtain ⟨u1,u2⟩:=zS n hBs hD
 have ps:∀ {z:Rat},Dv A z->Ab W z->BQ 4000 (z * f.s):=fun {z} dz az=>bq_of (D:=N * A) (by rw [Nat.mul_comm];exact dz.mul sd) (az.mul sa) D0 u1 u2
 exact ⟨⟨bq_of dx ax n.a r1 r2,bq_of dy ay n.a r1 r2,ps dx ax,ps dy ay⟩,bq_of d1 a1 D0 q1 q2,bq_of d2 a2 D0 q1 q2⟩
noncomputable def lgG (A W:Nat):Lg->Prop
 | .st x y u v=>((Dv A x/\Dv A y)/\Ab W x/\Ab W y)/\(Dv A u/\Dv A v)/\Ab W u/\Ab W v
 | .bd a b c d e f w=>((Dv A a/\Dv A b)/\Ab W a/\Ab W b)/\((Dv A c/\Dv A d)/\Ab W c/\Ab W d)/\((Dv A e/\Dv A f)/\Ab W e/\Ab W f)/\(w = 1 ∨ w = -1)
theorem aKv {p:Pl} {l:Lg} (h:plG A W p) (e:kG p = some l):lgG A W l:=by
 have z:(Dv A 0/\Dv A 0)/\Ab W 0/\Ab W 0:=⟨⟨Dv.zero,Dv.zero⟩,Ab.zero,Ab.zero⟩
 cases p with
 | go a=>cases e;exact ⟨z,⟨h.1,Dv.zero⟩,h.2,Ab.zero⟩
 | side a b=>cases e;exact ⟨z,⟨h.1.1,h.2.1⟩,h.1.2,h.2.2⟩
 | dot=>cases e;exact ⟨z,z⟩
 | quarter a =>
  dsimp only [kG] at e
  by_cases c:0 < a
  ·rw [if_pos c] at e;cases e;exact ⟨⟨⟨Dv.zero,h.1⟩,Ab.zero,h.2⟩,z,⟨⟨h.1,h.1⟩,h.2,h.2⟩,.inl rfl⟩
  ·rw [if_neg c] at e;cases e;exact ⟨⟨⟨Dv.zero,h.1⟩,Ab.zero,h.2⟩,z,⟨⟨h.1.neg,h.1⟩,h.2.neg,h.2⟩,.inr rfl⟩
 | half a =>
  cases e
  refine ⟨⟨⟨Dv.zero,h.1⟩,Ab.zero,h.2.1⟩,z,⟨⟨Dv.zero,h.1.add h.1⟩,Ab.zero,h.2.2⟩,?_⟩
  by_cases c:0 < a
  ·rw [if_pos c];exact .inl rfl
  ·rw [if_neg c];exact .inr rfl
 | arc a b c d=>cases e;exact ⟨⟨⟨h.1.1.1,h.1.2.1⟩,h.1.1.2,h.1.2.2⟩,z,⟨⟨h.2.1.1,h.2.2.1⟩,h.2.1.2,h.2.2.2⟩,.inl rfl⟩
 | _=>cases e
theorem Gf.sf (n:wZ A W K) (l:k<=K) (G:Gf A W k f) {p:Pl} (h:plG A W p) (b:plB 400 p):SfA f p:=by
 refine ⟨(G.good n l).1,b,fun lg e=>?_,?_⟩
 ·have lG:=aKv h e
  cases lg with
  | st x y u v =>
   have p1:=G.led n l lG.1.1.1 lG.1.1.2 lG.1.2.1 lG.1.2.2
   have p2:=G.led n l lG.2.1.1 lG.2.1.2 lG.2.2.1 lG.2.2.2
   exact ⟨⟨p1.1,p2.1⟩,p1.2.1,p1.2.2,p2.2.1,p2.2.2⟩
  | bd a c d e i j w =>
   obtain ⟨⟨⟨q1,q2⟩,q3,q4⟩,⟨⟨q5,q6⟩,q7,q8⟩,⟨⟨q9,qa⟩,qb,qc⟩,qd⟩:=lG
   have p1:=G.led n l q1 q2 q3 q4
   have p2:=G.led n l q5 q6 q7 q8
   have p3:=G.led n l q9 qa qb qc
   refine ⟨⟨p1.1,p2.1,p3.1,qd⟩,p1.2.1,p1.2.2,p2.2.1,p2.2.2,p3.2.1,p3.2.2,?_⟩
   rcases qd with z | z<;>rcases G.ok.2.2 with y | y<;>rw [z,y]<;>decide
 ·obtain ⟨ok,⟨s1,⟨dx,dy⟩,ax,ay⟩ | ⟨x0,y0,_⟩⟩:=uR h b
  ·exact (G.led n l dx dy ax ay).1
  ·rw [x0,y0];exact (G.led n l Dv.zero Dv.zero Ab.zero Ab.zero).1
end
noncomputable def xI:DSp:=fun ds M Q=>∃ c many,ds = [.int c,.int many]/\0<=many/\many<=100/\∀ (p:Addr) L,M p = none->lY many.toNat L->Q (.ref p) (bI M p L)
theorem wL {n:Nat} {L:List D} (h:lY n L) {z:Int} (h0:0<=z) (h1:z < 1000000):lY (n + 1) (L ++ [.int z]):=by
 refine ⟨by rw [List.length_append,h.1];rfl,fun d hd=>?_⟩
 rcases List.mem_append.mp hd with e | e
 ·exact h.2 d e
 ·exact ⟨z,List.mem_singleton.mp e,h0,h1⟩
noncomputable abbrev rW:Stmt:=top 68
theorem fQ:aP ["_law_cell","_law_many_here","_law_found","_law_number","_law_k"] ["_law_cell","_law_many_here"] (aI rW):=⟨rfl,rfl,rfl,by decide +kernel,rfl,by decide +kernel,by decide +kernel⟩
theorem aBi (hF:bO K mg "_law_row" rW ["_law_cell","_law_many_here"]) (oR:mg "abs" = none) (eR:mg "range" = none):Has P w K mg base 101 "_law_row" ["_law_cell","_law_many_here"] xI:=by
 refine Has.mkZ hF fQ (fun ds M Q ⟨a,b,e,_⟩=>by rw [e];rfl) fun f cdv A outer s H ds M Q E hr h=>?_
 obtain ⟨c,many,rfl,m0,m1,q⟩:=h
 refine ⟨_,(aE (aO (i:=2) fQ.nd (bN aD))
  (aE (aO (i:=3) fQ.nd (aB 0))
  (aE (bA (aR vM (eN aAu oR (aA (aB 0) aD)) (aL wI aC aC)) (aF (aO (i:=3) fQ.nd (aL cF (aL cQ (aB 0) aC) aC))) aX)
  (aE (qX PassesOwn.never rfl eR (aA (aB 1) aD) (aQ (i:=4) fQ.nd) (aF (bA (aR vM (eN aAu oR (aA (aB 0) aD)) (aL wI aC aC)) (aE (aO (i:=3) fQ.nd (aL cQ (aL bE (aB 3) aC) aC))
  (aF (cX (fR (aB 2) (aL cQ (aL fD (aL cQ (aL cF (aL cF (aL bE (aB 3) (aB 3)) (aL bE aC (aB 3))) (aB 4)) aC) aC) (aL wI aC aC)))))) (aE (cX (fR (aB 2) (aL cQ (aB 3) (aL wI aC aC))))
  (aF (aO (i:=3) fQ.nd (aL fD (aB 3) (aL wI aC aC))))))))
  (aF (aM (aB 2))))))),?_⟩
 decreasing_tactic
 refine ⟨by decide,fun p hp=>?_⟩
 have k6:(10:Int) ^ Int.toNat 6 = 1000000:=by decide
 have small:∀ z:Int,0<=z.fmod 1000000/\z.fmod 1000000 < 1000000:=fun z=>⟨Int.fmod_nonneg_of_pos _ (by decide),Int.fmod_lt_of_pos _ (by decide)⟩
 refine ⟨⟨by decide,by decide,by decide⟩,dif (fun c1=>?A) (fun c1=>?B)⟩
 case' A =>
  have c2:(if c < 0 then -c else c) < (10:Int) ^ Int.toNat 18->0<=c.fmod 2147483647 + 1/\c.fmod 2147483647 + 1 < 2147483649:=fun _=>by
   have:=Int.fmod_nonneg_of_pos c (show (0:Int) < 2147483647 by decide)
   have:=Int.fmod_lt_of_pos c (show (0:Int) < 2147483647 by decide)
   omega
  refine ⟨by decide,?_⟩
  generalize c.fmod 2147483647 + 1 = z0 at c2
 case' B =>
  have c2:(if c < 0 then -c else c) < (10:Int) ^ Int.toNat 18->0<=c/\c < 2147483649:=fun z=>absurd z c1
  obtain ⟨z0,hz0⟩:∃ z0,z0 = c:=⟨c,rfl⟩
  have c2:(if c < 0 then -c else c) < (10:Int) ^ Int.toNat 18->0<=z0/\z0 < 2147483649:=by rw [hz0];exact c2
  rw [show (some (D.int c) :: some (.int many) :: some (.ref p) :: some (.int c) :: [none]:cB) = [some (.int c),some (.int many),some (.ref p),some (.int z0),none] by rw [hz0]]
 all_goals
  refine ⟨⟨by omega,by omega⟩,fun i ρ M'=>∃ L,M' = bI M p L/\lY i L/\∃ (z:Int) (o:Option D),((if c < 0 then -c else c) < (10:Int) ^ Int.toNat 18->0<=z/\z < 2147483649)/\ρ = [some (.int c),some (.int many),some (.ref p),some (.int z),o],⟨[],rfl,⟨rfl,fun d h=>nomatch h⟩,z0,none,c2,rfl⟩,?_,?_⟩
  ·rintro i ρ M' hi ⟨L,rfl,hL,z,o,hz,rfl⟩
   have hi2:i < 100:=by omega
   have lL:L.length < 1000:=by rw [hL.1];omega
   decreasing_tactic
   refine ⟨⟨by decide,by decide,by decide⟩,dif (fun d1=>?_) (fun d1=>?_)⟩
   ·obtain ⟨z1,z2⟩:=hz d1
    have hn0:=Int.fmod_nonneg_of_pos (z * 48271) (show (0:Int) < 2147483647 by decide)
    have hn1:=Int.fmod_lt_of_pos (z * 48271) (show (0:Int) < 2147483647 by decide)
    refine ⟨pI (by unfold Bd;decide),by decide,⟨_,aJ⟩,?_⟩
    generalize (z * 48271).fmod 2147483647 = nn at hn0 hn1
    have bn:Bd 63 nn:=Bd.of (by omega) (by omega)
    refine ⟨iD bn,pI bn,by decide,⟨by decide,by decide +kernel⟩,⟨by decide,by decide,by decide⟩,by rw [k6];decide,_,_,rfl,aJ,lL,_,by rw [zJ],wL hL ?_ ?_,nn,_,fun _=>⟨by omega,by omega⟩,rfl⟩
    ·rw [k6];exact (small _).1
    ·rw [k6];exact (small _).2
   ·refine ⟨⟨_,aJ⟩,⟨by decide,by decide,by decide⟩,by rw [k6];decide,_,_,rfl,aJ,lL,⟨by decide,by decide,by decide⟩,⟨by rw [k6];decide,by rw [k6];decide +kernel⟩,_,by rw [zJ],wL hL ?_ ?_,_,_,fun z=>absurd z d1,rfl⟩
    ·rw [k6];exact (small _).1
    ·rw [k6];exact (small _).2
  ·rintro ρ M' ⟨L,rfl,hL,z,o,hz,rfl⟩
   decreasing_tactic
   exact ⟨_,.refl _,q p L hp hL⟩
theorem pN {p r:Rat} {m n:Nat} {M:DM} {Q:DQ} (h1:BQ m p) (h2:BQ n r) (l:m + n<=8998) (q:Q (FQ (p * r)) M):gG [FQ p,FQ r] M Q:=⟨_,_,_,_,rfl,trivial,h1,h2,l,q⟩
theorem aCB {p r:Rat} {m n:Nat} {M:DM} {Q:DQ} (h1:BQ m p) (h2:BQ n r) (l:m + n<=8998) (q:Q (FQ (p + r)) M):mY [FQ p,FQ r] M Q:=⟨_,_,_,_,rfl,trivial,h1,h2,l,q⟩
noncomputable def Un (u:Rat):Prop:=u = 0 ∨ u = 1 ∨ u = -1
inductive Sk where
 | dot (x y:Rat) | arc (a b c d e f:Rat) | str (x y u v:Rat)
theorem aIJ:(D.tup [.int (-1),.int 1]) = FQ (-1):=rfl
theorem aHO {p q:Int} (h:p ≠ 0 ∨ q ≠ 0):0 < q * q + p * p:=by
 have n:∀ z:Int,0<=z * z:=fun z=>by
  rcases Int.le_total 0 z with c | c
  ·exact Int.mul_nonneg c c
  ·exact Int.mul_nonneg_of_nonpos_of_nonpos c c
 have k:∀ z:Int,z ≠ 0->z * z ≠ 0:=fun z hz=>Int.mul_ne_zero hz hz
 have h1:=n p
 have h2:=n q
 rcases h with h | h
 ·have:=k p h;omega
 ·have:=k q h;omega
theorem aKo {p q:Int} (h:0 < q * q + p * p) {uu vv:Rat} (hu:((q * q - p * p:Int):Rat) / ((q * q + p * p:Int):Rat) = uu) (hv:((2 * p * q:Int):Rat) / ((q * q + p * p:Int):Rat) = vv):uu * uu + vv * vv = 1:=by
 have n0:((q * q + p * p:Int):Rat) ≠ 0:=by
  have:=yA h
  grind
 rw [<- hu,<- hv]
 rw [Rat.intCast_sub,Rat.intCast_add,Rat.intCast_mul,Rat.intCast_mul,Rat.intCast_mul,Rat.intCast_mul] at *
 rw [show (((2:Int)):Rat) = 2 from rfl]
 generalize (p:Rat) = a at *
 generalize (q:Rat) = b at *
 grind
theorem aJ0 {x y uu vv:Rat} (c:uu * uu + vv * vv = 1) (nz:¬ (x = 0/\y = 0)):¬ (x = x + (uu * (x * -1) + vv * y)/\y = y + (vv * (x * -1) + uu * (y * -1)))/\dL x y 0 0 = dL x y (x + (uu * (x * -1) + vv * y)) (y + (vv * (x * -1) + uu * (y * -1))):=by
 have e:dL x y 0 0 = dL x y (x + (uu * (x * -1) + vv * y)) (y + (vv * (x * -1) + uu * (y * -1))):=by
  unfold dL
  have:(x + (uu * (x * -1) + vv * y) - x) * (x + (uu * (x * -1) + vv * y) - x) + (y + (vv * (x * -1) + uu * (y * -1)) - y) * (y + (vv * (x * -1) + uu * (y * -1)) - y) = (uu * uu + vv * vv) * (x * x + y * y):=by grind
  rw [this,c]
  grind
 refine ⟨fun z=>?_,e⟩
 rw [oE.mpr z] at e
 exact nz (oE.mp e)
theorem Wh.dv {D:Nat} {x:Rat} (h:Wh x):Dv D x:=by
 obtain ⟨z,rfl,_,_⟩:=h
 exact ⟨z * (D:Int),by rw [Rat.intCast_mul,Rat.intCast_natCast]⟩
theorem Wh.ab {x:Rat} (h:Wh x):Ab 20 x:=by
 obtain ⟨z,rfl,h1,h2⟩:=h
 have a:(((-20:Int)):Rat)<=(z:Rat):=by exact_mod_cast h1
 have b:(z:Rat)<=((20:Int):Rat):=by exact_mod_cast h2
 exact ⟨a,b⟩
theorem Wh.neg {x:Rat} (h:Wh x):Wh (x * -1):=by
 obtain ⟨z,rfl,h1,h2⟩:=h
 exact ⟨-z,by rw [Rat.intCast_neg];grind,by omega,by omega⟩
theorem Wh.mul {D:Nat} {x y:Rat} (h:Wh x) (d:Dv D y):Dv D (y * x):=by
 obtain ⟨z,rfl,h1,h2⟩:=h
 obtain ⟨a,ha⟩:=d
 exact ⟨a * z,by rw [Rat.intCast_mul,<- ha];grind⟩
theorem aDR {x y uu vv:Rat} {pp qq:Int} (wx:Wh x) (wy:Wh y) (pos:0 < qq * qq + pp * pp) (bd:Bd 9 (qq * qq + pp * pp)) (hu:((qq * qq - pp * pp:Int):Rat) / ((qq * qq + pp * pp:Int):Rat) = uu) (hv:((2 * pp * qq:Int):Rat) / ((qq * qq + pp * pp:Int):Rat) = vv) (bu:BQ 9 uu) (bv:BQ 10 vv):∃ A:Nat,0 < A/\A<=2 ^ 48/\plG A (2 ^ 25) (.arc x y (x + (uu * (x * -1) + vv * y)) (y + (vv * (x * -1) + uu * (y * -1)))):=by
 generalize qq * qq + pp * pp = c at *
 have c0:(c:Rat) ≠ 0:=by
  have:=yA pos
  grind
 have ec:((c.toNat:Nat):Rat) = (c:Rat):=by
  rw [<- Rat.intCast_natCast,Int.toNat_of_nonneg (by omega)]
 have du:Dv c.toNat uu:=⟨_,by rw [ec,<- hu];exact Rat.div_mul_cancel c0⟩
 have dv:Dv c.toNat vv:=⟨_,by rw [ec,<- hv];exact Rat.div_mul_cancel c0⟩
 have au:=sZ bu
 have av:=sZ bv
 have hc:c.natAbs < 2 ^ 9:=bd
 have k {z:Rat} (h:Wh z):Dv c.toNat z/\Ab (2 ^ 25) z:=⟨h.dv,h.ab.mono (by decide)⟩
 exact ⟨c.toNat,by omega,by omega,⟨k wx,k wy⟩,⟨wx.dv.add ((wx.neg.mul du).add (wy.mul dv)),(wx.ab.add ((au.mul wx.neg.ab).add (av.mul wy.ab))).mono (by decide)⟩,wy.dv.add ((wx.neg.mul dv).add (wy.neg.mul du)),(wy.ab.add ((av.mul wx.neg.ab).add (au.mul wy.neg.ab))).mono (by decide)⟩
noncomputable def vB:DSp:=fun ds M Q=>∃ (a:Addr) (n:Nat) (L:List D),ds = [.ref a]/\M a = some L/\lY n L/\5<=n/\∀ x y u v,BQ 100 x->BQ 100 y->BQ 100 u->BQ 100 v->¬ (x = 0/\y = 0)->¬ (x = u/\y = v)->dL x y 0 0 = dL x y u v->(∃ A:Nat,0 < A/\A<=2 ^ 48/\plG A (2 ^ 25) (.arc x y u v))->Q (.tup [FQ x,FQ y,FQ u,FQ v]) M
noncomputable abbrev rS:Stmt:=top 73
theorem dW:aP ["_law_row_here","_law_x","_law_y","_law_p","_law_q","_law_u","_law_v","_law_back","_law_right","_law_up"] ["_law_row_here"] (aI rS):=⟨rfl,rfl,rfl,by decide +kernel,rfl,by decide +kernel,by decide +kernel⟩
theorem aAZ (hF:bO K mg "_law_bow" rS ["_law_row_here"]) (eC:Has P w K mg base 102 "_law_drawn" ["_law_one","_law_other"] kW) (bL:Has P w K mg base 101 "_law_ratio" ["_law_top","_law_bottom"] fA) (gS:Has P w K mg base 102 "_law_plus" ["_law_one","_law_other"] mY) (cC:Has P w K mg base 102 "_law_times" ["_law_one","_law_other"] gG) (aED:mg "min" = none):Has P w K mg base 103 "_law_bow" ["_law_row_here"] vB:=by
 refine Has.mkZ hF dW (fun ds M Q ⟨a,n,L,e,_⟩=>by rw [e];rfl) fun f cdv A outer s H ds M Q E hr h=>?_
 obtain ⟨a,n,L,rfl,ha,hL,hn,q⟩:=h
 refine ⟨_,(aE (rA (i:=1) (j:=2) rfl dW.nd (aA (aG eC hr (by decide) (aA (aH (aB 0) aC) (aA aC aD))) (aA (aG eC hr (by decide) (aA (aH (aB 0) aC) (aA aC aD))) aD)))
  (mV (bA (qO (lQ (aR (cL hr) (aH (aB 1) aC) aC) (kF (aR (cL hr) (aH (aB 2) aC) aC)))) (aF (aO (i:=2) dW.nd (aK (aA aC (aA aC aD))))) aX)
  (aE (eT (aH (bN (aA (aK (aA aC (aA aC aD))) (aA (aK (aA aC (aA aC aD))) (aA (aK (aA (aL nH (aL cQ (aH (aB 0) aC) aC) aC) (aA (aL cF aC (aL cQ (aH (aB 0) aC) aC)) aD))) aD)))) (eN (aIk rfl) aED (aA aC (aA (aL cQ (aH (aB 0) aC) aC) aD)))) (eH (n:=2) rfl (aV (aQ (i:=3) dW.nd) (aV (aQ (i:=4) dW.nd) dG))))
  (aE (aO (i:=5) dW.nd (aG bL hr (by decide) (aA (aL nH (aL bE (aB 4) (aB 4)) (aL bE (aB 3) (aB 3))) (aA (aL cF (aL bE (aB 4) (aB 4)) (aL bE (aB 3) (aB 3))) aD))))
  (aE (aO (i:=6) dW.nd (aG bL hr (by decide) (aA (aL bE (aL bE aC (aB 3)) (aB 4)) (aA (aL cF (aL bE (aB 4) (aB 4)) (aL bE (aB 3) (aB 3))) aD))))
  (aE (aO (i:=7) dW.nd (aK (aA (eI aC) (aA aC aD))))
  (aE (aO (i:=8) dW.nd (aG gS hr (by decide) (aA (aG cC hr (by decide) (aA (aB 5) (aA (aG cC hr (by decide) (aA (aB 1) (aA (aB 7) aD))) aD))) (aA (aG cC hr (by decide) (aA (aB 6) (aA (aB 2) aD))) aD))))
  (aE (aO (i:=9) dW.nd (aG gS hr (by decide) (aA (aG cC hr (by decide) (aA (aB 6) (aA (aG cC hr (by decide) (aA (aB 1) (aA (aB 7) aD))) aD))) (aA (aG cC hr (by decide) (aA (aB 5) (aA (aG cC hr (by decide) (aA (aB 2) (aA (aB 7) aD))) aD))) aD))))
  (aF (aM (aK (aA (aB 1) (aA (aB 2) (aA (aG gS hr (by decide) (aA (aB 1) (aA (aB 8) aD))) (aA (aG gS hr (by decide) (aA (aB 2) (aA (aB 9) aD))) aD))))))))))))))),?_⟩
 decreasing_tactic
 obtain ⟨z0,e0,_⟩:=hL.at (i:=0) (by omega)
 obtain ⟨z1,e1,_⟩:=hL.at (i:=1) (by omega)
 obtain ⟨z2,e2,_⟩:=hL.at (i:=2) (by omega)
 obtain ⟨z3,e3,_⟩:=hL.at (i:=3) (by omega)
 obtain ⟨z4,e4,_⟩:=hL.at (i:=4) (by omega)
 refine ⟨_,_,ha,e0,_,_,rfl,fun x hx wx=>?_⟩
 decreasing_tactic
 refine ⟨_,_,ha,e1,_,_,rfl,fun y hy wy=>?_⟩
 decreasing_tactic
 refine ⟨fun ρ' M'=>M = M'/\∃ y:Rat,ρ' = [some (.ref a),some (FQ x),some (FQ y),none,none,none,none,none,none,none]/\BQ 24 y/\¬ (x = 0/\y = 0)/\((1:Int).fmod 5 ≠ 4->(1:Int).fmod 3 ≠ 2->Wh y),?_,?_⟩
 ·rw [fM]
  refine dif (fun c1=>?_) (fun c1=>?_)
  ·rw [fM]
   refine dif (fun c2=>?_) (fun c2=>?_)
   ·exact ⟨by decide,rfl,2,rfl,⟨by unfold Bd;decide,by unfold Bd;decide⟩,(fun z=>absurd z.2 (by decide)),fun _ _=>⟨2,rfl,by decide,by decide⟩⟩
   ·exact ⟨rfl,y,rfl,hy,(fun z=>c2 (by rw [z.2];rfl)),wy⟩
  ·exact ifF rfl ⟨rfl,y,rfl,hy,(fun z=>c1 (by rw [z.1];rfl)),wy⟩
 ·clear hy wy y
  rintro _ _ ⟨rfl,y,rfl,hy,nz,wy⟩
  decreasing_tactic
  refine ⟨by decide,by decide,_,_,ha,e2,?_⟩
  decreasing_tactic
  refine ⟨by decide,_,_,ha,e3,?_⟩
  decreasing_tactic
  refine ⟨by decide,by decide,by decide,fun p hp=>?_⟩
  refine ⟨_,_,by rw [cS (eD ha hp)];exact ha,e4,?_⟩
  decreasing_tactic
  have a1:=Int.fmod_nonneg_of_pos z2 (show (0:Int) < 19 by decide)
  have a2:=Int.fmod_lt_of_pos z2 (show (0:Int) < 19 by decide)
  have a3:=Int.fmod_nonneg_of_pos z3 (show (0:Int) < 9 by decide)
  have a4:=Int.fmod_lt_of_pos z3 (show (0:Int) < 9 by decide)
  obtain ⟨pp,qq,ek,p0,p1,q0,q1,np⟩:∃ pp qq:Int,atI [D.tup [.int 1,.int 0],.tup [.int 0,.int 1],.tup [.int (z2.fmod 19 - 9),.int (1 + z3.fmod 9)]] (if z4.fmod 8 < 2 then z4.fmod 8 else 2) = some (.tup [.int pp,.int qq])/\-10<=pp/\pp<=10/\-10<=qq/\qq<=10/\(pp ≠ 0 ∨ qq ≠ 0):=by
   have b1:=Int.fmod_nonneg_of_pos z4 (show (0:Int) < 8 by decide)
   by_cases c:z4.fmod 8 < 2
   ·rw [if_pos c]
    have:z4.fmod 8 = 0 ∨ z4.fmod 8 = 1:=by omega
    rcases this with e | e<;>rw [e]
    ·exact ⟨1,0,rfl,by decide,by decide,by decide,by decide,.inl (by decide)⟩
    ·exact ⟨0,1,rfl,by decide,by decide,by decide,by decide,.inr (by decide)⟩
   ·rw [if_neg c]
    exact ⟨_,_,rfl,by omega,by omega,by omega,by omega,.inr (by omega)⟩
  have s1:=bG.new hp [D.tup [.int 1,.int 0],.tup [.int 0,.int 1],.tup [.int (z2.fmod 19 - 9),.int (1 + z3.fmod 9)]]
  have bp:Bd 4 pp:=Bd.of (by omega) (by omega)
  have bq:Bd 4 qq:=Bd.of (by omega) (by omega)
  refine ⟨by decide,_,_,aJ,ek,?_⟩
  decreasing_tactic
  have pos:0 < qq * qq + pp * pp:=aHO np
  have bu:BQ 9 (((qq * qq - pp * pp:Int):Rat) / ((qq * qq + pp * pp:Int):Rat)):=.make (by omega) (bq.mul bq |>.sub (bp.mul bp)) (bq.mul bq |>.add (bp.mul bp))
  have bv:BQ 10 (((2 * pp * qq:Int):Rat) / ((qq * qq + pp * pp:Int):Rat)):=.make (by omega) (((Bd.mul (m:=2) (x:=2) (by unfold Bd;decide) bp).mul bq)) ((bq.mul bq |>.add (bp.mul bp)).mono (by decide))
  have bd:Bd 9 (qq * qq + pp * pp):=bq.mul bq |>.add (bp.mul bp)
  generalize hu:((qq * qq - pp * pp:Int):Rat) / ((qq * qq + pp * pp:Int):Rat) = uu at bu
  generalize hv:((2 * pp * qq:Int):Rat) / ((qq * qq + pp * pp:Int):Rat) = vv at bv
  have m1:BQ 2 (-1):=⟨by unfold Bd;decide,by unfold Bd;decide⟩
  refine ⟨rfl,dA bq bq,dA bp bp,dA bq bq,dA bp bp,_,_,rfl,pos,bd.mono (by decide),iD (by unfold Bd;decide),dA ((Bd.mul (m:=2) (x:=2) (by unfold Bd;decide) bp)) bq,dA bq bq,dA bp bp,_,_,rfl,pos,bd.mono (by decide),?_⟩
  rw [hu,hv,aIJ]
  have w3:=hx.mul m1
  have w4:=bu.mul w3
  have w5:=bv.mul hy
  have w8:=bv.mul w3
  have w9:=hy.mul m1
  have w10:=bu.mul w9
  have bk:=aJ0 (x:=x) (y:=y) (aKo pos hu hv) nz
  exact ⟨by decide,pN hx m1 (by decide) (pN bu w3 (by decide) (pN bv hy (by decide) (aCB w4 w5 (by decide) (pN hx m1 (by decide) (pN bv w3 (by decide) (pN hy m1 (by decide) (pN bu w9 (by decide) (aCB w8 w10 (by decide) (aCB hx (w4.add w5) (by decide) (aCB hy (w8.add w10) (by decide) ⟨by decide,M,s1,q _ _ _ _ (hx.mono (by decide)) (hy.mono (by decide)) ((hx.add (w4.add w5)).mono (by decide)) ((hy.add (w8.add w10)).mono (by decide)) nz bk.1 bk.2 (aDR (wx (by decide) (by decide)) (wy (by decide) (by decide)) pos bd hu hv bu bv)⟩))))))))))⟩
theorem aGN {n:Nat} {L:List D} (h:lY n L) (lo hi:Nat) (l:lo<=hi) (r:hi<=n):lY (hi - lo) (Dd.cutD L (some (lo:Int)) (some (hi:Int))):=by
 unfold Dd.cutD
 rw [h.1,HT.sIx_nat,HT.sIx_nat,Nat.min_eq_left (by omega),Nat.min_eq_left (by omega)]
 exact ⟨by rw [List.length_take,List.length_drop,h.1];omega,fun d hd=>h.2 d (List.mem_of_mem_drop (List.mem_of_mem_take hd))⟩
theorem e13:FQ (1 / 3:Rat) = D.tup [.int 1,.int 3]:=by
 unfold FQ
 rw [show (1 / 3:Rat).num = 1 by decide +kernel,show (1 / 3:Rat).den = 3 by decide +kernel];rfl
theorem g1 {a:Rat} (h:BQ 24 a):∃ A:Nat,0 < A/\A<=2 ^ 48/\Dv A a/\Ab (2 ^ 25) a :=
 ⟨a.den,a.den_pos,Nat.le_trans (Nat.le_of_lt (show a.den < 2 ^ 24 from h.2)) (by decide),.own a,(sZ h).mono (by decide)⟩
theorem gh {a:Rat} (h:BQ 24 a):∃ A:Nat,0 < A/\A<=2 ^ 48/\Dv A a/\Ab (2 ^ 25) a/\Ab (2 ^ 25) (a + a) :=
 ⟨a.den,a.den_pos,Nat.le_trans (Nat.le_of_lt (show a.den < 2 ^ 24 from h.2)) (by decide),.own a,(sZ h).mono (by decide),((sZ h).add (sZ h)).mono (by decide)⟩
theorem g2 {a b:Rat} (h:BQ 24 a) (h2:BQ 24 b):∃ A:Nat,0 < A/\A<=2 ^ 48/\(Dv A a/\Ab (2 ^ 25) a)/\Dv A b/\Ab (2 ^ 25) b :=
 ⟨a.den * b.den,Nat.mul_pos a.den_pos b.den_pos,Nat.le_trans (Nat.mul_le_mul (Nat.le_of_lt (show a.den < 2 ^ 24 from h.2)) (Nat.le_of_lt (show b.den < 2 ^ 24 from h2.2))) (by decide),⟨(Dv.own a).up _,(sZ h).mono (by decide)⟩,(Dv.own b).up' _,(sZ h2).mono (by decide)⟩
theorem g3 {t b:Int} (t0:0 < t) (t1:t<=12) (b0:0 < b) (b1:b<=12):plG 1 (2 ^ 25) (.grow ((t:Rat) / (b:Rat))):=by
 have c0:(b:Rat) ≠ 0:=by
  have:=yA b0
  grind
 refine ⟨t.toNat,b.toNat,by omega,by omega,?_⟩
 rw [<- Rat.intCast_natCast,<- Rat.intCast_natCast,Int.toNat_of_nonneg (by omega),Int.toNat_of_nonneg (by omega)]
 exact Rat.div_mul_cancel c0
theorem b13:BQ 24 (1 / 3):=⟨by unfold Bd;decide +kernel,by unfold Bd;decide +kernel⟩
noncomputable def lO:DSp:=fun ds M Q=>∃ (a:Addr) (n:Nat) (L:List D),ds = [.ref a]/\M a = some L/\lY n L/\8<=n/\∀ p,plB 100 p->(∃ A:Nat,0 < A/\A<=2 ^ 48/\plG A (2 ^ 25) p)->Q (plD p) M
noncomputable abbrev mH:Stmt:=top 74
theorem iN:aP ["_law_row_here","_law_words","_law_word","_law_one"] ["_law_row_here"] (aI mH):=⟨rfl,rfl,rfl,by decide +kernel,rfl,by decide +kernel,by decide +kernel⟩
theorem xV (hF:bO K mg "_law_plain" mH ["_law_row_here"]) (qJ:mg "int" = none) (eC:Has P w K mg base 102 "_law_drawn" ["_law_one","_law_other"] kW) (bL:Has P w K mg base 101 "_law_ratio" ["_law_top","_law_bottom"] fA) (rT:Has P w K mg base 103 "_law_bow" ["_law_row_here"] vB):Has P w K mg base 104 "_law_plain" ["_law_row_here"] lO:=by
 refine Has.mkZ hF iN (fun ds M Q ⟨_,_,_,z,_⟩=>by rw [z];rfl) fun f cdv A outer s H ds M Q E hr h=>?_
 obtain ⟨a,n,L,rfl,ha,hL,hn,q⟩:=h
 refine ⟨_,(aE (aO (i:=1) iN.nd (bN (aA aN (aA aN (aA aN (aA aN (aA aN (aA aN (aA aN (aA aN (aA aN (aA aN (aA aN (aA aN (aA aN aD)))))))))))))))
  (aE (aO (i:=2) iN.nd (aH (aL cF (aB 1) (bN (aA aN (aA aN (aA aN aD))))) (aL cQ (aH (aB 0) aC) aC)))
  (aE (aO (i:=3) iN.nd (aG eC hr (by decide) (aA (aH (aB 0) aC) (aA (aH (aB 0) aC) aD))))
  (aE (bA (aR sY (aB 2) (bN (aA aN (aA aN aD))) rfl) (aF (aM (aK (aA (aB 2) (aA (aB 3) aD))))) aX)
  (aE (bA (aR (cL hr) (aB 2) aN) (aF (aM (aK (aA (aB 2) (aA (aB 3) (aA (aG eC hr (by decide) (aA (aH (aB 0) aC) (aA (aH (aB 0) aC) aD))) aD)))))) aX)
  (aE (bA (aR (cL hr) (aB 2) aN) (aF (aM (aK (aA (aB 2) (aA (aG bL hr (by decide) (aA (aL cF aC (aL cQ (aH (aB 0) aC) aC)) (aA (aL cF aC (aL cQ (aH (aB 0) aC) aC)) aD))) aD))))) aX)
  (aE (bA (aR sY (aB 2) (bN (aA aN (aA aN aD))) rfl) (aF (aM (aK (aA (aB 2) (aA (aH (bN (aA (aB 3) (aA (aK (aA aC (aA aC aD))) aD))) (dU vV qJ (aA (lU (cL hr) (aH (aB 3) aC) aC) aD))) aD))))) aX)
  (aE (bA (aR (cL hr) (aB 2) aN) (aF (aM (aL tV (aK (aA (aB 2) aD)) (aG rT hr (by decide) (aA (zI (aB 0) (iW aC) (iW aC)) aD))))) aX)
  (aF (aM (aK (aA (aB 2) aD)))))))))))),?_⟩
 decreasing_tactic
 obtain ⟨z0,e0,_⟩:=hL.at (i:=0) (by omega)
 obtain ⟨z1,e1,_⟩:=hL.at (i:=1) (by omega)
 obtain ⟨z2,e2,_⟩:=hL.at (i:=2) (by omega)
 obtain ⟨z3,e3,_⟩:=hL.at (i:=3) (by omega)
 obtain ⟨z4,e4,_⟩:=hL.at (i:=4) (by omega)
 refine ⟨by decide,fun p0 hp0=>⟨by decide,fun p1 hp1=>?_⟩⟩
 obtain ⟨n10,hp1'⟩:=kN hp1
 refine ⟨_,_,by rw [cS (Ne.symm n10)];exact aJ,aJ,by decide,fun p2 hp2=>?_⟩
 have s1:=((bG.new hp0 [D.str "go",.str "go",.str "side",.str "quarter",.str "half",.str "arc",.str "dot",.str "skip",.str "left",.str "right",.str "round",.str "mirror",.str "grow"]).trans (bG.new hp1 [D.str "side",.str "quarter",.str "arc"])).trans (bG.new hp2 [D.str "go",.str "go",.str "side",.str "quarter",.str "half",.str "arc",.str "dot",.str "skip",.str "left",.str "right",.str "round",.str "mirror",.str "grow",.str "side",.str "quarter",.str "arc"])
 decreasing_tactic
 refine ⟨L,_,s1 _ _ ha,e0,?_⟩
 decreasing_tactic
 obtain ⟨wd,ew,hw⟩:∃ wd:Str,atI [D.str "go",.str "go",.str "side",.str "quarter",.str "half",.str "arc",.str "dot",.str "skip",.str "left",.str "right",.str "round",.str "mirror",.str "grow",.str "side",.str "quarter",.str "arc"] (z0.fmod 16) = some (.str wd)/\(((wd = "go" ∨ wd = "skip") ∨ wd = "side" ∨ wd = "grow") ∨ ((wd = "quarter" ∨ wd = "half") ∨ wd = "arc") ∨ (wd = "dot" ∨ wd = "left") ∨ wd = "right" ∨ wd = "round" ∨ wd = "mirror"):=by
  have h1:=Int.fmod_nonneg_of_pos z0 (show (0:Int) < 16 by decide)
  have h2:=Int.fmod_lt_of_pos z0 (show (0:Int) < 16 by decide)
  have:((z0.fmod 16 = 0 ∨ z0.fmod 16 = 1 ∨ z0.fmod 16 = 2 ∨ z0.fmod 16 = 3) ∨ z0.fmod 16 = 4 ∨ z0.fmod 16 = 5 ∨ z0.fmod 16 = 6 ∨ z0.fmod 16 = 7) ∨ (z0.fmod 16 = 8 ∨ z0.fmod 16 = 9 ∨ z0.fmod 16 = 10 ∨ z0.fmod 16 = 11) ∨ z0.fmod 16 = 12 ∨ z0.fmod 16 = 13 ∨ z0.fmod 16 = 14 ∨ z0.fmod 16 = 15:=by omega
  rcases this with ((e | e | e | e) | e | e | e | e) | (e | e | e | e) | e | e | e | e<;>rw [e]<;>exact ⟨_,rfl,by decide⟩
 refine ⟨by decide,_,_,aJ,ew,?_⟩
 generalize bI (bI (bI M p0 _) p1 _) p2 _ = M2 at s1 ⊢
 refine ⟨L,_,s1 _ _ ha,e1,L,_,s1 _ _ ha,e2,z1,z2,rfl,fun one bone _=>?_⟩
 decreasing_tactic
 refine ⟨by decide,fun p3 hp3=>⟨["go","skip"],aJ,?_⟩⟩
 have s3:=s1.trans (bG.new hp3 [D.str "go",.str "skip"])
 have ha3:=s3 _ _ ha
 decreasing_tactic
 generalize bI M2 p3 _ = M3 at s3 ha3 ⊢
 have m24 {x:Rat} (h:BQ 24 x):BQ 100 x:=h.mono (by decide)
 rcases hw with ((rfl | rfl) | rfl | rfl) | ((rfl | rfl) | rfl) | (rfl | rfl) | rfl | rfl | rfl
 ·exact ifT (by decide) ⟨by decide,M,s3,q (.go one) (m24 bone) (g1 bone)⟩
 ·exact ifT (by decide) ⟨by decide,M,s3,q (.skip one) (m24 bone) (g1 bone)⟩
 ·refine ifF (by decide) ?_
  rw [aS]
  refine ifT (by decide) ⟨L,_,ha3,e3,L,_,ha3,e4,z3,z4,rfl,fun two btwo _=>?_⟩
  decreasing_tactic
  exact ⟨by decide,M,s3,q (.side one two) ⟨m24 bone,m24 btwo⟩ (g2 bone btwo)⟩
 ·refine ifF (by decide) ?_
  rw [aS]
  refine ifF (by decide) ?_
  rw [aS]
  refine ifT (by decide) ⟨L,_,ha3,e1,?_⟩
  decreasing_tactic
  refine ⟨by decide,L,_,ha3,e2,?_⟩
  decreasing_tactic
  have h1:=Int.fmod_nonneg_of_pos z1 (show (0:Int) < 12 by decide)
  have h2:=Int.fmod_lt_of_pos z1 (show (0:Int) < 12 by decide)
  have h3:=Int.fmod_nonneg_of_pos z2 (show (0:Int) < 12 by decide)
  have h4:=Int.fmod_lt_of_pos z2 (show (0:Int) < 12 by decide)
  refine ⟨by decide,_,_,rfl,by omega,(aBj (by omega) (by omega)).mono (by decide),?_⟩
  decreasing_tactic
  have sp:(0:Rat) < ((1 + z1.fmod 12:Int):Rat) / ((1 + z2.fmod 12:Int):Rat):=wK (yA (by omega)) (yA (by omega))
  exact ⟨by decide,M,s3,q (.grow _) ⟨m24 (aE8 (by omega) (by omega) (by omega) (by omega)),sp⟩ ⟨1,by decide,by decide,g3 (by omega) (by omega) (by omega) (by omega)⟩⟩
 all_goals
  refine ifF (by decide) ?_
  rw [aS]
  refine ifF (by decide) ?_
  rw [aS]
  refine ifF (by decide) ?_
  refine ⟨by decide,fun p4 hp4=>⟨["quarter","half"],aJ,?_⟩⟩
  have s4:=s3.trans (bG.new hp4 [D.str "quarter",.str "half"])
  have ha4:=s4 _ _ ha
  decreasing_tactic
  generalize bI M3 p4 _ = M4 at s4 ha4 ⊢
 case inr.inl.inl.inl =>
  refine ifT (by decide) ⟨by decide,by decide,fun p5 hp5=>?_⟩
  rw [fM]
  by_cases c:one.num = 0
  ·rw [decide_eq_true c]
   have fin:=q (.quarter (1 / 3)) ⟨⟨by unfold Bd;decide +kernel,by unfold Bd;decide +kernel⟩,by decide +kernel⟩ (g1 b13)
   dsimp only [plD] at fin
   rw [e13] at fin
   exact ⟨_,_,aJ,rfl,by decide,M,s4.trans (bG.new hp5 _),fin⟩
  ·rw [decide_eq_false c]
   exact ⟨_,_,aJ,rfl,by decide,M,s4.trans (bG.new hp5 _),q (.quarter one) ⟨m24 bone,fun z=>c (by rw [z];rfl)⟩ (g1 bone)⟩
 case inr.inl.inl.inr =>
  refine ifT (by decide) ⟨by decide,by decide,fun p5 hp5=>?_⟩
  rw [fM]
  by_cases c:one.num = 0
  ·rw [decide_eq_true c]
   have fin:=q (.half (1 / 3)) ⟨⟨by unfold Bd;decide +kernel,by unfold Bd;decide +kernel⟩,by decide +kernel⟩ (gh b13)
   dsimp only [plD] at fin
   rw [e13] at fin
   exact ⟨_,_,aJ,rfl,by decide,M,s4.trans (bG.new hp5 _),fin⟩
  ·rw [decide_eq_false c]
   exact ⟨_,_,aJ,rfl,by decide,M,s4.trans (bG.new hp5 _),q (.half one) ⟨m24 bone,fun z=>c (by rw [z];rfl)⟩ (gh bone)⟩
 case inr.inl.inr =>
  refine ifF (by decide) ?_
  rw [aS]
  refine ifT (by decide) ⟨by decide,L,ha4,fun p5 hp5=>?_⟩
  refine ⟨p5,5,_,rfl,aJ,aGN hL 3 8 (by decide) (by omega),by decide,fun x y u v b1 b2 b3 b4 k1 k2 k3 kg=>?_⟩
  decreasing_tactic
  exact ⟨by decide,M,s4.trans (bG.new hp5 _),q (.arc x y u v) ⟨b1,b2,b3,b4,k1,k2,k3⟩ kg⟩
 all_goals
  refine ifF (by decide) ?_
  rw [aS]
  refine ifF (by decide) ⟨by decide,M,s4,?_⟩
 ·exact q .dot trivial ⟨1,by decide,by decide,trivial⟩
 ·exact q .left trivial ⟨1,by decide,by decide,trivial⟩
 ·exact q .right trivial ⟨1,by decide,by decide,trivial⟩
 ·exact q .rnd trivial ⟨1,by decide,by decide,trivial⟩
 ·exact q .mirror trivial ⟨1,by decide,by decide,trivial⟩
noncomputable def FA (A:Nat) (p:Pl):Prop:=plG A (2 ^ 25) p/\plB 100 p
theorem FA.up {A:Nat} {p:Pl} (h:FA A p) (m:Nat):FA (A * m) p:=⟨h.1.up m,h.2⟩
theorem aE0 (A:Nat):FA A .dot:=⟨trivial,trivial⟩
theorem aGo (A:Nat):FA A (.grow (1 / 12)):=⟨⟨1,12,by decide,by decide,by decide +kernel⟩,⟨by unfold Bd;decide +kernel,by unfold Bd;decide +kernel⟩,by decide +kernel⟩
theorem aHF {A:Nat} {p:Pl} (h:FA A p):gwR 704 (.pl p):=by
 cases p with
 | grow a =>
  rw [gwR]
  obtain ⟨t,b,⟨t0,t1⟩,⟨b0,b1⟩,e⟩:=h.1
  exact ⟨t,b,⟨t0,by omega⟩,⟨b0,by omega⟩,e⟩
 | _ =>
     rw [gwR];· trivial
     all_goals (intro _ z;cases z)
theorem SI.up {A m:Nat} {B M:DM} {st:Addr} {es:Es} {c:Nat} (h:SI (FA A) B M st es c):SI (FA (A * m)) B M st es c :=
 ⟨h.sub,h.new,h.hst,h.len,h.sum,fun i x hx=>by
  obtain ⟨⟨a1,a2,a3⟩,a4⟩:=h.ent i x hx
  exact ⟨⟨⟨a1.dp,a1.len,a1.dn,a1.gw,qB (fun p hp=>hp.up m) _ a1.al,a1.lt⟩,a2,a3⟩,a4⟩,h.nod⟩
noncomputable def mW:DSp:=fun ds M Q=>∃ (p0:Addr) (cs:List Int),ds = [.ref p0]/\M p0 = some (cs.map D.int)/\cs.length<=36/\∀ (rs:List Rw) (A:Nat) (M':DM),0 < A->A<=2 ^ (48 * 36)->(∀ r ∈ rs,Dp 4 r)->rs.length<=40->dnS rs<=300->gwS 704 rs->alS (FA A) rs->ltS rs/\hmS rs<=123->bG M M'->Q (.tup (aT rs)) M'
theorem SI.mono {F:Pl->Prop} {B M M':DM} {st:Addr} {es:Es} {c:Nat} (h:SI F B M st es c) (s:bG M M'):SI F B M' st es c :=
 ⟨h.sub.trans s,h.new,s _ _ h.hst,h.len,h.sum,fun i x hx=>by
  obtain ⟨⟨a1,a2,a3⟩,a4⟩:=h.ent i x hx
  exact ⟨⟨a1,s _ _ a2,a3⟩,a4⟩,h.nod⟩
theorem SI.start {F:Pl->Prop} {M:DM} {a0 st:Addr} (h0:M a0 = none) (hs:bI M a0 [] st = none):SI F M (bI (bI M a0 []) st [D.tup [.str "",.int 0,.ref a0]]) st [(⟨"",0,a0,[]⟩,0)] 0:=by
 obtain ⟨n,hs'⟩:=kN hs
 refine ⟨(bG.new h0 _).trans (bG.new hs _),hs',aJ,(by show 1<=5;omega),(by show 0 + 0 + (0 + 1)<=0 + 1;omega),fun i x hx=>?_,by simp⟩
 rcases mT (xs:=[]) hx with z | ⟨rfl,rfl⟩
 ·simp at z
 ·exact ⟨⟨⟨(fun r hr=>nomatch hr),Nat.le_refl _,(by show dnS []<=_;rw [dnS];exact Nat.zero_le _),(by show gwS _ [];rw [gwS];trivial),(by show alS _ [];rw [alS];trivial),(by show ltS [];rw [ltS];trivial),(by show hmS []<=_;rw [hmS];exact Nat.zero_le _)⟩,(by show bI _ st _ a0 = _;rw [cS (Ne.symm n)];exact aJ),h0⟩,n,(by show 0<=12;omega),fun z=>absurd z (by show ¬ 0 < 0;omega)⟩
theorem wO {p:Pl} (h:plB 100 p):plB 400 p:=by
 have m {x:Rat} (h:BQ 100 x):BQ 400 x:=h.mono (by decide)
 cases p with
 | go a=>exact m h
 | side a b=>exact ⟨m h.1,m h.2⟩
 | skip a=>exact m h
 | grow a=>exact ⟨m h.1,h.2⟩
 | quarter a=>exact ⟨m h.1,h.2⟩
 | half a=>exact ⟨m h.1,h.2⟩
 | arc a b c d=>exact ⟨m h.1,m h.2.1,m h.2.2.1,m h.2.2.2.1,h.2.2.2.2⟩
 | _=>trivial
theorem aB0 {B:Nat} {x y c:Rat} (h1:Ab B (x * c)) (h2:Ab B (y * c)):∀ n,Ab B ((rq x y n).1 * c)/\Ab B ((rq x y n).2 * c)
 | 0=>⟨h1,h2⟩
 | n + 1=>by
  obtain ⟨a,b⟩:=aB0 h1 h2 n
  refine ⟨?_,a⟩
  show Ab B (-(rq x y n).2 * c)
  rw [Rat.neg_mul]
  exact b.neg
theorem aCY {n m:Nat} (l:n<=m):Ab m (n:Rat):=by
 have:(n:Rat)<=(m:Rat):=by exact_mod_cast l
 exact ⟨by have:=aDJ n;have:=aDJ m;grind,this⟩
structure Gm (A W k:Nat) (f:Fm):Prop where
 ok:f.Ok
 pos:0 < f.s
 ex:∃ N T:Nat,((0 < N/\N<=12 ^ k)/\(0 < T/\T<=12 ^ k)/\f.s * (N:Rat) = (T:Rat))/\(Dv (N * A) f.px/\Dv (N * A) f.py)/\Ab (k * 12 ^ k * W) (f.px * (N:Rat))/\Ab (k * 12 ^ k * W) (f.py * (N:Rat))
theorem Gm.one {A W:Nat}:Gm A W 0 .one:=by
 have z:Ab (0 * 12 ^ 0 * W) ((0:Rat) * ((1:Nat):Rat)):=by rw [Rat.zero_mul];exact Ab.zero
 exact ⟨Fm.ok_one,by decide,1,1,⟨by decide,by decide,Rat.one_mul _⟩,⟨Dv.zero,Dv.zero⟩,z,z⟩
theorem Gm.comp {A W k j:Nat} {f g:Fm} (G:Gm A W k f) (H:Gm A W j g):Gm A W (k + j) (f.comp g):=by
 obtain ⟨N,T,⟨⟨n0,n1⟩,⟨t0,t1⟩,e⟩,⟨d1,d2⟩,a1,a2⟩:=G.ex
 obtain ⟨N',T',⟨⟨m0,m1⟩,⟨u0,u1⟩,e'⟩,⟨d1',d2'⟩,b1,b2⟩:=H.ex
 obtain ⟨r1,r2⟩:=aBm d1' (zO G.ok.2.2 d2') f.t.toNat
 have hb2:Ab (j * 12 ^ j * W) ((f.h:Rat) * g.py * (N':Rat)):=by
  rw [Rat.mul_assoc];exact zR G.ok.2.2 b2
 obtain ⟨c1,c2⟩:=aB0 b1 hb2 f.t.toNat
 have sd:=uM e
 have key:∀ (r p:Rat),Ab (j * 12 ^ j * W) (r * (N':Rat))->Ab (k * 12 ^ k * W) (p * (N:Rat))->Dv (N' * A) r->Dv (N * A) p->Dv (N * N' * A) (r * f.s + p)/\Ab ((k + j) * 12 ^ (k + j) * W) ((r * f.s + p) * ((N * N':Nat):Rat)):=fun r p x1 x2 x3 x4=>by
  constructor
  ·refine Dv.add ?_ ?_
   ·have:=x3.mul sd
    rw [show N * N' * A = N' * A * N by grind];exact this
   ·rw [show N * N' * A = N * A * N' by grind];exact x4.up N'
  ·have y1:=x1.mul (aCY t1)
   have y2:=x2.mul (aCY m1)
   have:=y1.add y2
   rw [show (r * f.s + p) * ((N * N':Nat):Rat) = r * (N':Rat) * (T:Rat) + p * (N:Rat) * (N':Rat) by rw [Rat.natCast_mul,<- e];grind]
   refine this.mono (Nat.le_of_eq ?_)
   rw [Nat.pow_add];grind
 have k1:=key _ _ c1 a1 r1 d1
 have k2:=key _ _ c2 a2 r2 d2
 refine ⟨G.ok.comp H.ok,Rat.mul_pos G.pos H.pos,N * N',T * T',⟨⟨Nat.mul_pos n0 m0,?_⟩,⟨Nat.mul_pos t0 u0,?_⟩,?_⟩,⟨k1.1,k2.1⟩,k1.2,k2.2⟩
 ·rw [Nat.pow_add];exact Nat.mul_le_mul n1 m1
 ·rw [Nat.pow_add];exact Nat.mul_le_mul t1 u1
 ·show f.s * g.s * ((N * N':Nat):Rat) = ((T * T':Nat):Rat)
  rw [Rat.natCast_mul,Rat.natCast_mul,<- e,<- e'];grind
theorem Gm.mono {A W k j:Nat} {f:Fm} (G:Gm A W k f) (l:k<=j):Gm A W j f:=by
 obtain ⟨N,T,⟨⟨n0,n1⟩,⟨t0,t1⟩,e⟩,d,a1,a2⟩:=G.ex
 have p:12 ^ k<=12 ^ j:=Nat.pow_le_pow_right (by decide) l
 have q:k * 12 ^ k * W<=j * 12 ^ j * W:=Nat.mul_le_mul_right _ (Nat.mul_le_mul l p)
 exact ⟨G.ok,G.pos,N,T,⟨⟨n0,Nat.le_trans n1 p⟩,⟨t0,Nat.le_trans t1 p⟩,e⟩,d,a1.mono q,a2.mono q⟩
theorem Gm.row {A W:Nat} {p:Pl} (h:plG A W p) (b:plB 400 p):Gm A W 1 (dJ p):=by
 obtain ⟨ok,⟨s1,⟨dx,dy⟩,ax,ay⟩ | ⟨x0,y0,gp,t,c,⟨t0,t1⟩,⟨c0,c1⟩,e⟩⟩:=uR h b
 ·have w:W<=1 * 12 ^ 1 * W:=by omega
  refine ⟨ok,by rw [s1];decide,1,1,⟨by decide,by decide,by rw [s1];exact Rat.one_mul _⟩,⟨dx.up' 1,dy.up' 1⟩,?_,?_⟩
  ·rw [show (dJ p).px * ((1:Nat):Rat) = (dJ p).px from Rat.mul_one _];exact ax.mono w
  ·rw [show (dJ p).py * ((1:Nat):Rat) = (dJ p).py from Rat.mul_one _];exact ay.mono w
 ·refine ⟨ok,gp,c,t,⟨⟨c0,c1⟩,⟨t0,t1⟩,e⟩,⟨by rw [x0];exact Dv.zero,by rw [y0];exact Dv.zero⟩,?_,?_⟩
  ·rw [x0,Rat.zero_mul];exact Ab.zero
  ·rw [y0,Rat.zero_mul];exact Ab.zero
theorem Gm.pw {A W k:Nat} {f:Fm} (G:Gm A W k f):∀ m,Gm A W (m * k) (pw f m)
 | 0=>by rw [Nat.zero_mul];exact Gm.one
 | m + 1=>by rw [Nat.succ_mul,Nat.add_comm];exact G.comp (G.pw m)
structure zP (A W K:Nat):Prop where
 a:0 < A
 b:K * 12 ^ K * W * A < 2 ^ 4400
 c:12 ^ K * A < 2 ^ 4400
theorem aIo {B:Nat} {z:Int} (h:Ab B (z:Rat)):z.natAbs<=B:=by
 obtain ⟨a,b⟩:=h
 have h1:-(B:Int)<=z:=by
  have:((-(B:Int):Int):Rat)<=(z:Rat):=by rw [Rat.intCast_neg,Rat.intCast_natCast];exact a
  exact_mod_cast this
 have h2:z<=(B:Int):=by
  have:(z:Rat)<=((B:Int):Rat):=by rw [Rat.intCast_natCast];exact b
  exact_mod_cast this
 omega
theorem zP.bq {A W K N:Nat} (n:zP A W K) {x:Rat} (n0:0 < N) (n1:N<=12 ^ K) (d:Dv (N * A) x) (a:Ab (K * 12 ^ K * W) (x * (N:Rat))):BQ 4400 x:=by
 obtain ⟨z,hz⟩:=d
 have h1:N * A < 2 ^ 4400:=Nat.lt_of_le_of_lt (Nat.mul_le_mul_right _ n1) n.c
 have h2:z.natAbs<=K * 12 ^ K * W * A:=aIo (by
  rw [<- hz,show x * ((N * A:Nat):Rat) = x * (N:Rat) * (A:Rat) by rw [Rat.natCast_mul];grind]
  exact a.mul (aCY (Nat.le_refl A)))
 have h0:0 < N * A:=Nat.mul_pos n0 n.a
 refine Dd.bq_of (m:=((N * A:Nat):Int)) (X:=z) (by omega) (by rw [Rat.intCast_natCast];exact hz) ?_ ?_
 ·exact Nat.lt_of_le_of_lt h2 n.b
 ·exact h1
theorem Gm.good {A W K k:Nat} {f:Fm} (n:zP A W K) (G:Gm A W k f) (l:k<=K):f.Good 4400:=by
 have G':=G.mono l
 obtain ⟨N,T,⟨⟨n0,n1⟩,⟨t0,t1⟩,e⟩,⟨d1,d2⟩,a1,a2⟩:=G'.ex
 have c1:12 ^ K < 2 ^ 4400:=Nat.lt_of_le_of_lt (Nat.le_mul_of_pos_right _ n.a) n.c
 have bs:BQ 4400 f.s:=Dd.bq_of (m:=(N:Int)) (X:=(T:Int)) (by omega) (by rw [Rat.intCast_natCast,Rat.intCast_natCast];exact e) (Nat.lt_of_le_of_lt t1 c1) (Nat.lt_of_le_of_lt n1 c1)
 exact ⟨n.bq n0 n1 d1 a1,n.bq n0 n1 d2 a2,G.ok.1,G.ok.2.1,G.ok.2.2,G.pos,bs⟩
theorem Gm.sc {A W K k j N':Nat} {f:Fm} {x:Rat} (n:zP A W K) (G:Gm A W k f) (l:k + j<=K) (m0:0 < N') (m1:N'<=12 ^ j) (d:Dv (N' * A) x) (a:Ab (j * 12 ^ j * W) (x * (N':Rat))):BQ 4400 (x * f.s):=by
 obtain ⟨N,T,⟨⟨n0,n1⟩,⟨t0,t1⟩,e⟩,_,_⟩:=G.ex
 have p:12 ^ (k + j)<=12 ^ K:=Nat.pow_le_pow_right (by decide) l
 refine n.bq (N:=N * N') (Nat.mul_pos n0 m0) ?_ ?_ ?_
 ·rw [Nat.pow_add] at p;exact Nat.le_trans (Nat.mul_le_mul n1 m1) p
 ·have:=d.mul (uM e)
  rw [show N * N' * A = N' * A * N by grind];exact this
 ·have y:=a.mul (aCY t1)
  rw [show x * f.s * ((N * N':Nat):Rat) = x * (N':Rat) * (T:Rat) by rw [Rat.natCast_mul,<- e];grind]
  refine y.mono ?_
  rw [show j * 12 ^ j * W * 12 ^ k = j * 12 ^ (k + j) * W by rw [Nat.pow_add];grind]
  exact Nat.mul_le_mul_right _ (Nat.mul_le_mul (by omega) p)
theorem Gm.ld {A W K k j:Nat} {f g:Fm} (n:zP A W K) (G:Gm A W k f) (H:Gm A W j g) (l:k + j<=K):LdB 4400 f.s g.px g.py:=by
 have hg:=H.good n (show j<=K by omega)
 obtain ⟨N',T',⟨⟨m0,m1⟩,_,_⟩,⟨d1',d2'⟩,b1,b2⟩:=H.ex
 exact ⟨hg.1,hg.2.1,G.sc n l m0 m1 d1' b1,G.sc n l m0 m1 d2' b2⟩
theorem Gf.mono {A W k j:Nat} {f:Fm} (G:Gf A W k f) (l:k<=j):Gf A W j f:=by
 obtain ⟨N,T,⟨n0,n1⟩,⟨t0,t1⟩,e,d1,d2⟩:=G.ex
 have p:12 ^ k<=12 ^ j:=Nat.pow_le_pow_right (by decide) l
 have q:k * 12 ^ k * W<=j * 12 ^ j * W:=Nat.mul_le_mul_right _ (Nat.mul_le_mul l p)
 exact ⟨G.ok,G.pos,⟨N,T,⟨n0,Nat.le_trans n1 p⟩,⟨t0,Nat.le_trans t1 p⟩,e,d1,d2⟩,G.ax.mono q,G.ay.mono q⟩
theorem aHw {s:Rat} {N T:Nat} (s0:0 < s) (e:s * (N:Rat) = (T:Rat)):1 / s * (T:Rat) = (N:Rat):=by
 have n0:s ≠ 0:=by grind
 rw [<- e];grind
theorem aCk {A N T:Nat} {s x:Rat} (e:1 / s * (T:Rat) = (N:Rat)) (d:Dv (N * A) x):Dv (T * A) (x * (1 / s)):=by
 obtain ⟨z,hz⟩:=d
 refine ⟨z,?_⟩
 rw [<- hz,Rat.natCast_mul,Rat.natCast_mul,<- e];grind
theorem aCe {B N T:Nat} {s x:Rat} (e:1 / s * (T:Rat) = (N:Rat)) (a:Ab B (x * (N:Rat))):Ab B (x * (1 / s) * (T:Rat)):=by
 rw [Rat.mul_assoc,e];exact a
theorem Gm.un {A W k:Nat} {f:Fm} (G:Gm A W k f):Gm A W k (unF f):=by
 obtain ⟨N,T,⟨⟨n0,n1⟩,⟨t0,t1⟩,e⟩,⟨d1,d2⟩,a1,a2⟩:=G.ex
 have e':=aHw G.pos e
 obtain ⟨r1,r2⟩:=aBm d1 (zO G.ok.2.2 d2) (tu f.t f.h).toNat
 have hb2:Ab (k * 12 ^ k * W) ((f.h:Rat) * f.py * (N:Rat)):=by
  rw [Rat.mul_assoc];exact zR G.ok.2.2 a2
 obtain ⟨c1,c2⟩:=aB0 a1 hb2 (tu f.t f.h).toNat
 have key:∀ r:Rat,Dv (N * A) r->Ab (k * 12 ^ k * W) (r * (N:Rat))->Dv (T * A) ((r * (1 / f.s) + 0) * -1)/\Ab (k * 12 ^ k * W) ((r * (1 / f.s) + 0) * -1 * (T:Rat)):=fun r x1 x2=>by
  rw [show (r * (1 / f.s) + 0) * -1 = -(r * (1 / f.s)) by grind]
  refine ⟨(aCk e' x1).neg,?_⟩
  rw [Rat.neg_mul]
  exact (aCe e' x2).neg
 have k1:=key _ r1 c1
 have k2:=key _ r2 c2
 exact ⟨⟨(qN _ _).1,(qN _ _).2,G.ok.2.2⟩,wK (by decide) G.pos,T,N,⟨⟨t0,t1⟩,⟨n0,n1⟩,e'⟩,⟨k1.1,k2.1⟩,k1.2,k2.2⟩
section
variable {A W K k j:Nat} {f g:Fm}
theorem aL5 (n:zP A W K) (G:Gm A W k f) (H:Gm A W j g) (l:k + j<=K):SeA f g:=by
 obtain ⟨N,T,⟨⟨n0,n1⟩,⟨t0,t1⟩,e⟩,⟨d1,d2⟩,a1,a2⟩:=(G.mono (show k<=K by omega)).ex
 have e':=aHw G.pos e
 have gf:=G.good n (by omega)
 exact ⟨gf,H.good n (by omega),⟨gf.1,gf.2.1,n.bq t0 t1 (aCk e' d1) (aCe e' a1),n.bq t0 t1 (aCk e' d2) (aCe e' a2)⟩,G.un.good n (by omega),H.ld n G.un (by omega)⟩
end
mutual
theorem aKl {A C:Nat} {Sf:Fm->Pl->Prop} {Se:Fm->Fm->Prop} (hs:∀ f p k,Gf A (2 ^ 25) k f->FA A p->k + 1<=C->Sf f p) (he:∀ f g k j,Gm A (2 ^ 25) k f->Gm A (2 ^ 25) j g->k<=C->j<=C->Se f g):∀ (r:Rw) (k:Nat) (f:Fm),Gf A (2 ^ 25) k f->Gm A (2 ^ 25) k f->alR (FA A) r->k + dnR r<=C->sfR Sf Se r f/\Gf A (2 ^ 25) (k + dnR r) (enR r f)/\Gm A (2 ^ 25) (k + dnR r) (enR r f)
 | .pl p,k,f,G,H,h,l=>by
  rw [alR] at h
  rw [dnR] at l ⊢
  rw [sfR,enR]
  exact ⟨hs f p k G h l,G.step h.1 (wO h.2),H.comp (Gm.row h.1 (wO h.2))⟩
 | .ag m ws,k,f,G,H,h,l=>by
  rw [alR] at h
  rw [dnR] at l ⊢
  rw [sfR,enR]
  have step:∀ i,i < m->k + dnS ws * i + dnS ws<=C:=fun i hi=>by
   have:dnS ws * (i + 1)<=dnS ws * m:=Nat.mul_le_mul_left _ hi
   rw [Nat.mul_succ] at this
   omega
  have all:∀ i,i<=m->Gf A (2 ^ 25) (k + dnS ws * i) (Nat.repeat (enS ws) i f)/\Gm A (2 ^ 25) (k + dnS ws * i) (Nat.repeat (enS ws) i f):=fun i=>by
   induction i with
   | zero=>exact fun _=>⟨G,H⟩
   | succ i ih =>
    intro hi
    have q:=ih (by omega)
    have:=(zH hs he ws _ _ q.1 q.2 h (step i (by omega))).2
    rw [Nat.mul_succ,<- Nat.add_assoc];exact this
  exact ⟨fun i hi=>(zH hs he ws _ _ (all i (by omega)).1 (all i (by omega)).2 h (step i hi)).1,all m (Nat.le_refl _)⟩
 | .kp ws,k,f,G,H,h,l=>by
  rw [alR] at h
  rw [dnR] at l ⊢
  rw [sfR,enR]
  exact ⟨(zH hs he ws k f G H h l).1,G.mono (by omega),H.mono (by omega)⟩
 | .ev ws,k,f,G,H,h,l=>by
  rw [alR] at h
  rw [dnR] at l ⊢
  rw [sfR,enR]
  have:=zH hs he ws k f G H h l
  exact ⟨⟨this.1,he _ _ _ _ H this.2.2 (by omega) l⟩,G.mono (by omega),H.mono (by omega)⟩
theorem zH {A C:Nat} {Sf:Fm->Pl->Prop} {Se:Fm->Fm->Prop} (hs:∀ f p k,Gf A (2 ^ 25) k f->FA A p->k + 1<=C->Sf f p) (he:∀ f g k j,Gm A (2 ^ 25) k f->Gm A (2 ^ 25) j g->k<=C->j<=C->Se f g):∀ (rs:List Rw) (k:Nat) (f:Fm),Gf A (2 ^ 25) k f->Gm A (2 ^ 25) k f->alS (FA A) rs->k + dnS rs<=C->sfS Sf Se rs f/\Gf A (2 ^ 25) (k + dnS rs) (enS rs f)/\Gm A (2 ^ 25) (k + dnS rs) (enS rs f)
 | [],k,f,G,H,_,l=>by
  rw [dnS] at l ⊢
  rw [sfS,enS]
  exact ⟨trivial,G,H⟩
 | r :: rs,k,f,G,H,h,l=>by
  rw [alS] at h
  rw [dnS] at l ⊢
  rw [sfS,enS]
  have h1:=aKl hs he r k f G H h.1 (by omega)
  have h2:=zH hs he rs _ _ h1.2.1 h1.2.2 h.2 (by omega)
  rw [Nat.add_assoc] at h2
  exact ⟨⟨h1.1,h2.1⟩,h2.2⟩
end
theorem pO {d N:Nat}:∀ rs:List Rw,(∀ r ∈ rs,gwR N r->evR r<=d * dnR r)->gwS N rs->evS rs<=d * dnS rs
 | [],_,_=>by rw [evS];exact Nat.zero_le _
 | r :: rs,h,g=>by
  rw [gwS] at g
  have h1:=h r (List.mem_cons_self ..) g.1
  have h2:=pO rs (fun x hx=>h x (List.mem_cons_of_mem _ hx)) g.2
  rw [evS,dnS,Nat.mul_add]
  omega
theorem yJ {N:Nat}:∀ {d:Nat} {r:Rw},Dp d r->gwR N r->evR r<=d * dnR r
 | _,.pl _,_,_=>by rw [evR];exact Nat.zero_le _
 | 0,.ag _ _,h,_=>h.elim
 | 0,.kp _,h,_=>h.elim
 | 0,.ev _,h,_=>h.elim
 | d + 1,.ag n rs,h,g=>by
  rw [gwR] at g
  have:=pO (d:=d) rs (fun r hr gr=>yJ (h.2.2 r hr) gr) g.2
  rw [evR,dnR,<- Nat.mul_assoc]
  exact Nat.mul_le_mul_right _ (Nat.le_trans this (Nat.mul_le_mul_right _ (by omega)))
 | d + 1,.kp rs,h,g=>by
  rw [gwR] at g
  have:=pO (d:=d) rs (fun r hr gr=>yJ (h.2 r hr) gr) g.2
  rw [evR,dnR]
  exact Nat.le_trans this (Nat.mul_le_mul_right _ (by omega))
 | d + 1,.ev rs,h,g=>by
  rw [gwR] at g
  have:=pO (d:=d) rs (fun r hr gr=>yJ (h.2 r hr) gr) g.2
  rw [evR,dnR,Nat.succ_mul]
  omega
theorem aJk {N d:Nat}:∀ {r:Rw},Dp (d + 1) r->gwR N r->evR r<=d * dnR r + 1
 | .pl _,_,_=>by rw [evR];exact Nat.zero_le _
 | .ag n rs,h,g=>by
  rw [gwR] at g
  have:=pO (d:=d) rs (fun r hr gr=>yJ (h.2.2 r hr) gr) g.2
  rw [evR,dnR,<- Nat.mul_assoc]
  exact Nat.le_succ_of_le (Nat.mul_le_mul_right _ this)
 | .kp rs,h,g=>by
  rw [gwR] at g
  have:=pO (d:=d) rs (fun r hr gr=>yJ (h.2 r hr) gr) g.2
  rw [evR,dnR]
  omega
 | .ev rs,h,g=>by
  rw [gwR] at g
  have:=pO (d:=d) rs (fun r hr gr=>yJ (h.2 r hr) gr) g.2
  rw [evR,dnR]
  omega
theorem uP {N d:Nat}:∀ rs:List Rw,(∀ r ∈ rs,Dp (d + 1) r)->gwS N rs->evS rs<=d * dnS rs + rs.length
 | [],_,_=>by rw [evS];exact Nat.zero_le _
 | r :: rs,h,g=>by
  rw [gwS] at g
  have h1:=aJk (h r (List.mem_cons_self ..)) g.1
  have h2:=uP rs (fun x hx=>h x (List.mem_cons_of_mem _ hx)) g.2
  rw [evS,dnS,Nat.mul_add,List.length_cons]
  omega
theorem aHy {A:Nat} {p:Pl} (h:FA A p):(dJ p).Ok:=(xG (wO h.2)).ok
mutual
theorem aBo {A:Nat}:∀ (r:Rw) (f:Fm),alR (FA A) r->f.Ok->(enR r .one).Ok/\enR r f = f.comp (enR r .one)
 | .pl p,f,h,hf=>by
  rw [alR] at h
  have ok:=aHy h
  rw [enR,enR,Fm.one_comp ok];exact ⟨ok,rfl⟩
 | .ag n ws,f,h,hf=>by
  rw [alR] at h
  rw [enR,enR]
  have:∀ m,(Nat.repeat (enS ws) m .one).Ok/\Nat.repeat (enS ws) m f = f.comp (Nat.repeat (enS ws) m .one):=fun m=>by
   induction m with
   | zero=>exact ⟨Fm.ok_one,(Fm.comp_one hf).symm⟩
   | succ m ih =>
    show (enS ws (Nat.repeat (enS ws) m .one)).Ok/\enS ws (Nat.repeat (enS ws) m f) = f.comp (enS ws (Nat.repeat (enS ws) m .one))
    obtain ⟨o,e⟩:=ih
    obtain ⟨eo,e1⟩:=jB ws (Nat.repeat (enS ws) m .one) h o
    obtain ⟨_,e2⟩:=jB ws (f.comp (Nat.repeat (enS ws) m .one)) h (hf.comp o)
    rw [e,e1,e2]
    exact ⟨o.comp eo,Fm.assoc hf o⟩
  exact this n
 | .kp ws,f,h,hf=>by rw [enR,enR];exact ⟨Fm.ok_one,(Fm.comp_one hf).symm⟩
 | .ev ws,f,h,hf=>by rw [enR,enR];exact ⟨Fm.ok_one,(Fm.comp_one hf).symm⟩
theorem jB {A:Nat}:∀ (rs:List Rw) (f:Fm),alS (FA A) rs->f.Ok->(enS rs .one).Ok/\enS rs f = f.comp (enS rs .one)
 | [],f,_,hf=>by rw [enS,enS];exact ⟨Fm.ok_one,(Fm.comp_one hf).symm⟩
 | r :: rs,f,h,hf=>by
  rw [alS] at h
  obtain ⟨o1,e1⟩:=aBo r f h.1 hf
  obtain ⟨o2,e2⟩:=jB rs (f.comp (enR r .one)) h.2 (hf.comp o1)
  obtain ⟨_,e3⟩:=jB rs (enR r .one) h.2 o1
  rw [enS,enS,e1,e2,e3]
  exact ⟨o1.comp o2,Fm.assoc hf o1⟩
end
theorem aCb {A:Nat} {ws:List Rw} (h:alS (FA A) ws):∀ n,Nat.repeat (enS ws) n .one = pw (enS ws .one) n
 | 0=>rfl
 | n + 1=>by
  have o:=(jB ws .one h Fm.ok_one).1
  show enS ws (Nat.repeat (enS ws) n .one) = (enS ws .one).comp (pw (enS ws .one) n)
  rw [aCb h n,(jB ws _ h (aCI o n)).2,aG4 o]
mutual
theorem gmR {A:Nat}:∀ r:Rw,alR (FA A) r->Gm A (2 ^ 25) (dnR r) (enR r .one)
 | .pl p,h=>by
  rw [alR] at h
  rw [dnR,enR,Fm.one_comp (aHy h)];exact Gm.row h.1 (wO h.2)
 | .ag n ws,h=>by
  rw [alR] at h
  rw [dnR,enR,aCb h,Nat.mul_comm];exact (gmS ws h).pw n
 | .kp ws,h=>by rw [dnR,enR];exact Gm.one.mono (Nat.zero_le _)
 | .ev ws,h=>by rw [dnR,enR];exact Gm.one.mono (Nat.zero_le _)
theorem gmS {A:Nat}:∀ rs:List Rw,alS (FA A) rs->Gm A (2 ^ 25) (dnS rs) (enS rs .one)
 | [],_=>by rw [dnS,enS];exact Gm.one
 | r :: rs,h=>by
  rw [alS] at h
  have g:=gmR r h.1
  rw [dnS,enS,(jB rs _ h.2 g.ok).2];exact g.comp (gmS rs h.2)
end
noncomputable def aLo (M:DM) (p0 st:Addr) (i:Nat) (ρ:cB) (M':DM):Prop:=∃ (A:Nat) (es:Es),(0 < A/\A<=2 ^ (48 * i))/\0 < es.length/\SI (FA A) M M' st es i/\∃ o2 o3 o4 o5 o6,ρ = [some (.ref p0),some (.ref st),o2,o3,o4,o5,o6]
theorem uJ {es:Es} (h:0 < es.length):∃ (es':Es) (u:En) (m:Nat),es = es' ++ [(u,m)]:=by
 have n:es ≠ []:=fun z=>by rw [z] at h;exact absurd h (by decide)
 exact ⟨es.dropLast,_,_,(List.dropLast_concat_getLast n).symm⟩
theorem aFn {es:Es} {u:En} {m:Nat}:(es ++ [(u,m)])[es.length]? = some (u,m):=by rw [List.getElem?_append_right (Nat.le_refl _)];simp
theorem pJ {A m i:Nat} {M M2:DM} {p0 st pr:Addr} {es:Es} {u:En} {L:List D} {o2 o3 o4 o5 o6:Option D} (ap:0 < A) (al:A<=2 ^ (48 * i)) (hi:i < 36) (si:SI (FA A) M M2 st (es ++ [(u,m)]) i) (hpr:M2 pr = some L) (hL:lY 12 L):∃ ds d,M2 st = some ds/\atI ds (-1) = some d/\jZ d (.int 2) M2 fun x M1=>match x with
  | .ref p=>(∃ ds,M1 p = some ds)/\lO [.ref pr] M1 fun x M1=>∃ ds y,[x] = [y]/\M1 p = some ds/\ds.length < 1000/\aLo M p0 st (i + 1) [some (.ref p0),some (.ref st),o2,o3,o4,o5,o6] (bI M1 p (ds ++ [y]))
  | _=>False:=by
 have hu:=si.ent _ _ aFn
 have sm:=si.sum
 rw [List.map_append,List.sum_append,List.length_append] at sm
 simp at sm
 refine ⟨_,enD u,si.hst,by unfold esD;rw [List.map_append];exact aFH,?_⟩
 show (∃ ds,M2 u.a = some ds)/\_
 refine ⟨⟨_,hu.1.2.1⟩,pr,12,L,rfl,hpr,hL,by decide,fun p pb ⟨B,b0,b1,pg⟩=>⟨_,_,rfl,hu.1.2.1,?_,?_⟩⟩
 ·have:=hu.1.1.len
  rw [cH];show u.rs.length < 1000
  have:(u,m).2 = m:=rfl
  simp only at *
  omega
 ·refine ⟨A * B,es ++ [({ u with rs:=u.rs ++ [.pl p] },m + 1)],⟨Nat.mul_pos ap b0,?_⟩,by rw [List.length_append];show 0 < _ + 1;omega,?_,_,_,_,_,_,rfl⟩
  ·rw [Nat.mul_add,Nat.mul_one,Nat.pow_add];exact Nat.mul_le_mul al b1
  ·have hp:FA (A * B) p:=⟨by rw [Nat.mul_comm];exact pg.up A,pb⟩
   have s1:=si.up (m:=B)
   refine s1.top (by rw [cS hu.2.1];exact si.hst) (by rw [gO];exact aJ) (eU.refl.put (by simp)) ((s1.ent _ _ aFn).1.1.row hp (aHF hp)) (by omega)
theorem vJ {A m m' i:Nat} {M M2:DM} {st:Addr} {es:Es} {u e:En} {Q:DQ} (hi:i<=40) (si:SI (FA A) M M2 st (es ++ [(u,m),(e,m')]) i) (q:∀ M' (es':Es),es'.length = es.length + 1->SI (FA A) M M' st es' (i + 1)->Q .non M'):lP [.ref st] M2 Q:=by
 have spl:es ++ [(u,m),(e,m')] = (es ++ [(u,m)]) ++ [(e,m')]:=by simp
 have ue:=si.ent es.length (u,m) (by rw [List.getElem?_append_right (Nat.le_refl _)];simp)
 have ee:=si.ent (es.length + 1) (e,m') (by rw [List.getElem?_append_right (by omega)];simp)
 have nd:=si.nod
 have sm:=si.sum
 have ln:=si.len
 simp at nd sm ln
 have l1:=ue.1.1.len
 have l2:=ee.1.1.len
 have d2:=ee.1.1.dn
 have f2:=aHr (m:=m')
 simp only at l1 l2 d2
 refine ⟨st,es.map (·.1),u,e,rfl,?_,by rw [List.length_map];omega,⟨ue.2.1,ee.2.1,?_⟩,ue.1.2.1,ee.1.2.1,ee.2.2.2 (by omega),ee.2.2.1,⟨by show e.rs.length<=1000;omega,fun r hr=>iL (d':=6) (ee.1.1.dp r hr) (Nat.le_trans (Nat.sub_le _ _) (by decide))⟩,ee.1.1.gw,by omega,by omega,by omega,fun M' h1 h2 k=>?_⟩
 ·rw [si.hst];unfold esD;simp
 ·intro z
  rw [List.nodup_append] at nd
  have:=nd.2.1
  rw [z] at this
  simp at this
 ·refine q M' _ ?_ (si.close ?_ h2 k (aE0 A) (aGo A) hi)
  ·rw [List.length_append];rfl
  ·rw [h1];unfold esD;simp
noncomputable abbrev gZ:Stmt:=top 80
theorem cR:aP ["_law_cells","_law_stack","_law_cell","_law_row_here","_law_way","_law_word","_law_rows"] ["_law_cells"] (aI gZ):=⟨rfl,rfl,rfl,by decide +kernel,rfl,by decide +kernel,by decide +kernel⟩
theorem tU (hF:bO K mg "_law_program" gZ ["_law_cells"]) (tH:mg "len" = none) (fF:mg "tuple" = none) (sJ:Has P w K mg base 101 "_law_row" ["_law_cell","_law_many_here"] xI) (mZ:Has P w K mg base 104 "_law_plain" ["_law_row_here"] lO) (jR:Has P w K mg base 120 "_law_close" ["_law_stack"] lP) (cV:Has P w K mg base 118 "_law_done" ["_law_rows"] (hG 8)):Has P w K mg base 121 "_law_program" ["_law_cells"] mW:=by
 refine Has.mkZ hF cR (fun ds M Q ⟨_,_,z,_⟩=>by rw [z];rfl) fun f cdv A outer s H ds M Q E hr h=>?_
 obtain ⟨p0,cs,rfl,hp0,hl,q⟩:=h
 refine ⟨_,(aE (aO (i:=1) cR.nd (bN (aA (aK (aA aN (aA aC (aA (bN aD) aD)))) aD)))
  (aE (aBh PassesOwn.never rfl (aB 0) (aQ (i:=2) cR.nd) (aE (aO (i:=3) cR.nd (aG sJ hr (by decide) (aA (aB 2) (aA aC aD))))
  (aE (aO (i:=4) cR.nd (aL cQ (aH (aB 3) aC) aC))
  (aF (bA (qO (lQ (aR vM (aB 4) aC) (kF (aR vM (eN aAR tH (aA (aB 1) aD)) aC)))) (aE (aO (i:=5) cR.nd (aH (bN (aA aN (aA aN (aA aN aD)))) (aB 4)))
  (mV (bA (qO (lQ (aR (cL hr) (aB 5) aN) (kF (aR sY aN (oF (⟨rfl,by decide +kernel,by decide +kernel,by decide +kernel,rfl,by decide +kernel⟩:qR ["_law_cells","_law_stack","_law_cell","_law_row_here","_law_way","_law_word","_law_rows"] (aI gZ) ["_law_block"] [none] _) rfl (aB 1) (fun _ _ _ _ _=>(aQ (i:=0) (show List.Nodup (["_law_block"]:List Str) by decide +kernel))) (fun _ _ _ _ _=>(aH (aB 0) aC))) rfl)))) (aF (aO (i:=5) cR.nd aN)) aX)
  (aF (cX (fR (aB 1) (aK (aA (aB 5) (aA (aL cQ (aH (aB 3) aC) (aH (bN (aA aC (aA aC (aA aC aD)))) (aL cQ (aH (aB 3) aC) aC))) (aA (bN aD) aD))))))))) (aF (bA (qO (lQ (aR (cL hr) (aB 4) aC) (kF (aR iE (eN aAR tH (aA (aB 1) aD)) aC)))) (aF (cX (aG jR hr (by decide) (aA (aB 1) aD)))) (aF (cX (fR (aH (aH (aB 1) (eI aC)) aC) (aG mZ hr (by decide) (aA (aB 3) aD))))))))))))
  (aE (kD PassesOwn.never (aR iE (eN aAR tH (aA (aB 1) aD)) aC) (aF (cX (aG jR hr (by decide) (aA (aB 1) aD)))))
  (aE (aO (i:=6) cR.nd (aH (aH (aB 1) aC) aC))
  (aE (kD PassesOwn.never (aR iE (aG cV hr (by decide) (aA (aB 6) aD)) aC) (aF (cX (aCw (aB 6)))))
  (aF (aM (dU nF fF (aA (aB 6) aD))))))))),?_⟩
 decreasing_tactic
 refine ⟨by decide,fun a0 h0=>⟨by decide,by decide,fun st hs=>?_⟩⟩
 have si0:=SI.start (F:=FA 1) h0 hs
 generalize bI (bI M a0 []) st _ = M0 at si0 ⊢
 refine ⟨_,si0.sub _ _ hp0,aLo M p0 st,⟨1,_,⟨by decide,by decide⟩,by show 0 < 1;omega,si0,_,_,_,_,_,rfl⟩,fun i ρ M' _ ⟨_,_,_,_,si,_⟩ a e=>by cases e;exact si.sub _ _ hp0,?_,?_⟩
 ·rintro i d ρ M1 hd ⟨A,es,⟨ap,al⟩,e0,si,o2,o3,o4,o5,o6,rfl⟩
  obtain ⟨c,_,rfl⟩:=List.mem_map.mp (List.mem_of_getElem? hd)
  have hi:i < 36:=by
   have:=(List.getElem?_eq_some_iff.mp hd).1
   rw [List.length_map] at this;omega
  decreasing_tactic
  refine ⟨c,12,rfl,by decide,by decide,fun pr L hpr hL=>?_⟩
  have si2:=si.mono (bG.new hpr L)
  have hpr2:bI M1 pr L pr = some L:=aJ
  have hL:lY 12 L:=hL
  generalize bI M1 pr L = M2 at si2 hpr2 ⊢
  clear si
  obtain ⟨z11,e11,_⟩:=hL.at (i:=11) (by omega)
  obtain ⟨z10,e10,_⟩:=hL.at (i:=10) (by omega)
  obtain ⟨z9,e9,_⟩:=hL.at (i:=9) (by omega)
  decreasing_tactic
  refine ⟨L,_,hpr2,e11,?_⟩
  decreasing_tactic
  refine ⟨by decide,?_⟩
  have hst:=si2.hst
  have sl:(esD es).length = es.length:=List.length_map _
  obtain ⟨es',u,m,rfl⟩:=uJ e0
  by_cases c1:z11.fmod 9 < 3
  ·refine ifT (decide_eq_true c1) ⟨_,hst,?_⟩
   rw [sl]
   by_cases c2:(es' ++ [(u,m)]).length < 5
   ·refine ifT (decide_eq_true (by omega)) ⟨by decide,fun p hp=>?_⟩
    have s3:=bG.new hp [D.str "again",.str "keep",.str "ever"]
    obtain ⟨wd,ew,hw⟩:∃ wd:Str,atI [D.str "again",.str "keep",.str "ever"] (z11.fmod 9) = some (.str wd)/\wd3 wd:=by
     have h1:=Int.fmod_nonneg_of_pos z11 (show (0:Int) < 9 by decide)
     have:z11.fmod 9 = 0 ∨ z11.fmod 9 = 1 ∨ z11.fmod 9 = 2:=by omega
     rcases this with e | e | e<;>rw [e]
     ·exact ⟨_,rfl,.inl rfl⟩
     ·exact ⟨_,rfl,.inr (.inl rfl)⟩
     ·exact ⟨_,rfl,.inr (.inr rfl)⟩
    refine ⟨_,_,aJ,ew,fun ρ' M'=>bG M2 M'/\∃ wd o6,wd3 wd/\ρ' = [some (.ref p0),some (.ref st),some (.int c),some (.ref pr),some (.int (z11.fmod 9)),some (.str wd),o6],?_,?_⟩
    ·generalize bI M2 p _ = M3 at s3
     rw [aS]
     by_cases ce:wd = "ever"
     ·refine ifT (decide_eq_true ce) ⟨_,s3 _ _ hst,by rw [sl];omega,fun i ys M'=>M' = M3/\ys = ((es' ++ [(u,m)]).take i).map (fun x=>D.str x.1.wd),⟨rfl,rfl⟩,fun i ys M' _ h a e=>by cases e;rw [h.1];exact s3 _ _ hst,?_,?_⟩
      ·rintro i d ys M' hd ⟨rfl,rfl⟩
       unfold esD at hd
       rw [List.getElem?_map] at hd
       obtain ⟨x,hx,rfl⟩:=Option.map_eq_some_iff.mp hd
       rw [show enD x.1 = .tup [.str x.1.wd,.int (x.1.n:Int),.ref x.1.a] from rfl]
       decreasing_tactic
       exact ⟨rfl,by rw [dM hx,List.map_append];rfl⟩
      ·rintro ys M' ly ⟨rfl,rfl⟩ pt hpt
       have s4:=s3.trans (bG.new hpt ((((es' ++ [(u,m)]).take (esD (es' ++ [(u,m)])).length)).map (fun x=>D.str x.1.wd)))
       decreasing_tactic
       refine ⟨((es' ++ [(u,m)]).take (esD (es' ++ [(u,m)])).length).map (fun x=>x.1.wd),by rw [aJ,List.map_map];rfl,?_⟩
       split
       ·exact ⟨s4,_,_,.inr (.inl rfl),rfl⟩
       ·exact ⟨s4,_,_,hw,rfl⟩
     ·exact ifF (decide_eq_false ce) (ifF rfl ⟨s3,_,_,hw,rfl⟩)
    ·rintro ρ' M3 ⟨s3',wd,o6,hw,rfl⟩
     have si3:=si2.mono s3'
     have hpr3:=s3' _ _ hpr2
     clear s3 hp s3'
     decreasing_tactic
     refine ⟨⟨_,si3.hst⟩,L,_,hpr3,e10,by decide,fun p4 hp4=>?_⟩
     have s4:=bG.new hp4 [D.int 3,.int 3,.int 13]
     refine ⟨L,_,s4 _ _ hpr3,e9,?_⟩
     decreasing_tactic
     obtain ⟨k,ek,hk⟩:∃ k:Int,atI [D.int 3,.int 3,.int 13] (z9.fmod 3) = some (.int k)/\(k = 3 ∨ k = 13):=by
      have h1:=Int.fmod_nonneg_of_pos z9 (show (0:Int) < 3 by decide)
      have h2:=Int.fmod_lt_of_pos z9 (show (0:Int) < 3 by decide)
      have:z9.fmod 3 = 0 ∨ z9.fmod 3 = 1 ∨ z9.fmod 3 = 2:=by omega
      rcases this with e | e | e<;>rw [e]
      ·exact ⟨_,rfl,.inl rfl⟩
      ·exact ⟨_,rfl,.inl rfl⟩
      ·exact ⟨_,rfl,.inr rfl⟩
     refine ⟨by decide,_,_,aJ,ek,?_⟩
     decreasing_tactic
     have si4:=si3.mono s4
     generalize bI M3 p4 _ = M4 at s4 si4
     have h1:=Int.fmod_nonneg_of_pos z10 (show (0:Int) < k by omega)
     have h2:=Int.fmod_lt_of_pos z10 (show (0:Int) < k by omega)
     refine ⟨by omega,by decide,fun p5 hp5=>⟨by decide,_,_,rfl,(bG.new hp5 []) _ _ si4.hst,by rw [sl];omega,?_⟩⟩
     have n5:p5 ≠ st:=fun z=>by rw [z,si4.hst] at hp5;cases hp5
     refine ⟨A,(es' ++ [(u,m)]) ++ [(⟨wd,(z10.fmod k).toNat,p5,[]⟩,0)],⟨ap,Nat.le_trans al (Nat.pow_le_pow_right (by decide) (by omega))⟩,by rw [List.length_append];show 0 < _ + 1;omega,?_,_,_,_,_,_,rfl⟩
     refine si4.push c2 hp5 ?_ ?_ ?_ hw (by omega) (Nat.le_refl _)
     ·rw [aJ]
      have e:esD ((es' ++ [(u,m)]) ++ [(⟨wd,(z10.fmod k).toNat,p5,[]⟩,0)]) = esD (es' ++ [(u,m)]) ++ [D.tup [.str wd,.int ((z10.fmod k).toNat:Int),.ref p5]]:=by unfold esD;rw [List.map_append (l₁:=es' ++ [(u,m)])];rfl
      rw [e,Int.toNat_of_nonneg h1]
     ·rw [cS n5];exact aJ
     ·exact (eU.refl.put (by simp)).put (by simp)
   ·refine ifF (decide_eq_false (by omega)) ?_
    rw [fM]
    refine ifF (decide_eq_false (by omega)) (ifF rfl ?_)
    exact pJ ap al hi si2 hpr2 hL
  ·refine ifF (decide_eq_false c1) (ifF rfl ?_)
   rw [fM]
   by_cases c3:z11.fmod 9 = 3
   ·refine ifT (decide_eq_true c3) ⟨_,hst,?_⟩
    rw [sl]
    by_cases c2:1 < (es' ++ [(u,m)]).length
    ·refine ifT (decide_eq_true (by omega)) ?_
     have l0:0 < es'.length:=by rw [List.length_append] at c2;simp at c2;omega
     obtain ⟨es2,u2,m2,rfl⟩:=uJ l0
     rw [List.append_assoc] at si2
     refine vJ (by omega) si2 fun M' es3 l3 si3=>?_
     exact ⟨A,es3,⟨ap,Nat.le_trans al (Nat.pow_le_pow_right (by decide) (by omega))⟩,by omega,si3,_,_,_,_,_,rfl⟩
    ·refine ifF (decide_eq_false (by omega)) ?_
     exact pJ ap al hi si2 hpr2 hL
   ·refine ifF (decide_eq_false c3) (ifF rfl ?_)
    exact pJ ap al hi si2 hpr2 hL
 ·rintro ρ M' ⟨A,es,⟨ap,al⟩,e0,si,o2,o3,o4,o5,o6,rfl⟩
  rw [List.length_map] at al si
  have al:A<=2 ^ (48 * 36):=Nat.le_trans al (Nat.pow_le_pow_right (by decide) (by omega))
  refine kI (fun m ρ M'=>∃ (c:Nat) (es:Es),m = es.length/\0 < es.length/\c + es.length<=41/\SI (FA A) M M' st es c/\∃ o2 o3 o4 o5 o6,ρ = [some (.ref p0),some (.ref st),o2,o3,o4,o5,o6]) es.length ⟨cs.length,es,rfl,e0,by have:=si.len;omega,si,_,_,_,_,_,rfl⟩ ?_
  clear si e0 es
  rintro m ρ M1 ⟨c,es,rfl,e0,hc,si,o2,o3,o4,o5,o6,rfl⟩
  have sl:(esD es).length = es.length:=List.length_map _
  decreasing_tactic
  refine ⟨_,si.hst,?_⟩
  rw [sl]
  obtain ⟨es',u,m,rfl⟩:=uJ e0
  by_cases c2:1 < (es' ++ [(u,m)]).length
  ·refine ifT (decide_eq_true (by omega)) ?_
   have le:(es' ++ [(u,m)]).length = es'.length + 1:=by rw [List.length_append];rfl
   obtain ⟨es2,u2,m2,rfl⟩:=uJ (show 0 < es'.length by omega)
   have le2:(es2 ++ [(u2,m2)]).length = es2.length + 1:=by rw [List.length_append];rfl
   rw [List.append_assoc] at si
   refine vJ (by omega) si fun M' es3 l3 si3=>?_
   exact ⟨es3.length,by omega,c + 1,es3,rfl,by omega,by omega,si3,_,_,_,_,_,rfl⟩
  ·refine ifF (decide_eq_false (by omega)) ?_
   have l0:es' = []:=by
    have le:(es' ++ [(u,m)]).length = es'.length + 1:=by rw [List.length_append];rfl
    exact List.eq_nil_of_length_eq_zero (by omega)
   subst l0
   have hu:=si.ent 0 (u,m) rfl
   have sm:=si.sum
   simp at sm
   refine ⟨_,_,si.hst,aAY,?_⟩
   show jZ (.tup [.str u.wd,.int (u.n:Int),.ref u.a]) (.int 2) M1 _
   decreasing_tactic
   have ok:=hu.1.1
   refine kI (fun m ρ M'=>∃ rs:List Rw,m = rs.length/\rs.length<=40/\(∀ r ∈ rs,Dp 4 r)/\gwS 704 rs/\alS (FA A) rs/\(ltS rs/\hmS rs<=123)/\M' u.a = some (aT rs)/\bG M M'/\∃ o1 o2 o3 o4 o5,ρ = [some (.ref p0),o1,o2,o3,o4,o5,some (.ref u.a)]) u.rs.length ⟨u.rs,rfl,by have:=ok.len;simp only at this;omega,ok.dp,ok.gw,ok.al,⟨ok.lt.1,by have:=ok.lt.2;simp only at this;omega⟩,hu.1.2.1,si.sub,_,_,_,_,_,rfl⟩ ?_
   have ua:=hu.1.2.2
   clear si hu sm ok hc c2 e0 sl
   rintro m ρ M2 ⟨rs,rfl,lr,dp,gw,al2,⟨lt2,hm2⟩,hM,sub,o1,o2,o3,o4,o5,rfl⟩
   decreasing_tactic
   have d8:DpS 8 rs:=⟨by omega,fun r hr=>iL (d':=7) (dp r hr) (by decide)⟩
   refine ⟨_,rs,rfl,.inr ⟨_,rfl,hM⟩,d8,?_⟩
   decreasing_tactic
   by_cases c3:300 < dnS rs
   ·refine ifT (decide_eq_true (by omega)) ?_
    have rn:rs ≠ []:=fun z=>by rw [z,dnS] at c3;omega
    obtain ⟨rs',r,rfl⟩:∃ rs' r,rs = rs' ++ [r]:=⟨_,_,(List.dropLast_concat_getLast rn).symm⟩
    have el:aT (rs' ++ [r]) = aT rs' ++ [rwD r]:=by rw [gO,aT,aT]
    have ll:(rs' ++ [r]).length = rs'.length + 1:=by rw [List.length_append];rfl
    rw [el] at hM
    refine ⟨_,rwD r,hM,by simp,rs'.length,by omega,rs',rfl,by omega,fun x hx=>dp x (List.mem_append_left _ hx),(gY.mp gw).1,(iM.mp al2).1,⟨(lB.mp lt2).1,by rw [eA] at hm2;omega⟩,by rw [aJ,List.dropLast_concat],?_,_,_,_,_,_,rfl⟩
    exact mQ sub (eU.refl.put (List.mem_singleton.mpr rfl)) fun a ha=>by rw [List.mem_singleton.mp ha];exact ua
   ·refine ifF (decide_eq_false (by omega)) ?_
    decreasing_tactic
    exact ⟨_,hM,dN (q rs A M2 ap al dp lr (by omega) gw al2 ⟨lt2,hm2⟩ sub)⟩
noncomputable def aDt:Lg->List (Rat × Rat)
 | .st x y u v=>[(x,y),(u,v)]
 | .bd a b c d e f _=>[(a,b),(c,d),(e,f)]
noncomputable def PtG (A j:Nat) (p:Rat × Rat):Prop:=∃ h:Fm,Gm A (2 ^ 25) j h/\h.px = p.1/\h.py = p.2
theorem PtG.led {A j k:Nat} {f:Fm} {p:Rat × Rat} (G:Gm A (2 ^ 25) k f) (h:PtG A j p):PtG A (k + j) (ldX f.px f.t f.h f.s p.1 p.2,ldY f.py f.t f.h f.s p.1 p.2):=by
 obtain ⟨g,H,e1,e2⟩:=h
 exact ⟨f.comp g,G.comp H,by rw [<- e1,<- e2];rfl,by rw [<- e1,<- e2];rfl⟩
noncomputable def LgP (A j:Nat) (l:Lg):Prop:=(∀ a b c d e g w,l = .bd a b c d e g w->w = 1 ∨ w = -1)/\∀ q ∈ aDt l,PtG A j q
theorem LgP.led {A j k:Nat} {f:Fm} {l:Lg} (G:Gm A (2 ^ 25) k f) (h:LgP A j l):LgP A (k + j) (ldL f l):=by
 cases l with
 | st x y u v =>
  refine ⟨fun a b c d e g w z=>(by cases z),fun q hq=>?_⟩
  rcases List.mem_cons.mp hq with rfl | z
  ·exact (h.2 (x,y) (by simp [aDt])).led G
  ·rw [List.mem_singleton.mp z]
   exact (h.2 (u,v) (by simp [aDt])).led G
 | bd a b c d e g w =>
  refine ⟨fun a' b' c' d' e' g' w' y=>?_,fun q hq=>?_⟩
  ·cases y
   rcases h.1 _ _ _ _ _ _ _ rfl with r | r<;>rcases G.ok.2.2 with s | s<;>rw [r,s]<;>decide
  ·rcases List.mem_cons.mp hq with rfl | z
   ·exact (h.2 (a,b) (by simp [aDt])).led G
   rcases List.mem_cons.mp z with rfl | z
   ·exact (h.2 (c,d) (by simp [aDt])).led G
   ·rw [List.mem_singleton.mp z]
    exact (h.2 (e,g) (by simp [aDt])).led G
theorem aJB {A k:Nat} {ws:List Rw} {f:Fm} (h:alS (FA A) ws) (G:Gm A (2 ^ 25) k f) (i:Nat):Gm A (2 ^ 25) (k + i * dnS ws) (Nat.repeat (enS ws) i f):=by
 have:=(aBo (.ag i ws) f (by rw [alR];exact h) G.ok).2
 rw [enR,enR,aCb h] at this
 rw [this]
 exact G.comp ((gmS ws h).pw i)
theorem aKN {A:Nat} (a0:0 < A) (h:A<=2 ^ 1777):zP A (2 ^ 25) 704:=by
 refine ⟨a0,Nat.lt_of_le_of_lt (Nat.mul_le_mul_left _ h) (by decide +kernel),Nat.lt_of_le_of_lt (Nat.mul_le_mul_left _ h) (by decide +kernel)⟩
theorem aF9 {A:Nat} (a0:0 < A) (h:A<=2 ^ 1777):wZ A (2 ^ 25) 300 :=
 ⟨a0,by decide,Nat.lt_of_le_of_lt (Nat.mul_le_mul_left _ (Nat.mul_le_mul_left _ h)) (by decide +kernel),by decide +kernel⟩
theorem aCT {rs:List Rw} {A:Nat} (nm:zP A (2 ^ 25) 704) (n3:wZ A (2 ^ 25) 300) (dp:DpS 8 rs) (ev:evS rs<=1000) (dn:dnS rs<=300) (al:alS (FA A) rs):vO rs:=by
 obtain ⟨s1,_⟩:=zH (C:=300) (Sf:=SfA) (Se:=SeA) (fun f p k G h l=>G.sf n3 (by omega) h.1 (wO h.2)) (fun f g k j G H l1 l2=>aL5 nm G H (by omega)) rs 0 .one Gf.one Gm.one al (by omega)
 exact ⟨dp,s1,ev⟩
theorem aA1:∀ {L:List D},(∀ d ∈ L,∃ c,d = .int c)->∃ cs:List Int,L = cs.map D.int
 | [],_=>⟨[],rfl⟩
 | d :: L,h=>by
  obtain ⟨c,rfl⟩:=h d (List.mem_cons_self ..)
  obtain ⟨cs,e⟩:=aA1 fun x hx=>h x (List.mem_cons_of_mem _ hx)
  exact ⟨c :: cs,by rw [e];rfl⟩
theorem aB6 {B:Nat}:∀ fs:List Pl,(∀ p ∈ fs,FA B p/\kG p = none)->((∀ r ∈ fs.map Rw.pl,Dp 0 r)/\gwS 704 (fs.map Rw.pl)/\alS (FA B) (fs.map Rw.pl))/\(evS (fs.map Rw.pl) = 0/\dnS (fs.map Rw.pl) = fs.length/\nmS (fs.map Rw.pl) = (fs.length:Int))/\∀ a f rd,lgS (fs.map Rw.pl) a f rd = []/\edS (fs.map Rw.pl) a f rd = []
 | [],_=>by
  rw [List.map_nil,gwS,alS,evS,dnS,nmS]
  exact ⟨⟨(fun r hr=>nomatch hr),trivial,trivial⟩,⟨rfl,rfl,rfl⟩,fun a f rd=>by rw [lgS,edS];exact ⟨rfl,rfl⟩⟩
 | p :: fs,h=>by
  obtain ⟨⟨i1,i2,i3⟩,⟨i4,i5,i6⟩,i7⟩:=aB6 fs fun p hp=>h p (List.mem_cons_of_mem _ hp)
  obtain ⟨h1,h2⟩:=h p (List.mem_cons_self ..)
  rw [List.map_cons,gwS,alS,alR,evS,evR,dnS,dnR,nmS,nmR,i4,i5,i6,List.length_cons]
  refine ⟨⟨fun r hr=>?_,⟨aHF h1,i2⟩,h1,i3⟩,⟨rfl,Nat.add_comm _ _,by omega⟩,fun a f rd=>?_⟩
  ·rcases List.mem_cons.mp hr with rfl | z
   ·unfold Dp;trivial
   ·exact i1 r z
  ·rw [lgS,edS,lgR,edR,h2,(i7 _ _ _).1,(i7 _ _ _).2];exact ⟨rfl,rfl⟩
structure Ar (fs:List Pl) (ss:List Rw) (N B:Nat):Prop where
 nm:zP B (2 ^ 25) 704
 n3:wZ B (2 ^ 25) 300
 ff:∀ p ∈ fs,FA B p/\kG p = none
 lf:fs.length<=5
 dp:∀ r ∈ ss,Dp 4 r
 len:ss.length<=43
 ev:evS ss = 0
 dn:1<=dnS ss/\dnS ss<=143
 gw:gwS 704 ss
 al:alS (FA B) ss
 hN:N<=12
 nd:fs.length + dnS ss * N<=300
noncomputable def fO (fs:List Pl):Fm:=enS (fs.map Rw.pl) .one
noncomputable def sO (fs:List Pl) (ss:List Rw) (i:Nat):Fm:=Nat.repeat (enS ss) i (fO fs)
section
variable {fs:List Pl} {ss:List Rw} {N B:Nat}
theorem Ar.f (h:Ar fs ss N B):Gm B (2 ^ 25) fs.length (fO fs):=by
 obtain ⟨⟨_,_,i3⟩,⟨_,i5,_⟩,_⟩:=aB6 fs h.ff
 have:=gmS _ i3
 rw [i5] at this;exact this
theorem Ar.s (h:Ar fs ss N B) (i:Nat):Gm B (2 ^ 25) (fs.length + i * dnS ss) (sO fs ss i):=aJB h.al h.f i
end
mutual
theorem aG3:∀ (r:Rw) (a b:Int) (f:Fm) (rd rd':List Int),(lgR r a f rd).map (·.1) = (lgR r b f rd').map (·.1)
 | .pl p,a,b,f,rd,rd'=>by rw [lgR,lgR,List.map_map,List.map_map];rfl
 | .ag n rs,a,b,f,rd,rd'=>by
  rw [lgR,lgR,List.map_flatMap,List.map_flatMap]
  congr 1
  funext i
  exact oI rs _ _ _ _ _
 | .kp rs,a,b,f,rd,rd'=>by rw [lgR,lgR];exact oI rs _ _ _ _ _
 | .ev rs,a,b,f,rd,rd'=>by rw [lgR,lgR]
theorem oI:∀ (rs:List Rw) (a b:Int) (f:Fm) (rd rd':List Int),(lgS rs a f rd).map (·.1) = (lgS rs b f rd').map (·.1)
 | [],a,b,f,rd,rd'=>by rw [lgS,lgS]
 | r :: rs,a,b,f,rd,rd'=>by rw [lgS,lgS,List.map_append,List.map_append,aG3 r a b f rd rd',oI rs _ (b + nmR r) _ rd rd']
end
noncomputable def kyE (e:Ed):Fm × List Lg:=(e.f,e.ls.map (·.1))
mutual
theorem aHe:∀ (r:Rw) (a b:Int) (f:Fm) (rd rd':List Int),(edR r a f rd).map kyE = (edR r b f rd').map kyE
 | .pl p,a,b,f,rd,rd'=>by rw [edR,edR]
 | .ag n rs,a,b,f,rd,rd'=>by
  rw [edR,edR,List.map_flatMap,List.map_flatMap]
  congr 1
  funext i
  exact qG rs _ _ _ _ _
 | .kp rs,a,b,f,rd,rd'=>by rw [edR,edR];exact qG rs _ _ _ _ _
 | .ev rs,a,b,f,rd,rd'=>by
  rw [edR,edR,List.map_cons,List.map_cons,List.map_nil]
  unfold kyE
  dsimp only
  rw [oI rs (a + 1) (b + 1) f [] []]
theorem qG:∀ (rs:List Rw) (a b:Int) (f:Fm) (rd rd':List Int),(edS rs a f rd).map kyE = (edS rs b f rd').map kyE
 | [],a,b,f,rd,rd'=>by rw [edS,edS]
 | r :: rs,a,b,f,rd,rd'=>by rw [edS,edS,List.map_append,List.map_append,aHe r a b f rd rd',qG rs _ (b + nmR r) _ rd rd']
end
mutual
noncomputable def opR:Rw->List Rw
 | .pl p=>[.pl p]
 | .ag n rs=>(List.replicate n (opS rs)).flatten
 | .kp rs=>[.kp (opS rs)]
 | .ev rs=>[.ev (opS rs)]
noncomputable def opS:List Rw->List Rw
 | []=>[]
 | r :: rs=>opR r ++ opS rs
end
theorem qP:∀ xs ys:List Rw,opS (xs ++ ys) = opS xs ++ opS ys
 | [],ys=>by rw [List.nil_append,opS,List.nil_append]
 | x :: xs,ys=>by rw [List.cons_append,opS,opS,qP xs ys,List.append_assoc]
theorem iX {n:Nat} (xs:List Rw):(List.replicate (n + 1) xs).flatten = (List.replicate n xs).flatten ++ xs:=by
 rw [List.replicate_succ',List.flatten_append];simp
theorem aAG (xs:List Rw):∀ n,hmS (List.replicate n xs).flatten = n * hmS xs
 | 0=>by rw [List.replicate_zero,List.flatten_nil,hmS,Nat.zero_mul]
 | n + 1=>by rw [iX,eA,aAG xs n,Nat.succ_mul]
theorem aDd (xs:List Rw):∀ n,dnS (List.replicate n xs).flatten = dnS xs * n
 | 0=>by rw [List.replicate_zero,List.flatten_nil,dnS,Nat.mul_zero]
 | n + 1=>by rw [iX,fE,aDd xs n,Nat.mul_succ]
theorem aC1 (xs:List Rw):∀ n,evS (List.replicate n xs).flatten = evS xs * n
 | 0=>by rw [List.replicate_zero,List.flatten_nil,evS,Nat.mul_zero]
 | n + 1=>by rw [iX,uF,aC1 xs n,Nat.mul_succ]
theorem aCN {F:Pl->Prop} {xs:List Rw} (h:alS F xs):∀ n,alS F (List.replicate n xs).flatten
 | 0=>by rw [List.replicate_zero,List.flatten_nil,alS];trivial
 | n + 1=>by rw [iX];exact iM.mpr ⟨aCN h n,h⟩
theorem uQ:∀ rs:List Rw,rs.length<=hmS rs
 | []=>Nat.zero_le _
 | r :: rs=>by
  have:=uQ rs
  have:1<=hmR r:=by cases r<;>rw [hmR]<;>omega
  rw [hmS,List.length_cons];omega
theorem aFa:∀ {rs:List Rw} {r:Rw},r ∈ rs->hmR r<=hmS rs
 | x :: xs,r,h=>by
  rw [hmS]
  rcases List.mem_cons.mp h with rfl | z
  ·omega
  ·have:=aFa z;omega
theorem aAA:∀ {rs:List Rw} {r:Rw},ltS rs->r ∈ rs->ltR r
 | x :: xs,r,h,m=>by
  rw [ltS] at h
  rcases List.mem_cons.mp m with rfl | z
  ·exact h.1
  ·exact aAA h.2 z
theorem aFB {d:Nat}:∀ rs:List Rw,(∀ r ∈ rs,ltR r->hmS (opR r)<=12 ^ d * hmR r)->ltS rs->hmS (opS rs)<=12 ^ d * hmS rs
 | [],_,_=>by rw [opS,hmS];exact Nat.zero_le _
 | r :: rs,h,l=>by
  rw [ltS] at l
  rw [opS,eA,hmS,Nat.mul_add]
  have h1:=h r (List.mem_cons_self ..) l.1
  have h2:=aFB rs (fun x hx=>h x (List.mem_cons_of_mem _ hx)) l.2
  omega
theorem aGB:∀ {d:Nat} {r:Rw},Dp d r->ltR r->hmS (opR r)<=12 ^ d * hmR r
 | d,.pl p,_,_=>by
  rw [opR,hmS,hmS,hmR]
  have:=Nat.pow_pos (n:=d) (show 0 < 12 by decide)
  omega
 | 0,.ag _ _,h,_=>h.elim
 | 0,.kp _,h,_=>h.elim
 | 0,.ev _,h,_=>h.elim
 | d + 1,.ag n rs,h,l=>by
  rw [ltR] at l
  have:=aFB rs (fun r hr=>aGB (h.2.2 r hr)) l.2
  rw [opR,aAG,hmR,Nat.pow_succ]
  have m:=Nat.mul_le_mul l.1 this
  have:12 ^ d * 12 * (1 + hmS rs) = 12 ^ d * 12 + 12 * (12 ^ d * hmS rs):=by grind
  omega
 | d + 1,.kp rs,h,l=>by
  rw [ltR] at l
  have:=aFB rs (fun r hr=>aGB (h.2 r hr)) l
  rw [opR,hmS,hmS,hmR,hmR,Nat.pow_succ]
  have p:=Nat.pow_pos (n:=d) (show 0 < 12 by decide)
  have:12 ^ d * 12 * (1 + hmS rs) = 12 ^ d * 12 + 12 * (12 ^ d * hmS rs):=by grind
  omega
 | d + 1,.ev rs,h,l=>by
  rw [ltR] at l
  have:=aFB rs (fun r hr=>aGB (h.2 r hr)) l
  rw [opR,hmS,hmS,hmR,hmR,Nat.pow_succ]
  have p:=Nat.pow_pos (n:=d) (show 0 < 12 by decide)
  have:12 ^ d * 12 * (1 + hmS rs) = 12 ^ d * 12 + 12 * (12 ^ d * hmS rs):=by grind
  omega
theorem aK9 {d:Nat} {rs:List Rw} (h:DpS (d + 1) rs) (l:ltS rs):hmS (opS rs)<=12 ^ d * hmS rs:=aFB rs (fun r hr=>aGB (h.2 r hr)) l
mutual
theorem aHM:∀ r:Rw,dnS (opR r) = dnR r
 | .pl p=>by rw [opR,dnS,dnS];rfl
 | .ag n rs=>by rw [opR,aDd,rR rs,dnR]
 | .kp rs=>by rw [opR,dnS,dnS,dnR,rR rs,dnR];rfl
 | .ev rs=>by rw [opR,dnS,dnS,dnR,rR rs,dnR];rfl
theorem rR:∀ rs:List Rw,dnS (opS rs) = dnS rs
 | []=>by rw [opS]
 | r :: rs=>by rw [opS,fE,aHM r,rR rs,dnS]
end
mutual
theorem aHW:∀ r:Rw,evS (opR r) = evR r
 | .pl p=>by rw [opR,evS,evS];rfl
 | .ag n rs=>by rw [opR,aC1,vQ rs,evR]
 | .kp rs=>by rw [opR,evS,evS,evR,vQ rs,evR];rfl
 | .ev rs=>by rw [opR,evS,evS,evR,vQ rs,evR]
theorem vQ:∀ rs:List Rw,evS (opS rs) = evS rs
 | []=>by rw [opS]
 | r :: rs=>by rw [opS,uF,aHW r,vQ rs,evS]
end
mutual
theorem aJf {F:Pl->Prop}:∀ r:Rw,alR F r->alS F (opR r)
 | .pl p,h=>by rw [opR,alS,alS];exact ⟨h,trivial⟩
 | .ag n rs,h=>by rw [alR] at h;rw [opR];exact aCN (xL rs h) n
 | .kp rs,h=>by rw [alR] at h;rw [opR,alS,alS,alR];exact ⟨xL rs h,trivial⟩
 | .ev rs,h=>by rw [alR] at h;rw [opR,alS,alS,alR];exact ⟨xL rs h,trivial⟩
theorem xL {F:Pl->Prop}:∀ rs:List Rw,alS F rs->alS F (opS rs)
 | [],h=>by rw [opS];exact h
 | r :: rs,h=>by rw [alS] at h;rw [opS];exact iM.mpr ⟨aJf r h.1,xL rs h.2⟩
end
theorem uB (xs:List Rw) (f:Fm):∀ n,enS (List.replicate n xs).flatten f = Nat.repeat (enS xs) n f
 | 0=>by rw [List.replicate_zero,List.flatten_nil,enS];rfl
 | n + 1=>by rw [iX,uE,uB xs f n];rfl
mutual
theorem aBG:∀ (r:Rw) (f:Fm),enS (opR r) f = enR r f
 | .pl p,f=>by rw [opR,enS,enS]
 | .ag n rs,f=>by rw [opR,uB,show enS (opS rs) = enS rs from funext (uT rs),enR]
 | .kp rs,f=>by rw [opR,enS,enS,enR,enR]
 | .ev rs,f=>by rw [opR,enS,enS,enR,enR]
theorem uT:∀ (rs:List Rw) (f:Fm),enS (opS rs) f = enS rs f
 | [],f=>by rw [opS]
 | r :: rs,f=>by rw [opS,uE,aBG r,uT rs,enS]
end
theorem aCx (xs:List Rw) (f:Fm) (b:Int) (rd:List Int):∀ (n:Nat) (a:Int),(lgS (List.replicate n xs).flatten a f rd).map (·.1) = ((List.range n).flatMap fun i=>lgS xs b (Nat.repeat (enS xs) i f) (rd ++ [(i:Int)])).map (·.1)
 | 0,a=>by rw [List.replicate_zero,List.flatten_nil,lgS];rfl
 | n + 1,a=>by
  rw [iX,tX,List.map_append,aCx xs f b rd n a,uB,List.range_succ,List.flatMap_append,List.map_append]
  congr 1
  simp only [List.flatMap_cons,List.flatMap_nil,List.append_nil]
  exact oI xs _ _ _ _ _
theorem aCZ (xs:List Rw) (f:Fm) (b:Int) (rd:List Int):∀ (n:Nat) (a:Int),(edS (List.replicate n xs).flatten a f rd).map kyE = ((List.range n).flatMap fun i=>edS xs b (Nat.repeat (enS xs) i f) (rd ++ [(i:Int)])).map kyE
 | 0,a=>by rw [List.replicate_zero,List.flatten_nil,edS];rfl
 | n + 1,a=>by
  rw [iX,tW,List.map_append,aCZ xs f b rd n a,uB,List.range_succ,List.flatMap_append,List.map_append]
  congr 1
  simp only [List.flatMap_cons,List.flatMap_nil,List.append_nil]
  exact qG xs _ _ _ _ _
mutual
theorem aJc:∀ (r:Rw) (a:Int) (f:Fm) (rd:List Int),(lgS (opR r) a f rd).map (·.1) = (lgR r a f rd).map (·.1)
 | .pl p,a,f,rd=>by rw [opR,lgS,lgS,List.append_nil]
 | .ag n rs,a,f,rd=>by
  rw [opR,aCx (opS rs) f (a + 1) rd n a,lgR,show enS (opS rs) = enS rs from funext (uT rs),List.map_flatMap,List.map_flatMap]
  congr 1
  funext i
  exact xH rs _ _ _
 | .kp rs,a,f,rd=>by rw [opR,lgS,lgS,lgR,List.append_nil,lgR];exact xH rs _ _ _
 | .ev rs,a,f,rd=>by rw [opR,lgS,lgS,lgR,lgR];rfl
theorem xH:∀ (rs:List Rw) (a:Int) (f:Fm) (rd:List Int),(lgS (opS rs) a f rd).map (·.1) = (lgS rs a f rd).map (·.1)
 | [],a,f,rd=>by rw [opS]
 | r :: rs,a,f,rd=>by
  rw [opS,tX,List.map_append,aJc r,aBG,lgS,List.map_append,<- xH rs (a + nmR r),oI (opS rs) (a + nmS (opR r)) (a + nmR r) _ rd rd]
end
mutual
theorem aIy:∀ (r:Rw) (a:Int) (f:Fm) (rd:List Int),(edS (opR r) a f rd).map kyE = (edR r a f rd).map kyE
 | .pl p,a,f,rd=>by rw [opR,edS,edS,List.append_nil]
 | .ag n rs,a,f,rd=>by
  rw [opR,aCZ (opS rs) f (a + 1) rd n a,edR,show enS (opS rs) = enS rs from funext (uT rs),List.map_flatMap,List.map_flatMap]
  congr 1
  funext i
  exact aAv rs _ _ _
 | .kp rs,a,f,rd=>by rw [opR,edS,edS,edR,List.append_nil,edR];exact aAv rs _ _ _
 | .ev rs,a,f,rd=>by
  rw [opR,edS,edS,edR,edR,List.append_nil,List.map_cons,List.map_cons,List.map_nil]
  unfold kyE
  dsimp only
  rw [uT,xH]
theorem aAv:∀ (rs:List Rw) (a:Int) (f:Fm) (rd:List Int),(edS (opS rs) a f rd).map kyE = (edS rs a f rd).map kyE
 | [],a,f,rd=>by rw [opS]
 | r :: rs,a,f,rd=>by
  rw [opS,tW,List.map_append,aIy r,aBG,edS,List.map_append,<- aAv rs (a + nmR r),qG (opS rs) (a + nmS (opR r)) (a + nmR r) _ rd rd]
end
theorem aAt:∀ {d:Nat} {r:Rw},Dp d r->hmS (opR r)<=1000->∀ x ∈ opR r,Dp d x
 | d,.pl p,h,_,x,hx=>by rw [opR] at hx;rw [List.mem_singleton.mp hx];unfold Dp;trivial
 | 0,.ag _ _,h,_,_,_=>h.elim
 | 0,.kp _,h,_,_,_=>h.elim
 | 0,.ev _,h,_,_,_=>h.elim
 | d + 1,.ag n rs,h,l,x,hx=>by
  rw [opR] at hx l
  obtain ⟨ys,hy,hx⟩:=List.mem_flatten.mp hx
  have n0:n ≠ 0:=fun z=>by rw [z] at hy;simp at hy
  rw [(List.mem_replicate.mp hy).2] at hx
  rw [aAG] at l
  have l2:hmS (opS rs)<=1000:=by
   have:1 * hmS (opS rs)<=n * hmS (opS rs):=Nat.mul_le_mul_right _ (by omega)
   omega
  have key:∀ ws:List Rw,(∀ r ∈ ws,Dp d r)->hmS (opS ws)<=1000->∀ x ∈ opS ws,Dp d x:=fun ws=>by
   induction ws with
   | nil=>intro _ _ x hx;rw [opS] at hx;cases hx
   | cons w ws ih =>
    intro h1 h2 x hx
    rw [opS,eA] at h2
    rw [opS] at hx
    rcases List.mem_append.mp hx with z | z
    ·exact aAt (h1 w (List.mem_cons_self ..)) (by omega) x z
    ·exact ih (fun r hr=>h1 r (List.mem_cons_of_mem _ hr)) (by omega) x z
  exact (key rs h.2.2 l2 x hx).up
 | d + 1,.kp rs,h,l,x,hx=>by
  rw [opR] at hx l
  rw [hmS,hmS,hmR] at l
  rw [List.mem_singleton.mp hx]
  have key:∀ ws:List Rw,(∀ r ∈ ws,Dp d r)->hmS (opS ws)<=1000->∀ x ∈ opS ws,Dp d x:=fun ws=>by
   induction ws with
   | nil=>intro _ _ x hx;rw [opS] at hx;cases hx
   | cons w ws ih =>
    intro h1 h2 x hx
    rw [opS,eA] at h2
    rw [opS] at hx
    rcases List.mem_append.mp hx with z | z
    ·exact aAt (h1 w (List.mem_cons_self ..)) (by omega) x z
    ·exact ih (fun r hr=>h1 r (List.mem_cons_of_mem _ hr)) (by omega) x z
  exact ⟨by have:=uQ (opS rs);omega,key rs h.2 (by omega)⟩
 | d + 1,.ev rs,h,l,x,hx=>by
  rw [opR] at hx l
  rw [hmS,hmS,hmR] at l
  rw [List.mem_singleton.mp hx]
  have key:∀ ws:List Rw,(∀ r ∈ ws,Dp d r)->hmS (opS ws)<=1000->∀ x ∈ opS ws,Dp d x:=fun ws=>by
   induction ws with
   | nil=>intro _ _ x hx;rw [opS] at hx;cases hx
   | cons w ws ih =>
    intro h1 h2 x hx
    rw [opS,eA] at h2
    rw [opS] at hx
    rcases List.mem_append.mp hx with z | z
    ·exact aAt (h1 w (List.mem_cons_self ..)) (by omega) x z
    ·exact ih (fun r hr=>h1 r (List.mem_cons_of_mem _ hr)) (by omega) x z
  exact ⟨by have:=uQ (opS rs);omega,key rs h.2 (by omega)⟩
theorem aDZ {d:Nat}:∀ rs:List Rw,(∀ r ∈ rs,Dp d r)->hmS (opS rs)<=1000->∀ x ∈ opS rs,Dp d x
 | [],_,_,x,hx=>by rw [opS] at hx;cases hx
 | r :: rs,h,l,x,hx=>by
  rw [opS,eA] at l
  rw [opS] at hx
  rcases List.mem_append.mp hx with z | z
  ·exact aAt (h r (List.mem_cons_self ..)) (by omega) x z
  ·exact aDZ rs (fun w hw=>h w (List.mem_cons_of_mem _ hw)) (by omega) x z
noncomputable def aAn (d:Nat):DSp:=fun ds M Q=>∃ rs,ds = [.tup (aT rs)]/\DpS d rs/\Q (.int (hmS (opS rs):Int)) M
noncomputable abbrev gF:Stmt:=top 57
theorem bZ:aP ["rows","many","row","within"] ["rows"] (aI gF):=⟨rfl,rfl,rfl,by decide +kernel,rfl,by decide +kernel,by decide +kernel⟩
theorem oK (hF:bO K mg "how_many_opened" gF ["rows"]) (bF:Has P w K mg base 101 "rows_within" ["row"] dD):Has P w K mg base 118 "how_many_opened" ["rows"] (aAn 8):=by
 have all:∀ d,Has P w K mg base (110 + d) "how_many_opened" ["rows"] (aAn d):=fun d=>by
  induction d with
  | zero=>exact (Has.never hF bZ 109).imp fun ds M Q ⟨rs,_,z,_⟩=>z
  | succ d bS =>
   refine Has.mkZ (k:=110 + d) hF bZ (fun ds M Q ⟨a,z,_⟩=>by rw [z];rfl) fun f cdv A outer s H ds M Q E hr h=>?_
   obtain ⟨rs,rfl,dp,q⟩:=h
   refine ⟨_,(aE (aO (i:=1) bZ.nd aC)
  (aE (kK PassesOwn.never rfl (aB 0) (aQ (i:=2) bZ.nd) (aE (aO (i:=3) bZ.nd (aG bF hr (by omega) (aA (aB 2) aD)))
  (aF (bA (aR (cL hr) (aH (aB 2) aC) aN) (aF (kE (i:=1) vR bZ.nd (aL bE (aH (aB 2) aC) (aG bS hr (by omega) (aA (aB 3) aD))))) (aF (kE (i:=1) vR bZ.nd (gR (aR aC0 (aB 3) fL) aC (aL cF aC (aG bS hr (by omega) (aA (aB 3) aD))))))))))
  (aF (aM (aB 1))))),?_⟩
   decreasing_tactic
   refine ⟨fun i ρ M'=>M' = M/\∃ o1 o2,ρ = [some (.tup (aT rs)),some (.int (hmS (opS (rs.take i)):Int)),o1,o2],⟨rfl,_,_,by rw [List.take_zero,opS,hmS];rfl⟩,fun i ρ M' _ _ a e=>(by cases e),?_,?_⟩
   ·rintro i d1 ρ M' hd ⟨rfl,o1,o2,rfl⟩
    obtain ⟨r,hr',rfl⟩:=fK hd
    have dr:=dp.2 r (List.mem_of_getElem? hr')
    decreasing_tactic
    refine ⟨r,rfl,?_⟩
    have fin:hmS (opS (rs.take (i + 1))) = hmS (opS (rs.take i)) + hmS (opR r):=by rw [dM hr',qP,eA,opS,opS,List.append_nil]
    rw [fin]
    cases r with
    | pl p =>
     obtain ⟨w0,cE,e,w1,w2,w3⟩:=rK p
     dsimp only [inR,rwD]
     rw [e]
     decreasing_tactic
     rw [aAY]
     decreasing_tactic
     rw [aS]
     refine ifF (decide_eq_false w1) (ifT rfl ?_)
     rw [opR,hmS,hmS,hmR,Int.natCast_add]
     exact ⟨rfl,_,_,rfl⟩
    | ag n ws =>
     obtain ⟨hn,dw⟩:=qE dr
     dsimp only [inR,rwD]
     decreasing_tactic
     rw [aS]
     refine ifT (by decide) ⟨ws,rfl,dw,iD (by unfold Bd;omega),?_⟩
     rw [opR,aAG,Int.natCast_add,Int.natCast_mul]
     exact ⟨rfl,_,_,rfl⟩
    | kp ws =>
     have dw:=tI dr
     dsimp only [inR,rwD]
     decreasing_tactic
     rw [aS]
     refine ifF (by decide) (ifF rfl ⟨ws,rfl,dw,?_⟩)
     rw [opR,hmS,hmS,hmR,Int.natCast_add,Nat.add_zero,Int.natCast_add]
     exact ⟨rfl,_,_,rfl⟩
    | ev ws =>
     have dw:=tG dr
     dsimp only [inR,rwD]
     decreasing_tactic
     rw [aS]
     refine ifF (by decide) (ifF rfl ⟨ws,rfl,dw,?_⟩)
     rw [opR,hmS,hmS,hmR,Int.natCast_add,Nat.add_zero,Int.natCast_add]
     exact ⟨rfl,_,_,rfl⟩
   ·rintro ρ M' ⟨rfl,o1,o2,rfl⟩
    rw [cH,List.take_length]
    exact dN q
 exact all 8
theorem yS (xs:List Rw) (n:Nat):aT (List.replicate n xs).flatten = (List.replicate n (aT xs)).flatten:=by
 rw [dH,dH,List.map_flatten,List.map_replicate]
noncomputable def Rm (d:Nat) (rs:List Rw):Prop:=DpS (d + 1) rs/\ltS rs/\12 ^ d * hmS rs<=5000000
theorem Rm.len {d:Nat} {rs:List Rw} (h:Rm d rs) (i:Nat):(aT (opS (rs.take i))).length<=5000000:=by
 have h1:=uQ (opS (rs.take i))
 have h2:=aK9 h.1 h.2.1
 have h3:hmS (opS rs) = hmS (opS (rs.take i)) + hmS (opS (rs.drop i)):=by rw [<- eA,<- qP,List.take_append_drop]
 have:=h.2.2
 rw [cH];omega
theorem Rm.sub {d:Nat} {rs ws:List Rw} {r:Rw} (h:Rm (d + 1) rs) (m:r ∈ rs) (dw:DpS (d + 1) ws) (lt:ltS ws) (hm:hmS ws<=hmR r):Rm d ws:=by
 refine ⟨dw,lt,?_⟩
 have h1:=aFa m
 have h2:=h.2.2
 have:12 ^ d * hmS ws<=12 ^ (d + 1) * hmS rs:=Nat.mul_le_mul (Nat.pow_le_pow_right (by decide) (by omega)) (by omega)
 omega
theorem Rm.row {d:Nat} {rs:List Rw} {r:Rw} (h:Rm (d + 1) rs) (m:r ∈ rs):Dp (d + 1) r/\ltR r:=⟨h.1.2 r m,aAA h.2.1 m⟩
noncomputable def gC (d:Nat):DSp:=fun ds M Q=>∃ rs,ds = [.tup (aT rs)]/\(∃ e,e + 1 = d/\Rm e rs)/\Q (.tup (aT (opS rs))) M
noncomputable abbrev jU:Stmt:=top 58
theorem dE:aP ["rows","told","row","within"] ["rows"] (aI jU):=⟨rfl,rfl,rfl,by decide +kernel,rfl,by decide +kernel,by decide +kernel⟩
theorem tR (hF:bO K mg "opened_rows" jU ["rows"]) (bF:Has P w K mg base 101 "rows_within" ["row"] dD):Has P w K mg base 115 "opened_rows" ["rows"] (gC 5):=by
 have all:∀ d,Has P w K mg base (110 + d) "opened_rows" ["rows"] (gC d):=fun d=>by
  induction d with
  | zero=>exact (Has.never hF dE 109).imp fun ds M Q ⟨rs,_,⟨e,z,_⟩,_⟩=>absurd z (by omega)
  | succ d cN =>
   refine Has.mkZ (k:=110 + d) hF dE (fun ds M Q ⟨a,z,_⟩=>by rw [z];rfl) fun f cdv A outer s H ds M Q E hr h=>?_
   obtain ⟨rs,rfl,⟨e,ee,rm⟩,q⟩:=h
   obtain rfl:e = d:=by omega
   refine ⟨_,(aE (aO (i:=1) dE.nd (aK aD))
  (aE (kK PassesOwn.never rfl (aB 0) (aQ (i:=2) dE.nd) (aE (aO (i:=3) dE.nd (aG bF hr (by omega) (aA (aB 2) aD)))
  (aF (bA (aR (cL hr) (aH (aB 2) aC) aN) (aF (yO (i:=1) dE.nd (aL aFL (aG cN hr (by omega) (aA (aB 3) aD)) (aH (aB 2) aC)))) (aF (yO (i:=1) dE.nd (aK (aA (gR (aR aC0 (aB 3) fL) (aB 2) (aK (aA (aH (aB 2) aC) (aA (aG cN hr (by omega) (aA (aB 3) aD)) aD)))) aD))))))))
  (aF (aM (aB 1))))),?_⟩
   decreasing_tactic
   refine ⟨by decide,fun i ρ M'=>M' = M/\∃ o1 o2,ρ = [some (.tup (aT rs)),some (.tup (aT (opS (rs.take i)))),o1,o2],⟨rfl,_,_,by rw [List.take_zero,opS,aT]⟩,fun i ρ M' _ _ a e=>(by cases e),?_,?_⟩
   ·rintro i d1 ρ M' hd ⟨rfl,o1,o2,rfl⟩
    obtain ⟨r,hr',rfl⟩:=fK hd
    have mr:=List.mem_of_getElem? hr'
    have l0:=rm.len i
    have l1:=rm.len (i + 1)
    decreasing_tactic
    refine ⟨r,rfl,?_⟩
    have fin:aT (opS (rs.take (i + 1))) = aT (opS (rs.take i)) ++ aT (opR r):=by rw [dM hr',qP,gO,opS,opS,List.append_nil]
    rw [fin] at l1 ⊢
    rw [List.length_append] at l1
    have sub:∀ ws:List Rw,DpS e ws->ltS ws->hmS ws<=hmR r->∃ e',e' + 1 = e/\Rm e' ws:=fun ws h1 h2 h3=>by
     cases e with
     | zero=>exact h1.elim
     | succ e=>exact ⟨e,rfl,rm.sub mr h1 h2 h3⟩
    have lt:=aAA rm.2.1 mr
    have dr:=rm.1.2 r mr
    cases r with
    | pl p =>
     obtain ⟨w0,cE,e,w1,w2,w3⟩:=rK p
     rw [opR,aT,aT] at l1 ⊢
     dsimp only [inR]
     rw [show rwD (.pl p) = plD p by rw [rwD]] at l1 ⊢
     rw [e] at l1 ⊢
     decreasing_tactic
     rw [aAY]
     decreasing_tactic
     rw [aS]
     refine ifF (decide_eq_false w1) (ifT rfl ⟨by decide,?_,rfl,_,_,rfl⟩)
     exact Nat.le_trans l1 (by decide)
    | ag n ws =>
     obtain ⟨hn,dw⟩:=qE dr
     rw [ltR] at lt
     rw [opR,yS] at l1 ⊢
     dsimp only [inR,rwD]
     decreasing_tactic
     rw [aS]
     refine ifT (by decide) ⟨ws,rfl,sub ws dw lt.2 (by rw [hmR];omega),?_⟩
     decreasing_tactic
     rw [Int.toNat_natCast]
     have ll:(aT (opS ws)).length * n = (List.replicate n (aT (opS ws))).flatten.length:=by
      rw [List.length_flatten,List.map_replicate,List.sum_replicate_nat,Nat.mul_comm]
     exact ⟨by omega,by omega,by omega,by omega,rfl,_,_,rfl⟩
    | kp ws =>
     have dw:=tI dr
     rw [ltR] at lt
     rw [opR,aT,aT,rwD] at l1 ⊢
     dsimp only [inR,rwD]
     decreasing_tactic
     rw [aS]
     refine ifF (by decide) (ifF rfl ⟨ws,rfl,sub ws dw lt (by rw [hmR];omega),?_⟩)
     decreasing_tactic
     exact ⟨by decide,by decide,Nat.le_trans l1 (by decide),rfl,_,_,rfl⟩
    | ev ws =>
     have dw:=tG dr
     rw [ltR] at lt
     rw [opR,aT,aT,rwD] at l1 ⊢
     dsimp only [inR,rwD]
     decreasing_tactic
     rw [aS]
     refine ifF (by decide) (ifF rfl ⟨ws,rfl,sub ws dw lt (by rw [hmR];omega),?_⟩)
     decreasing_tactic
     exact ⟨by decide,by decide,Nat.le_trans l1 (by decide),rfl,_,_,rfl⟩
   ·rintro ρ M' ⟨rfl,o1,o2,rfl⟩
    rw [cH,List.take_length]
    exact dN q
 exact all 5
noncomputable def Pr (rs:List Rw) (ds:List D):Prop:=ds = [.tup (aT rs)]/\Rm 4 rs
noncomputable def rX:DSp:=fun ds M Q=>∃ rs,Pr rs ds/\hmS (opS rs)<=60/\Q (.tup (aT (opS rs))) M
theorem Rm.d8 {rs:List Rw} (h:Rm 4 rs):DpS 8 rs:=aEd h.1 (by decide)
noncomputable abbrev qT:Stmt:=top 56
theorem yL:aP ["program"] ["program"] (aI qT):=⟨rfl,rfl,rfl,by decide +kernel,rfl,by decide +kernel,by decide +kernel⟩
theorem aBT (hF:bO K mg "opened" qT ["program"]) (gA:fP K mg "MOST_ROWS" (.int 60)) (bS:Has P w K mg base 118 "how_many_opened" ["rows"] (aAn 8)) (cN:Has P w K mg base 115 "opened_rows" ["rows"] (gC 5)):Has P w K mg base 119 "opened" ["program"] rX:=by
 refine Has.mkZ hF yL (fun ds M Q ⟨_,⟨z,_⟩,_⟩=>by rw [z];rfl) fun f cdv A outer s H ds M Q E hr h=>?_
 obtain ⟨rs,⟨rfl,rm⟩,l,q⟩:=h
 refine ⟨_,(aE (bA (aR iE (aG bS hr (by decide) (aA (aB 0) aD)) (bD gA)) (aF kP) aX)
  (aF (aM (aG cN hr (by decide) (aA (aB 0) aD))))),?_⟩
 decreasing_tactic
 refine ⟨rs,rfl,rm.d8,?_⟩
 decreasing_tactic
 exact ifF (decide_eq_false (by omega)) ⟨rs,rfl,⟨4,rfl,rm⟩,dN q⟩
noncomputable def aHE:List D->Prop:=fun ds=>∃ rs,Pr rs ds/\60 < hmS (opS rs)
theorem aBP {C_TooMuch:Addr} (hF:bO K mg "opened" qT ["program"]) (fG:tP K mg "TooMuch" C_TooMuch) (gA:fP K mg "MOST_ROWS" (.int 60)) (bS:Has P w K mg base 118 "how_many_opened" ["rows"] (aAn 8)) (cN:Has P w K mg base 115 "opened_rows" ["rows"] (gC 5)):aHQ P w K mg base 119 "opened" ["program"] C_TooMuch aHE:=by
 refine mO.mkZ hF fG yL (fun ds M ⟨_,⟨z,_⟩,_⟩=>by rw [z];rfl) fun f cdv A outer s H ds M E hr h hRO=>?_
 obtain ⟨rs,⟨rfl,rm⟩,l⟩:=h
 refine ⟨_,(aE (bA (aR iE (aG bS hr (by decide) (aA (aB 0) aD)) (bD gA)) (aF (yN hRO (aA aN aD))) aX)
  (aF (aM (aG cN hr (by decide) (aA (aB 0) aD))))),?_⟩
 decreasing_tactic
 refine ⟨rs,rfl,rm.d8,?_⟩
 decreasing_tactic
 exact ifT (decide_eq_true (by omega)) ⟨by decide,.refl _⟩
noncomputable def aEs (rs:List Rw):D:=if hmS (opS rs)<=60 then .tup (aT (opS rs)) else .str "too much"
noncomputable def sV:DSp:=fun ds M Q=>∃ rs,Pr rs ds/\Q (aEs rs) M
noncomputable abbrev pK:Stmt:=top 83
theorem tF:aP ["_law_rows","e"] ["_law_rows"] (aI pK):=⟨rfl,rfl,rfl,by decide +kernel,rfl,by decide +kernel,by decide +kernel⟩
theorem zN {C_TooMuch C_MillError:Addr} (hF:bO K mg "_law_told" pK ["_law_rows"]) (kC:Has P w K mg base 119 "opened" ["program"] rX) (wV:aHQ P w K mg base 119 "opened" ["program"] C_TooMuch aHE) (iK:mg "isinstance" = none) (lI:mg "ValueError" = none) (nW:tP K mg "MillError" C_MillError) (fG:tP K mg "TooMuch" C_TooMuch)
  (zL:aK5 K C_TooMuch) (hJ:PySem.W.exmOne K (.ref C_TooMuch) (.ref C_MillError) = some true) (gI:PySem.W.kitOne K (.ref C_TooMuch) (.type "ValueError") = some true) (rV:PySem.W.kitOne K (.ref C_TooMuch) (.ref C_TooMuch) = some true):Has P w K mg base 120 "_law_told" ["_law_rows"] sV:=by
 refine Has.mkZ hF tF (fun ds M Q ⟨_,⟨z,_⟩,_⟩=>by rw [z];rfl) fun f cdv A outer s H ds M Q E hr h=>?_
 obtain ⟨rs,⟨rfl,rm⟩,q⟩:=h
 refine ⟨_,(aF (aER (j:=1) wV kC hr (by decide) (by decide) tF.nd nW hJ (aA (aB 0) aD) (fun _ _ ho=>(aF (aM (gR (qO (lQ (tY (aF4 (j:=1) ho fG rV iK)) (kF (tY (aFc (j:=1) ho gI iK lI))))) aN aN)))))),?_⟩
 unfold aEs at q
 by_cases hm:hmS (opS rs)<=60
 ·rw [if_pos hm] at q
  decreasing_tactic
  exact .inr ⟨rs,⟨rfl,rm⟩,hm,dN q⟩
 ·rw [if_neg hm] at q
  decreasing_tactic
  refine .inl ⟨⟨rs,⟨rfl,rm⟩,by omega⟩,fun a=>?_⟩
  decreasing_tactic
  exact ⟨rfl,ifT rfl ⟨rfl,ifT rfl (dN q)⟩⟩
noncomputable def mI:DSp:=fun ds M Q=>∃ (ns:List Int) (k:Nat),ds = [.fz (ns.map D.int),.int (k:Int)]/\∀ c:Int,Q (.int c) M
noncomputable abbrev jY:Stmt:=top 67
theorem vF:aP ["_law_script","_law_k"] ["_law_script","_law_k"] (aI jY):=⟨rfl,rfl,rfl,by decide +kernel,rfl,by decide +kernel,by decide +kernel⟩
theorem tS (hF:bO K mg "_law_cell_at" jY ["_law_script","_law_k"]) (tH:mg "len" = none):Has P w K mg base 101 "_law_cell_at" ["_law_script","_law_k"] mI:=by
 refine Has.mkZ hF vF (fun ds M Q ⟨a,n,z,_⟩=>by rw [z];rfl) fun f cdv A outer s H ds M Q E hr h=>?_
 obtain ⟨ns,k,rfl,q⟩:=h
 refine ⟨_,(aE (bA (aR vM (aB 1) (eN aAR tH (aA (aB 0) aD))) (aF (aM (aH (aB 0) (aB 1)))) aX)
  (aF (aM aC))),?_⟩
 decreasing_tactic
 show (fun x M1=>_) _ _
 refine dif (fun c=>?_) (fun c=>⟨M,.refl _,q 0⟩)
 have hk:k < (ns.map D.int).length:=by
  have:(k:Int) < ((ns.map D.int).length:Int):=c
  omega
 have hat:atI (ns.map D.int) (k:Int) = some (.int (ns[k]'(by simpa using hk))):=aCG (by rw [List.getElem?_eq_getElem hk];simp)
 try dsimp only [jZ]
 rw [hat]
 exact ⟨M,.refl _,q _⟩
noncomputable def nB (d:Nat):DSp:=fun ds M Q=>∃ rs,ds = [.tup (aT rs)]/\(∃ e,e + 1 = d/\Rm e rs)/\∀ (p:Addr) M',M p = none->M' p = some (aT (opS rs))->bG M M'->Q (.ref p) M'
noncomputable abbrev qA:Stmt:=top 81
theorem hU:aP ["_law_rows","_law_found","_law_row_here","_law_turn"] ["_law_rows"] (aI qA):=⟨rfl,rfl,rfl,by decide +kernel,rfl,by decide +kernel,by decide +kernel⟩
theorem zQ (hF:bO K mg "_law_flat" qA ["_law_rows"]) (eR:mg "range" = none) (fF:mg "tuple" = none):Has P w K mg base 115 "_law_flat" ["_law_rows"] (nB 5):=by
 have all:∀ d,Has P w K mg base (110 + d) "_law_flat" ["_law_rows"] (nB d):=fun d=>by
  induction d with
  | zero=>exact (Has.never hF hU 109).imp fun ds M Q ⟨rs,_,⟨e,z,_⟩,_⟩=>absurd z (by omega)
  | succ d gP =>
   refine Has.mkZ (k:=110 + d) hF hU (fun ds M Q ⟨a,z,_⟩=>by rw [z];rfl) fun f cdv A outer s H ds M Q E hr h=>?_
   obtain ⟨rs,rfl,⟨e,ee,rm⟩,q⟩:=h
   obtain rfl:e = d:=by omega
   refine ⟨_,(aE (aO (i:=1) hU.nd (bN aD))
  (aE (kK PassesOwn.never rfl (aB 0) (aQ (i:=2) hU.nd) (aF (bA (aR (cL hr) (aH (aB 2) aC) aN) (aF (qX PassesOwn.never rfl eR (aA (aH (aB 2) aC) aD) (aQ (i:=3) hU.nd) (aF (cX (aA0 (aB 1) (aG gP hr (by omega) (aA (aH (aB 2) aC) aD))))))) (aF (bA (aR sY (aH (aB 2) aC) (bN (aA aN (aA aN aD))) rfl) (aF (cX (tL (aB 1) (aK (aA (aH (aB 2) aC) (aA (dU nF fF (aA (aG gP hr (by omega) (aA (aH (aB 2) aC) aD)) aD)) aD)))))) (aF (cX (tL (aB 1) (aB 2)))))))))
  (aF (aM (aB 1))))),?_⟩
   decreasing_tactic
   refine ⟨by decide,fun p hp=>?_⟩
   have kp:∀ {M':DM} {L:List D},bG M M'->bG M (bI M' p L):=fun s=>mQ s (eU.refl.put (List.mem_singleton.mpr rfl)) fun b hb=>by rw [List.mem_singleton.mp hb];exact hp
   refine ⟨fun i ρ M'=>(bG M M'/\M' p = some (aT (opS (rs.take i))))/\∃ o1 o2,ρ = [some (.tup (aT rs)),some (.ref p),o1,o2],⟨⟨bG.new hp _,by rw [List.take_zero,opS,aT];exact aJ⟩,_,_,rfl⟩,fun i ρ M' _ _ a e=>(by cases e),?_,?_⟩
   ·rintro i d1 ρ M1 hd ⟨⟨sb,hM⟩,o1,o2,rfl⟩
    obtain ⟨r,hr',rfl⟩:=fK hd
    have mr:=List.mem_of_getElem? hr'
    have l0:=rm.len i
    have l1:=rm.len (i + 1)
    decreasing_tactic
    have fin:aT (opS (rs.take (i + 1))) = aT (opS (rs.take i)) ++ aT (opR r):=by rw [dM hr',qP,gO,opS,opS,List.append_nil]
    rw [fin] at l1 ⊢
    rw [List.length_append] at l1
    have sub:∀ ws:List Rw,DpS e ws->ltS ws->hmS ws<=hmR r->∃ e',e' + 1 = e/\Rm e' ws:=fun ws h1 h2 h3=>by
     cases e with
     | zero=>exact h1.elim
     | succ e=>exact ⟨e,rfl,rm.sub mr h1 h2 h3⟩
    have lt:=aAA rm.2.1 mr
    have dr:=rm.1.2 r mr
    cases r with
    | pl x =>
     obtain ⟨w0,cE,e,w1,w2,w3⟩:=rK x
     rw [opR,aT,aT] at l1 ⊢
     rw [show rwD (.pl x) = plD x by rw [rwD]] at l1 ⊢
     rw [e] at l1 ⊢
     decreasing_tactic
     rw [aAY]
     decreasing_tactic
     rw [aS]
     refine ifF (decide_eq_false w1) ⟨by decide,fun a ha=>⟨["keep","ever"],aJ,ifF (by simp [Ne.symm w2,Ne.symm w3]) ?_⟩⟩
     have s2:=bG.new ha [D.str "keep",.str "ever"]
     generalize bI M1 a _ = M2 at s2 ⊢
     decreasing_tactic
     exact ⟨⟨_,s2 _ _ hM⟩,_,_,rfl,s2 _ _ hM,by show _ < 10000000;omega,⟨kp (sb.trans s2),aJ⟩,_,_,rfl⟩
    | ag n ws =>
     obtain ⟨hn,dw⟩:=qE dr
     rw [ltR] at lt
     rw [opR,yS] at l1 ⊢
     dsimp only [rwD]
     decreasing_tactic
     rw [aS]
     refine ifT (by decide) ⟨⟨by omega,by omega⟩,?_⟩
     rw [Int.toNat_natCast]
     have ll:∀ m,(List.replicate m (aT (opS ws))).flatten.length = m * (aT (opS ws)).length:=fun m=>by
      rw [List.length_flatten,List.map_replicate,List.sum_replicate_nat]
     refine ⟨fun t ρ M2=>(bG M M2/\M2 p = some (aT (opS (rs.take i)) ++ (List.replicate t (aT (opS ws))).flatten))/\∃ o2,ρ = [some (.tup (aT rs)),some (.ref p),some (.tup [.str "again",.int (n:Int),.tup (aT ws)]),o2],⟨⟨sb,by rw [List.replicate_zero,List.flatten_nil,List.append_nil];exact hM⟩,_,rfl⟩,?_,?_⟩
     ·rintro t ρ M2 ht ⟨⟨sb2,hM2⟩,o2,rfl⟩
      decreasing_tactic
      refine ⟨⟨_,hM2⟩,ws,rfl,sub ws dw lt.2 (by rw [hmR];omega),fun p2 M3 hp2 hM3 s3=>?_⟩
      refine ⟨_,p2,_,rfl,s3 _ _ hM2,hM3,?_,⟨kp (sb2.trans s3),?_⟩,_,rfl⟩
      ·have lt1:=ll t
       have ln:=ll n
       have m:(t + 1) * (aT (opS ws)).length<=n * (aT (opS ws)).length:=Nat.mul_le_mul_right _ ht
       rw [Nat.succ_mul] at m
       rw [List.length_append];omega
      ·rw [aJ,List.replicate_succ',List.flatten_append,List.append_assoc]
       simp
     ·rintro ρ M2 ⟨⟨sb2,hM2⟩,o2,rfl⟩
      exact ⟨⟨sb2,hM2⟩,_,_,rfl⟩
    | kp ws =>
     have dw:=tI dr
     rw [ltR] at lt
     rw [opR,aT,aT,rwD] at l1 ⊢
     dsimp only [rwD]
     decreasing_tactic
     rw [aS]
     refine ifF (by decide) ⟨by decide,fun a ha=>⟨["keep","ever"],aJ,ifT (by decide) ?_⟩⟩
     have s2:=bG.new ha [D.str "keep",.str "ever"]
     generalize bI M1 a _ = M2 at s2 ⊢
     decreasing_tactic
     refine ⟨⟨_,s2 _ _ hM⟩,ws,rfl,sub ws dw lt (by rw [hmR];omega),fun p2 M3 hp2 hM3 s3=>?_⟩
     decreasing_tactic
     exact ⟨_,hM3,by decide,_,_,rfl,s3 _ _ (s2 _ _ hM),by show _ < 10000000;omega,⟨kp ((sb.trans s2).trans s3),aJ⟩,_,_,rfl⟩
    | ev ws =>
     have dw:=tG dr
     rw [ltR] at lt
     rw [opR,aT,aT,rwD] at l1 ⊢
     dsimp only [rwD]
     decreasing_tactic
     rw [aS]
     refine ifF (by decide) ⟨by decide,fun a ha=>⟨["keep","ever"],aJ,ifT (by decide) ?_⟩⟩
     have s2:=bG.new ha [D.str "keep",.str "ever"]
     generalize bI M1 a _ = M2 at s2 ⊢
     decreasing_tactic
     refine ⟨⟨_,s2 _ _ hM⟩,ws,rfl,sub ws dw lt (by rw [hmR];omega),fun p2 M3 hp2 hM3 s3=>?_⟩
     decreasing_tactic
     exact ⟨_,hM3,by decide,_,_,rfl,s3 _ _ (s2 _ _ hM),by show _ < 10000000;omega,⟨kp ((sb.trans s2).trans s3),aJ⟩,_,_,rfl⟩
   ·rintro ρ M' ⟨⟨sb,hM⟩,o1,o2,rfl⟩
    rw [cH,List.take_length] at hM
    exact dN (q p M' hp hM sb)
 exact all 5
noncomputable def Oq:Nat->Rw->Prop
 | _,.pl _=>True
 | _,.ag _ _=>False
 | 0,.kp _=>False
 | 0,.ev _=>False
 | d + 1,.kp rs=>∀ r ∈ rs,Oq d r
 | d + 1,.ev rs=>∀ r ∈ rs,Oq d r
theorem Oq.up:∀ {d:Nat} {r:Rw},Oq d r->Oq (d + 1) r
 | 0,.pl _,_=>trivial
 | _ + 1,.pl _,_=>trivial
 | d + 1,.kp rs,h=>fun r hr=>Oq.up (h r hr)
 | d + 1,.ev rs,h=>fun r hr=>Oq.up (h r hr)
theorem vP {d:Nat}:∀ rs:List Rw,(∀ r ∈ rs,∀ x ∈ opR r,Oq d x)->∀ x ∈ opS rs,Oq d x
 | [],_,x,hx=>by rw [opS] at hx;cases hx
 | r :: rs,h,x,hx=>by
  rw [opS] at hx
  rcases List.mem_append.mp hx with z | z
  ·exact h r (List.mem_cons_self ..) x z
  ·exact vP rs (fun w hw=>h w (List.mem_cons_of_mem _ hw)) x z
theorem aCm:∀ {d:Nat} {r:Rw},Dp d r->∀ x ∈ opR r,Oq d x
 | d,.pl p,_,x,hx=>by rw [opR] at hx;rw [List.mem_singleton.mp hx];unfold Oq;trivial
 | 0,.ag _ _,h,_,_=>h.elim
 | 0,.kp _,h,_,_=>h.elim
 | 0,.ev _,h,_,_=>h.elim
 | d + 1,.ag n rs,h,x,hx=>by
  rw [opR] at hx
  obtain ⟨ys,hy,hx⟩:=List.mem_flatten.mp hx
  rw [(List.mem_replicate.mp hy).2] at hx
  exact (vP rs (fun r hr=>aCm (h.2.2 r hr)) x hx).up
 | d + 1,.kp rs,h,x,hx=>by
  rw [opR] at hx
  rw [List.mem_singleton.mp hx]
  exact vP rs fun r hr=>aCm (h.2 r hr)
 | d + 1,.ev rs,h,x,hx=>by
  rw [opR] at hx
  rw [List.mem_singleton.mp hx]
  exact vP rs fun r hr=>aCm (h.2 r hr)
noncomputable def nI (d:Nat):DSp:=fun ds M Q=>∃ rs,ds = [.tup (aT rs)]/\(∃ e,e + 1 = d/\∀ r ∈ rs,Oq e r)/\Q (.int (hmS rs:Int)) M
noncomputable abbrev pR:Stmt:=top 82
theorem fW:aP ["_law_rows","_law_many_here","_law_row_here"] ["_law_rows"] (aI pR):=⟨rfl,rfl,rfl,by decide +kernel,rfl,by decide +kernel,by decide +kernel⟩
theorem aAK (hF:bO K mg "_law_many" pR ["_law_rows"]):Has P w K mg base 115 "_law_many" ["_law_rows"] (nI 5):=by
 have all:∀ d,Has P w K mg base (110 + d) "_law_many" ["_law_rows"] (nI d):=fun d=>by
  induction d with
  | zero=>exact (Has.never hF fW 109).imp fun ds M Q ⟨rs,_,⟨e,z,_⟩,_⟩=>absurd z (by omega)
  | succ d jD =>
   refine Has.mkZ (k:=110 + d) hF fW (fun ds M Q ⟨a,z,_⟩=>by rw [z];rfl) fun f cdv A outer s H ds M Q E hr h=>?_
   obtain ⟨rs,rfl,⟨e,ee,oq⟩,q⟩:=h
   obtain rfl:e = d:=by omega
   refine ⟨_,(aE (aO (i:=1) fW.nd aC)
  (aE (kK PassesOwn.never rfl (aB 0) (aQ (i:=2) fW.nd) (aE (aO (i:=1) fW.nd (aL cF (aB 1) aC))
  (aF (bA (aR sY (aH (aB 2) aC) (bN (aA aN (aA aN aD))) rfl) (aF (aO (i:=1) fW.nd (aL cF (aB 1) (aG jD hr (by omega) (aA (aH (aB 2) aC) aD))))) aX))))
  (aF (aM (aB 1))))),?_⟩
   decreasing_tactic
   refine ⟨fun i ρ M'=>bG M M'/\∃ o2,ρ = [some (.tup (aT rs)),some (.int (hmS (rs.take i):Int)),o2],⟨.refl _,_,rfl⟩,fun i ρ M' _ _ a e=>(by cases e),?_,?_⟩
   ·rintro i d1 ρ M1 hd ⟨sub,o2,rfl⟩
    obtain ⟨r,hr',rfl⟩:=fK hd
    have dr:=oq r (List.mem_of_getElem? hr')
    have fin:hmS (rs.take (i + 1)) = hmS (rs.take i) + hmR r:=by rw [dM hr',eA,hmS,hmS,Nat.add_zero]
    decreasing_tactic
    rw [fin]
    cases r with
    | pl x =>
     obtain ⟨w0,cE,e,w1,w2,w3⟩:=rK x
     dsimp only [rwD]
     rw [e]
     decreasing_tactic
     rw [aAY]
     decreasing_tactic
     refine ⟨by decide,fun a ha=>⟨["keep","ever"],aJ,ifF (by simp [Ne.symm w2,Ne.symm w3]) ?_⟩⟩
     rw [hmR]
     exact ⟨sub.trans (bG.new ha _),_,rfl⟩
    | ag n ws=>cases e<;>exact dr.elim
    | kp ws =>
     obtain ⟨e',ee,dw⟩:∃ e',e' + 1 = e/\∀ r ∈ ws,Oq e' r:=by
      cases e with
      | zero=>exact dr.elim
      | succ e=>exact ⟨e,rfl,dr⟩
     dsimp only [rwD]
     decreasing_tactic
     refine ⟨by decide,fun a ha=>⟨["keep","ever"],aJ,ifT (by decide) ⟨ws,rfl,⟨e',ee,dw⟩,?_⟩⟩⟩
     decreasing_tactic
     rw [hmR,show (hmS (rs.take i):Int) + 1 + (hmS ws:Int) = ((hmS (rs.take i) + (1 + hmS ws):Nat):Int) by omega]
     exact ⟨sub.trans (bG.new ha _),_,rfl⟩
    | ev ws =>
     obtain ⟨e',ee,dw⟩:∃ e',e' + 1 = e/\∀ r ∈ ws,Oq e' r:=by
      cases e with
      | zero=>exact dr.elim
      | succ e=>exact ⟨e,rfl,dr⟩
     dsimp only [rwD]
     decreasing_tactic
     refine ⟨by decide,fun a ha=>⟨["keep","ever"],aJ,ifT (by decide) ⟨ws,rfl,⟨e',ee,dw⟩,?_⟩⟩⟩
     decreasing_tactic
     rw [hmR,show (hmS (rs.take i):Int) + 1 + (hmS ws:Int) = ((hmS (rs.take i) + (1 + hmS ws):Nat):Int) by omega]
     exact ⟨sub.trans (bG.new ha _),_,rfl⟩
   ·rintro ρ M' ⟨sub,o2,rfl⟩
    rw [cH,List.take_length]
    exact ⟨M,sub,q⟩
 exact all 5
noncomputable def qQ (ls:List LR):List D:=ls.map fun x=>pcD (pcL x.1)
noncomputable def EdM (M:DM) (d:D) (e:Ed):Prop:=(∃ q:Addr,d = .tup [FmD e.f,.int e.a,.tup (e.rd.map D.int),.ref q]/\M q = some (e.ls.map prD))/\e.ls.length<=900
noncomputable def BdN (M M':DM) (d:D) (e:Ed):Prop:=∃ q:Addr,d = .tup [FmD e.f,.ref q]/\M q = none/\M' q = some (qQ e.ls)
noncomputable def sX:DSp:=fun ds M Q=>∃ (ps pe:Addr) (ls:List LR) (es:List Ed) (Es:List D),ds = [.tup [.ref ps,.ref pe]]/\(M ps = some (ls.map prD)/\ls.length<=900)/\(M pe = some Es/\Es.length<=1000)/\Paired (EdM M) Es es/\∀ (a b:Addr) Bs M',M a = none->M b = none->M' a = some (qQ ls)->M' b = some Bs->Paired (BdN M M') Bs es->bG M M'->Q (.tup [.ref a,.ref b]) M'
noncomputable abbrev iY:Stmt:=top 84
theorem mM:aP ["_law_drawing","_law_still","_law_ends"] ["_law_drawing"] (aI iY):=⟨rfl,rfl,rfl,by decide +kernel,rfl,by decide +kernel,by decide +kernel⟩
theorem aAj (hF:bO K mg "_law_bare" iY ["_law_drawing"]):Has P w K mg base 101 "_law_bare" ["_law_drawing"] sX:=by
 refine Has.mkZ hF mM (fun ds M Q ⟨_,_,_,_,_,z,_⟩=>by rw [z];rfl) fun f cdv A outer s H ds M Q E hr h=>?_
 obtain ⟨ps,pe,ls,es,Es,rfl,⟨hps,ll⟩,⟨hpe,le⟩,pr,q⟩:=h
 refine ⟨_,(aE (eT (aB 0) (eH (n:=2) rfl (aV (aQ (i:=1) mM.nd) (aV (aQ (i:=2) mM.nd) dG))))
  (aF (aM (aK (aA (oF (⟨rfl,by decide +kernel,by decide +kernel,by decide +kernel,rfl,by decide +kernel⟩:qR ["_law_drawing","_law_still","_law_ends"] (aI iY) ["_law_one"] [none] _) rfl (aB 1) (fun _ _ _ _ _=>(aQ (i:=0) (show List.Nodup (["_law_one"]:List Str) by decide +kernel))) (fun _ _ _ _ _=>(aH (aB 0) aC))) (aA (oF (⟨rfl,by decide +kernel,by decide +kernel,by decide +kernel,rfl,by decide +kernel⟩:qR ["_law_drawing","_law_still","_law_ends"] (aI iY) ["_law_end"] [none] _) rfl (aB 2) (fun _ _ _ _ _=>(aQ (i:=0) (show List.Nodup (["_law_end"]:List Str) by decide +kernel))) (fun _ _ _ _ _=>(aK (aA (aH (aB 0) aC) (aA (oF (ho:=rfl) (⟨rfl,by decide +kernel,by decide +kernel,fun y m e=>absurd e ((by decide +kernel:∀ y ∈ _,Prod.snd y ≠ NameKind.free) y m),rfl,by decide +kernel⟩:qR ["_law_end"] _ ["_law_one"] [none] _) rfl (aH (aB 0) aC) (fun _ _ _ _ _=>(aQ (i:=0) (show List.Nodup (["_law_one"]:List Str) by decide +kernel))) (fun _ _ _ _ _=>(aH (aB 0) aC))) aD))))) aD)))))),?_⟩
 decreasing_tactic
 refine ⟨rfl,_,hps,by rw [List.length_map];omega,fun i zs M'=>M' = M/\zs = qQ (ls.take i),⟨rfl,rfl⟩,fun i zs M' _ h a e=>by cases e;rw [h.1];exact hps,?_,?_⟩
 ·rintro i d zs M' hd ⟨rfl,rfl⟩
  rw [List.getElem?_map] at hd
  obtain ⟨x,hx,rfl⟩:=Option.map_eq_some_iff.mp hd
  decreasing_tactic
  unfold prD
  decreasing_tactic
  exact ⟨rfl,by unfold qQ;rw [dM hx,List.map_append];rfl⟩
 rintro zs M1 _ ⟨rfl,rfl⟩ a ha
 rw [List.length_map,List.take_length]
 have sb:=bG.new ha (qQ ls)
 have ka:bI M1 a (qQ ls) a = some (qQ ls):=aJ
 generalize bI M1 a _ = M2 at sb ka ⊢
 have hpe2:=sb _ _ hpe
 refine ⟨Es,hpe2,le,fun i zs M'=>bG M2 M'/\Paired (BdN M1 M') zs (es.take i),⟨.refl _,.nil⟩,fun i zs M' _ h a e=>by cases e;exact h.1 _ _ hpe2,?_,?_⟩
 ·rintro i d zs M' hd ⟨s3,pz⟩
  obtain ⟨e,he,⟨qe,rfl,hq⟩,lq⟩:=iU pr hd
  have hq':=s3 _ _ (sb _ _ hq)
  decreasing_tactic
  refine ⟨_,hq',by rw [List.length_map];omega,fun j ys M''=>M'' = M'/\ys = qQ (e.ls.take j),⟨rfl,rfl⟩,fun j ys M'' _ h a e=>by cases e;rw [h.1];exact hq',?_,?_⟩
  ·rintro j d ys M'' hd ⟨rfl,rfl⟩
   rw [List.getElem?_map] at hd
   obtain ⟨x,hx,rfl⟩:=Option.map_eq_some_iff.mp hd
   decreasing_tactic
   unfold prD
   decreasing_tactic
   exact ⟨rfl,by unfold qQ;rw [dM hx,List.map_append];rfl⟩
  rintro ys M'' _ ⟨rfl,rfl⟩ p hp
  rw [List.length_map,List.take_length]
  decreasing_tactic
  have s4:=bG.new hp (qQ e.ls)
  refine ⟨by decide,s3.trans s4,?_⟩
  rw [dM he]
  refine Paired.snoc (Paired.mapP pz fun d x ⟨b,z,v,y⟩=>⟨b,z,v,s4 _ _ y⟩) ⟨p,rfl,?_,aJ⟩
  cases c:M1 p with
  | none=>rfl
  | some o=>rw [s3 _ _ (sb _ _ c)] at hp;cases hp
 rintro zs M3 _ ⟨s3,pz⟩ b hb
 rw [pr.length,List.take_length] at pz
 have s4:=bG.new hb zs
 have f1:M1 b = none:=by
  cases c:M1 b with
  | none=>rfl
  | some o=>rw [s3 _ _ (sb _ _ c)] at hb;cases hb
 exact ⟨by decide,dN (q a b zs _ ha f1 (s4 _ _ (s3 _ _ ka)) aJ (Paired.mapP pz fun d x ⟨b,z,v,y⟩=>⟨b,z,v,s4 _ _ y⟩) (sb.trans (s3.trans s4)))⟩
theorem aCs (n:Nat) (p:Pc):bB (n + 7) (pcD p) = true:=by cases p<;>rfl
theorem aKm (ns:List Int):∃ cs:List Int,Dd.cutD (ns.map D.int) none (some 14) = cs.map D.int/\cs.length<=36:=by
 obtain ⟨cs,e⟩:=aA1 (L:=Dd.cutD (ns.map D.int) none (some 14)) fun d hd=>by
  obtain ⟨c,_,e⟩:=List.mem_map.mp (aGv hd)
  exact ⟨c,e.symm⟩
 have l:(Dd.cutD (ns.map D.int) none (some 14)).length<=36:=by
  unfold Dd.cutD
  rw [show (14:Int) = ((14:Nat):Int) from rfl,HT.sIx_nat,List.length_take]
  omega
 rw [e,List.length_map] at l
 exact ⟨cs,e,l⟩
theorem aGc (rs:List Rw):∃ k,Dd.cutD (aT rs) (some (-3)) none = aT (rs.drop k):=by
 refine ⟨(-3 + ((aT rs).length:Int)).toNat,?_⟩
 unfold Dd.cutD
 show ((aT rs).drop ((-3 + ((aT rs).length:Int)).toNat)).take ((aT rs).length - (-3 + ((aT rs).length:Int)).toNat) = _
 rw [dH,dH,List.map_drop]
 exact List.take_of_length_le (by rw [List.length_drop];omega)
structure Sm (rs:List Rw):Prop where
 rm:Rm 4 rs
 dn:dnS rs<=300
 ok:vO rs
 o2:hmS (opS rs)<=60->vO (opS rs)
theorem aEJ {rs:List Rw} {A:Nat} (a0:0 < A) (a1:A<=2 ^ 1777) (dp:∀ r ∈ rs,Dp 4 r) (len:rs.length<=40) (dn:dnS rs<=300) (ev:evS rs<=1000) (al:alS (FA A) rs) (lt:ltS rs) (hm:hmS rs<=123):Sm rs:=by
 have nm:=aKN a0 a1
 have n3:=aF9 a0 a1
 refine ⟨⟨⟨by omega,dp⟩,lt,by rw [show 12 ^ 4 = 20736 from rfl];omega⟩,dn,aCT nm n3 ⟨by omega,fun r hr=>iL (d':=7) (dp r hr) (by decide)⟩ ev dn al,fun h60=>?_⟩
 refine aCT nm n3 ⟨by have:=uQ (opS rs);omega,fun r hr=>iL (d':=7) (aDZ rs dp (by omega) r hr) (by decide)⟩ (by rw [vQ];exact ev) (by rw [rR];exact dn) (xL rs al)
theorem Paired.withMem {M M':DM}:∀ {Es:List D} {es:List Ed},Paired (EdN M M') Es es->(∀ e ∈ es,e.ls.length<=900)->Paired (EdM M') Es es
 | _,_,.nil,_=>.nil
 | _,_,.cons ⟨q,z,_,h⟩ t,l=>.cons ⟨⟨q,z,h⟩,l _ (List.mem_cons_self ..)⟩ (Paired.withMem t fun e he=>l e (List.mem_cons_of_mem _ he))
theorem aGu {M M1 M2 M3:DM} {b b':Addr} {Bs Bs':List D} {es es':List Ed} (hb:M b = some Bs) (hb':M b' = some Bs') (ne:b ≠ b') (p1:Paired (BdN M1 M2) Bs es) (p2:Paired (BdN M3 M) Bs' es') (s2:bG M2 M3) (s3:bG M3 M) (ky:es.map kyE = es'.map kyE):Cm M 19 (.ref b) (.ref b') true:=by
 have l1:=p1.length
 have l2:=p2.length
 have le:es.length = es'.length:=by
  have:=congrArg List.length ky
  rw [List.length_map,List.length_map] at this;exact this
 refine ⟨Bs,Bs',hb,hb',ne,fun _=>⟨fun _=>true,fun j x y e1 e2=>?_,by simp⟩,fun z=>absurd (by omega) z⟩
 obtain ⟨e,he,q,rfl,_,hq⟩:=iU p1 e1
 obtain ⟨e',he',q',rfl,fq,hq'⟩:=iU p2 e2
 have k:kyE e = kyE e':=by
  have:=congrArg (·[j]?) ky
  simp only [List.getElem?_map,he,he',Option.map_some,Option.some.injEq] at this
  exact this
 have k1:e.f = e'.f:=congrArg (·.1) k
 have k2:qQ e.ls = qQ e'.ls:=by
  have:=congrArg (fun z:Fm × List Lg=>z.2.map fun l=>pcD (pcL l)) k
  unfold kyE at this
  dsimp only at this
  rw [List.map_map,List.map_map] at this
  exact this
 rw [k1]
 refine aCV (n:=17) (zT rfl) (aBz (n:=16) (s3 _ _ (s2 _ _ hq)) (by rw [k2];exact hq') (fun z=>?_) fun x hx=>?_)
 ·rw [<- z,s2 _ _ hq] at fq;cases fq
 ·obtain ⟨y,_,rfl⟩:=List.mem_map.mp hx
  exact aCs 9 _
theorem e12:FQ (1 / 2:Rat) = D.tup [.int 1,.int 2]:=by
 unfold FQ
 rw [show (1 / 2:Rat).num = 1 by decide +kernel,show (1 / 2:Rat).den = 2 by decide +kernel];rfl
noncomputable def fH (k:Nat):Rw:=.ag 12 [.ag k [.pl (.go (1 / 2))]]
theorem aKt (k:Nat):rwD (fH k) = D.tup [.str "again",.int 12,.tup [.tup [.str "again",.int (k:Int),.tup [.tup [.str "go",.tup [.int 1,.int 2]]]]]]:=by
 unfold fH
 rw [rwD,aT,aT,rwD,aT,aT,rwD,plD,e12];rfl
theorem aHu {k:Nat} (h:k<=5) (rs:List Rw) (hr:rs = [] ∨ rs = [.pl .dot]):Sm (fH k :: rs):=by
 have g1:FA 2 (.go (1 / 2)):=⟨⟨⟨1,by decide +kernel⟩,by unfold Ab;decide +kernel⟩,⟨by unfold Bd;decide +kernel,by unfold Bd;decide +kernel⟩⟩
 have d2:dnR (fH k) = k * 12:=by unfold fH;rw [dnR,dnS,dnS,dnR,dnS,dnS,dnR];omega
 have v2:evR (fH k) = 0:=by unfold fH;rw [evR,evS,evS,evR,evS,evS,evR];omega
 have h2:hmR (fH k) = 3:=by unfold fH;rw [hmR,hmS,hmS,hmR,hmS,hmS,hmR]
 have l2:ltR (fH k):=by unfold fH;rw [ltR,ltS,ltS,ltR,ltS,ltS,ltR];exact ⟨by decide,⟨by omega,trivial,trivial⟩,trivial⟩
 have a2:alR (FA 2) (fH k):=by unfold fH;rw [alR,alS,alS,alR,alS,alS,alR];exact ⟨⟨g1,trivial⟩,trivial⟩
 have p2:Dp 4 (fH k):=by
  refine ⟨by decide,by show 1<=1000;decide,fun r hr=>?_⟩
  rw [List.mem_singleton.mp hr]
  refine ⟨by omega,by show 1<=1000;decide,fun r hr=>?_⟩
  rw [List.mem_singleton.mp hr];unfold Dp;trivial
 have cE:(∀ r ∈ rs,Dp 4 r)/\rs.length<=1/\dnS rs<=1/\evS rs = 0/\alS (FA 2) rs/\ltS rs/\hmS rs<=1:=by
  rcases hr with rfl | rfl
  ·rw [dnS,evS,alS,ltS,hmS];exact ⟨(fun r hr=>nomatch hr),by decide,by decide,rfl,trivial,trivial,by decide⟩
  ·rw [dnS,evS,alS,ltS,hmS,dnS,evS,alS,ltS,hmS,dnR,evR,alR,ltR,hmR]
   exact ⟨fun r hr=>by rw [List.mem_singleton.mp hr];unfold Dp;trivial,by decide,by decide,rfl,⟨aE0 2,trivial⟩,⟨trivial,trivial⟩,by decide⟩
 obtain ⟨r1,r2,r3,r4,r5,r6,r7⟩:=cE
 refine aEJ (A:=2) (by decide) (by decide +kernel) (fun r hr=>?_) (by rw [List.length_cons];omega) (by rw [dnS];omega) (by rw [evS];omega) (by rw [alS];exact ⟨a2,r5⟩) (by rw [ltS];exact ⟨l2,r6⟩) (by rw [hmS];omega)
 rcases List.mem_cons.mp hr with rfl | z
 ·exact p2
 ·exact r1 r z
noncomputable def sp_law:DSp:=fun ds M Q=>∃ ns:List Int,ds = [.fz (ns.map D.int)]/\ns.length<=63/\∀ M',Q (.bl true) M'
noncomputable abbrev rL:Stmt:=top 85
theorem rO:aP ["_law_script","_law_rows","_law_more","_law_some","_law_due","_law_found"] ["_law_script"] (aI rL):=⟨rfl,rfl,rfl,by decide +kernel,rfl,by decide +kernel,by decide +kernel⟩
theorem aGX {f0:Addr} {fd0:FuncData} (hF:L2.Fun K "law" "law" rL f0 fd0) (fF:mg "tuple" = none) (jX:Has P w K mg base 101 "_law_cell_at" ["_law_script","_law_k"] mI) (kA:Has P w K mg base 121 "_law_program" ["_law_cells"] mW) (gP:Has P w K mg base 115 "_law_flat" ["_law_rows"] (nB 5)) (jD:Has P w K mg base 115 "_law_many" ["_law_rows"] (nI 5)) (pQ:Has P w K mg base 120 "_law_told" ["_law_rows"] sV) (lD:Has P w K mg base 101 "_law_bare" ["_law_drawing"] sX) (uD:Has P w K mg base 148 "drawn" ["program"] sS) (kC:Has P w K mg base 119 "opened" ["program"] rX) :
  jH P w K mg base CX0 151 f0 fd0 ["_law_script"] (qZ K sp_law):=by
 refine Fun.okZ hF rO (fun ds M Q ⟨ns,e,_⟩=>by rw [e];rfl) fun cdv A outer s H ds M Q E hr h=>?_
 obtain ⟨ns,rfl,hl,fin⟩:=h
 refine ⟨_,(aE (aO (i:=1) rO.nd (aG kA hr (by decide) (aA (zI (aB 0) wD (iW aC)) aD)))
  (aE (aO (i:=2) rO.nd (aK (aA (aK (aA aN (aA aC (aA (aK (aA (aK (aA aN (aA (aL nH aC (aL cQ (aG jX hr (by decide) (aA (aB 0) (aA aC aD))) aC)) (aA (aK (aA (aK (aA aN (aA (aK (aA aC (aA aC aD))) aD))) aD)) aD)))) aD)) aD)))) aD)))
  (mV (aBh PassesOwn.never rfl (bN (aA (aB 1) (aA (oU (aB 1) (iW (eI aC)) wD) (aA (aB 2) (aA (aL tV (aB 2) (aK (aA (aK (aA aN aD)) aD))) aD))))) (aQ (i:=3) rO.nd) (aE (aO (i:=4) rO.nd (dU nF fF (aA (aG gP hr (by decide) (aA (aB 3) aD)) aD)))
  (aE (aO (i:=5) rO.nd (aG pQ hr (by decide) (aA (aB 3) aD)))
  (aF (bA (aR iE (aG jD hr (by decide) (aA (aB 4) aD)) aC) (aF (bA (aR (aBg hr) (aB 5) aN) (aF (aM aCl)) aX)) (aF (bA (qO (aBM (aR (aBg hr) (aB 5) (aB 4)) (aAL (aR (aIn hr) (aG lD hr (by decide) (aA (aG uD hr (by decide) (aA (aB 5) aD)) aD)) (aG lD hr (by decide) (aA (aG uD hr (by decide) (aA (aB 3) aD)) aD)))))) (aF (aM aCl)) aX)))))))
  (aF (aM (lU (cL hr) (aG kC hr (by decide) (aA (aK aD) aD)) (aK aD))))))),?_⟩
 decreasing_tactic
 intro p0 hp0
 obtain ⟨cs,ec,lc⟩:=aKm ns
 rw [ec]
 refine ⟨p0,cs,rfl,aJ,lc,fun rs A M2 a0 a1 dp lr dn gw al lt sub=>?_⟩
 decreasing_tactic
 have b1:A<=2 ^ 1777:=Nat.le_trans a1 (by decide +kernel)
 have sm1:Sm rs:=aEJ a0 b1 dp lr dn (by have:=uP (d:=3) rs dp gw;omega) al lt.1 lt.2
 have sm2:∀ k,Sm (rs.drop k):=fun k=>by
  have e:=(List.take_append_drop k rs).symm
  rw [e] at dp dn gw al lt
  have g2:=(gY.mp gw).2
  have l2:=(lB.mp lt.1).2
  have h2:=lt.2
  rw [eA] at h2
  rw [fE] at dn
  have ld:(rs.drop k).length<=40:=by rw [List.length_drop];omega
  have d2:∀ r ∈ rs.drop k,Dp 4 r:=fun r hr=>dp r (List.mem_append_right _ hr)
  exact aEJ a0 b1 d2 ld (by omega) (by have:=uP (d:=3) _ d2 g2;omega) (iM.mp al).2 l2 (by omega)
 clear dp lr dn gw al lt sub a1 lc ec
 refine ⟨ns,14,rfl,fun c=>?_⟩
 decreasing_tactic
 have m1:=Int.fmod_nonneg_of_pos c (show (0:Int) < 2 by decide)
 have m2:=Int.fmod_lt_of_pos c (show (0:Int) < 2 by decide)
 obtain ⟨k,ek,k5⟩:∃ k:Nat,5 - c.fmod 2 = (k:Int)/\k<=5:=⟨(5 - c.fmod 2).toNat,by omega,by omega⟩
 rw [ek]
 obtain ⟨k3,e3⟩:=aGc rs
 rw [e3,<- aKt k]
 refine ⟨by decide,by decide,by decide,by decide,by decide,by decide,by decide,by decide,fun ρ M1=>∃ o2 o3 o4 o5,ρ = [some (.fz (ns.map D.int)),some (.tup (aT rs)),o2,o3,o4,o5],⟨by decide,by decide,by decide,by decide,fun p hp=>⟨_,aJ,?_⟩⟩,?_⟩
 ·have all:∀ (i:Nat) d,[D.tup (aT rs),D.tup (aT (rs.drop k3)),D.tup [rwD (fH k)],D.tup [rwD (fH k),D.tup [.str "dot"]]][i]? = some d->∃ ws,d = .tup (aT ws)/\Sm ws:=fun i d h=>by
   match i,h with
   | 0,h=>cases h;exact ⟨_,rfl,sm1⟩
   | 1,h=>cases h;exact ⟨_,rfl,sm2 k3⟩
   | 2,h=>cases h;exact ⟨[fH k],by rw [aT,aT],aHu k5 _ (.inl rfl)⟩
   | 3,h=>cases h;exact ⟨[fH k,.pl .dot],by rw [aT,aT,aT,rwD];rfl,aHu k5 _ (.inr rfl)⟩
   | i + 4,h=>simp at h
  have hh:bI M2 p [D.tup (aT rs),D.tup (aT (rs.drop k3)),D.tup [rwD (fH k)],D.tup [rwD (fH k),D.tup [.str "dot"]]] p = some [D.tup (aT rs),D.tup (aT (rs.drop k3)),D.tup [rwD (fH k)],D.tup [rwD (fH k),D.tup [.str "dot"]]]:=aJ
  generalize bI M2 p _ = M3 at hh ⊢
  refine ⟨fun i ρ M1=>bG M3 M1/\∃ o2 o3 o4 o5,ρ = [some (.fz (ns.map D.int)),some (.tup (aT rs)),o2,o3,o4,o5],⟨.refl _,_,_,_,_,rfl⟩,fun i ρ M1 _ h a e=>by cases e;exact h.1 _ _ hh,?_,?_⟩
  ·rintro i d ρ M1 hd ⟨sb,o2,o3,o4,o5,rfl⟩
   obtain ⟨ws,rfl,sm⟩:=all i d hd
   clear all hh hd
   decreasing_tactic
   refine ⟨ws,rfl,⟨4,rfl,sm.rm⟩,fun pf M4 hpf hM4 s4=>⟨_,hM4,?_⟩⟩
   decreasing_tactic
   refine ⟨ws,⟨rfl,sm.rm⟩,?_⟩
   decreasing_tactic
   refine ⟨opS ws,rfl,⟨4,rfl,vP ws fun r hr=>aCm (sm.rm.1.2 r hr)⟩,?_⟩
   decreasing_tactic
   unfold aEs
   by_cases c:hmS (opS ws)<=60
   ·rw [if_pos c]
    refine ifF (decide_eq_false (by omega)) ?_
    have dp8:=(sm.o2 c).1
    refine vN (wQ dp8 (by decide)) (ifF rfl ?_)
    decreasing_tactic
    have dno:dnS (opS ws)<=300:=by rw [rR];exact sm.dn
    refine ⟨_,rfl,sm.o2 c,dno,fun s1 e1 Es1 M5 f1 f2 ne1 g1 g2 pr1 _ _ s5=>?_⟩
    decreasing_tactic
    have ll1:=jJ (opS ws) 0 .one []
    have el1:=kS (opS ws) 0 .one []
    have pl1:=pr1.length
    have ev1:=(sm.o2 c).2.2
    have le1:∀ e ∈ edS (opS ws) 0 .one [],e.ls.length<=900:=fun e he=>by have:=kL (opS ws) 0 .one [] e he;omega
    refine ⟨s1,e1,_,_,Es1,rfl,⟨g1,by omega⟩,⟨g2,by omega⟩,Paired.withMem pr1 le1,fun a b Bs M6 fa fb ha hb pb s6=>?_⟩
    decreasing_tactic
    refine ⟨_,rfl,sm.ok,sm.dn,fun s2 e2 Es2 M7 f3 f4 ne2 g3 g4 pr2 _ _ s7=>?_⟩
    decreasing_tactic
    have ll2:=jJ ws 0 .one []
    have el2:=kS ws 0 .one []
    have pl2:=pr2.length
    have ev2:=sm.ok.2.2
    have dn2:=sm.dn
    have le2:∀ e ∈ edS ws 0 .one [],e.ls.length<=900:=fun e he=>by have:=kL ws 0 .one [] e he;omega
    refine ⟨s2,e2,_,_,Es2,rfl,⟨g3,by omega⟩,⟨g4,by omega⟩,Paired.withMem pr2 le2,fun a' b' Bs' M8 fa' fb' ha' hb' pb' s8=>?_⟩
    have eqp:qQ (lgS (opS ws) 0 .one []) = qQ (lgS ws 0 .one []):=by
     have:=congrArg (List.map fun l=>pcD (pcL l)) (xH ws 0 .one [])
     rw [List.map_map,List.map_map] at this
     exact this
    have s68:=s7.trans s8
    refine ⟨.inl ⟨⟨_,rfl⟩,_,rfl⟩,true,aCV (n:=19) (aBz (n:=18) (s68 _ _ ha) (by rw [eqp];exact ha') (eD (s7 _ _ ha) fa') fun x hx=>?_) (aGu (s68 _ _ hb) hb' (eD (s7 _ _ hb) fb') pb pb' s7 s8 (aAv ws 0 .one [])),ifF rfl ⟨sb.trans (s4.trans (s5.trans (s6.trans s68))),_,_,_,_,rfl⟩⟩
    obtain ⟨y,_,rfl⟩:=List.mem_map.mp hx
    exact aCs 11 _
   ·rw [if_neg c]
    exact ifT (decide_eq_true (by omega)) (vN rfl (ifF rfl ⟨sb.trans s4,_,_,_,_,rfl⟩))
  ·rintro ρ M1 ⟨_,o2,o3,o4,o5,rfl⟩
   exact ⟨_,_,_,_,rfl⟩
 ·rintro ρ M1 ⟨o2,o3,o4,o5,rfl⟩
  decreasing_tactic
  have r0:Rm 4 []:=⟨⟨by decide,fun r hr=>nomatch hr⟩,by rw [ltS];trivial,by rw [hmS];decide⟩
  refine ⟨by decide,[],⟨rfl,r0⟩,by rw [opS,hmS];decide,by decide,?_⟩
  rw [opS]
  exact vN rfl (dN (fin _))
theorem law_here (ns:List Int) (hl:ns.length<=63) (M:DM):sp_law [.fz (ns.map D.int)] M fun d _=>d = .bl true:=⟨ns,rfl,hl,fun _=>rfl⟩
end
theorem all_mk {l:PySem.W.OpenLaw} {w:World} {K:PySem.W.Frag} {h:Heap} {mg:Str->Option Value} {fa f0 f1 f2 f3 f4 f5 f6 f7 f8 f9 f10 f11 f12 f13 f14 f15 f16 f17 f18 f19 f20 f21 f22 f23 f24 f25 f26 f27 f28 f29 f30 f31 f32 f33 f34 f35 f36 f37 f38 f39 f40 f41 f42 f43 f44 f45 f46 f47 f48 f49 f50 f51 f52 f53 f54 f55 f56 f57 f58 f59 f60 f61 f62 f63 f64 f65:Addr} (X:K.In h) (G:h.Ns mainGlobals mg) (hfa:mg "law" = some (.ref fa))
  {od65 an65:Option Addr} {sl65:Array (Option Value)} {oc65 kV65 dc65 pm65 cd65 ct65:Value}
  (b0:FK K "greatest_divisor" f0 fU)
  (b1:FK K "plus" f1 aBK)
  (b2:FK K "times" f2 zX)
  (b3:FK K "over" f3 aBX)
  (b4:FK K "below" f4 aAf)
  (b5:FK K "together" f5 pE)
  (b6:FK K "grown" f6 aAe)
  (b7:FK K "turned" f7 vU)
  (b8:FK K "before" f8 vL)
  (b9:FK K "on_one_bottom" f9 iC)
  (b10:FK K "sign" f10 aB4)
  (b11:FK K "scaled_far" f11 lM)
  (b12:FK K "farther" f12 sH)
  (b13:FK K "led" f13 aEP)
  (b14:FK K "first" f14 aAa)
  (b15:FK K "_law_ratio" f15 mF)
  (b16:FK K "_law_plus" f16 pP)
  (b17:FK K "_law_times" f17 nK)
  (b18:FK K "_law_drawn" f18 mJ)
  (b19:FK K "behind" f19 xC)
  (b20:FK K "undone" f20 wE)
  (b21:FK K "stretch" f21 sI)
  (b22:FK K "arc" f22 aFr)
  (b23:FK K "_law_done" f23 pT)
  (b24:FK K "_law_draws" f24 mD)
  (b25:FK K "_law_size" f25 pC)
  (b26:FK K "_law_is_endless" f26 gX)
  (b27:FK K "_law_close" f27 nC)
  (b28:FK K "at_place" f28 pA)
  (b29:FK K "side_deed" f29 nY)
  (b30:FK K "go_deed" f30 sA)
  (b31:FK K "skip_deed" f31 nQ)
  (b32:FK K "dot_deed" f32 pU)
  (b33:FK K "left_deed" f33 mG)
  (b34:FK K "round_deed" f34 lH)
  (b35:FK K "right_deed" f35 lC)
  (b36:FK K "mirror_deed" f36 jT)
  (b37:FK K "grow_deed" f37 nX)
  (b38:FK K "quarter_deed" f38 jA)
  (b39:FK K "half_deed" f39 nU)
  (b40:FK K "arc_deed" f40 pZ)
  (b41:FK K "deed_of" f41 rY)
  (b42:FK K "rows_within" f42 kB)
  (b43:FK K "how_many_done" f43 hZ)
  (b44:FK K "how_many_numbers" f44 dF)
  (b45:FK K "numbers_of_rows" f45 eV)
  (b46:FK K "piece_of" f46 oW)
  (b47:FK K "led_leg" f47 oC)
  (b48:FK K "draw_row" f48 lF)
  (b49:FK K "draw_rows" f49 mX)
  (b50:FK K "pieces_of" f50 jM)
  (b51:FK K "gone_along" f51 iP)
  (b52:FK K "drawn" f52 uK)
  (b53:FK K "_law_row" f53 rW)
  (b54:FK K "_law_bow" f54 rS)
  (b55:FK K "_law_plain" f55 mH)
  (b56:FK K "_law_program" f56 gZ)
  (b57:FK K "how_many_opened" f57 gF)
  (b58:FK K "opened_rows" f58 jU)
  (b59:FK K "opened" f59 qT)
  (b60:FK K "_law_told" f60 pK)
  (b61:FK K "_law_cell_at" f61 jY)
  (b62:FK K "_law_flat" f62 qA)
  (b63:FK K "_law_many" f63 pR)
  (b64:FK K "_law_bare" f64 iY)
  (a65:PySem.W.nsIn K mainGlobals "law" = some (some (.ref f65))) (l65:K.lookup f65 = some ⟨oc65,od65,.func (PySem.W.fnOf "law" "law" (lR rL) (eS rL) (aI rL) .none kV65 dc65 pm65 an65 cd65 ct65),sl65⟩) (c65:PySem.W.codeIn K cd65 "law" = true) (k65:PySem.W.keepIn K (.ref f65) = true)
  (z_ValueError:PySem.W.nsIn K mainGlobals "ValueError" = some none)
  (z_abs:PySem.W.nsIn K mainGlobals "abs" = some none)
  (z_int:PySem.W.nsIn K mainGlobals "int" = some none)
  (z_isinstance:PySem.W.nsIn K mainGlobals "isinstance" = some none)
  (z_len:PySem.W.nsIn K mainGlobals "len" = some none)
  (z_min:PySem.W.nsIn K mainGlobals "min" = some none)
  (z_range:PySem.W.nsIn K mainGlobals "range" = some none)
  (z_sum:PySem.W.nsIn K mainGlobals "sum" = some none)
  (z_tuple:PySem.W.nsIn K mainGlobals "tuple" = some none)
  {GDEEDS:Addr} {esGDEEDS:Array DictEntry} {epGDEEDS:Nat} (at_DEEDS:PySem.W.nsIn K mainGlobals "DEEDS" = some (some (.ref GDEEDS))) (lt_DEEDS:K.lookup GDEEDS = some ⟨.type "dict",none,.dict esGDEEDS epGDEEDS,#[]⟩) (kt_DEEDS:PySem.W.KeysLit w.params esGDEEDS.toList)
  (et_DEEDS_go:PySem.W.nsIn K GDEEDS "go" = some (some (.ref f30)))
  (et_DEEDS_skip:PySem.W.nsIn K GDEEDS "skip" = some (some (.ref f31)))
  (et_DEEDS_side:PySem.W.nsIn K GDEEDS "side" = some (some (.ref f29)))
  (et_DEEDS_dot:PySem.W.nsIn K GDEEDS "dot" = some (some (.ref f32)))
  (et_DEEDS_left:PySem.W.nsIn K GDEEDS "left" = some (some (.ref f33)))
  (et_DEEDS_right:PySem.W.nsIn K GDEEDS "right" = some (some (.ref f35)))
  (et_DEEDS_round:PySem.W.nsIn K GDEEDS "round" = some (some (.ref f34)))
  (et_DEEDS_mirror:PySem.W.nsIn K GDEEDS "mirror" = some (some (.ref f36)))
  (et_DEEDS_grow:PySem.W.nsIn K GDEEDS "grow" = some (some (.ref f37)))
  (et_DEEDS_quarter:PySem.W.nsIn K GDEEDS "quarter" = some (some (.ref f38)))
  (et_DEEDS_half:PySem.W.nsIn K GDEEDS "half" = some (some (.ref f39)))
  (et_DEEDS_arc:PySem.W.nsIn K GDEEDS "arc" = some (some (.ref f40)))
  {GMIDDLE:Addr} {odGMIDDLE:Option Addr} {nGMIDDLE:Nat} {slGMIDDLE:Array (Option Value)}
  {GMIDDLE_0:Addr} {odGMIDDLE_0:Option Addr} {nGMIDDLE_0:Nat} {slGMIDDLE_0:Array (Option Value)} {tGMIDDLE_0_0:Tok} {tGMIDDLE_0_1:Tok}
  {GMIDDLE_1:Addr} {odGMIDDLE_1:Option Addr} {nGMIDDLE_1:Nat} {slGMIDDLE_1:Array (Option Value)} {tGMIDDLE_1_0:Tok} {tGMIDDLE_1_1:Tok}
  (ag_MIDDLE:PySem.W.nsIn K mainGlobals "MIDDLE" = some (some (.ref GMIDDLE)))
  (lGMIDDLE:K.lookup GMIDDLE = some ⟨.type "tuple",odGMIDDLE,.seq #[.ref GMIDDLE_0,.ref GMIDDLE_1] nGMIDDLE,slGMIDDLE⟩)
  (lGMIDDLE_0:K.lookup GMIDDLE_0 = some ⟨.type "tuple",odGMIDDLE_0,.seq #[.int 0 tGMIDDLE_0_0,.int 1 tGMIDDLE_0_1] nGMIDDLE_0,slGMIDDLE_0⟩)
  (lGMIDDLE_1:K.lookup GMIDDLE_1 = some ⟨.type "tuple",odGMIDDLE_1,.seq #[.int 0 tGMIDDLE_1_0,.int 1 tGMIDDLE_1_1] nGMIDDLE_1,slGMIDDLE_1⟩)
  {tGMOST_DONE:Tok} (ag_MOST_DONE:PySem.W.nsIn K mainGlobals "MOST_DONE" = some (some (.int 300 tGMOST_DONE)))
  {tGMOST_ROWS:Tok} (ag_MOST_ROWS:PySem.W.nsIn K mainGlobals "MOST_ROWS" = some (some (.int 60 tGMOST_ROWS)))
  {GNOTHING:Addr} {odGNOTHING:Option Addr} {nGNOTHING:Nat} {slGNOTHING:Array (Option Value)} {tGNOTHING_0:Tok} {tGNOTHING_1:Tok}
  (ag_NOTHING:PySem.W.nsIn K mainGlobals "NOTHING" = some (some (.ref GNOTHING)))
  (lGNOTHING:K.lookup GNOTHING = some ⟨.type "tuple",odGNOTHING,.seq #[.int 0 tGNOTHING_0,.int 1 tGNOTHING_1] nGNOTHING,slGNOTHING⟩)
  {GONE:Addr} {odGONE:Option Addr} {nGONE:Nat} {slGONE:Array (Option Value)} {tGONE_0:Tok} {tGONE_1:Tok}
  (ag_ONE:PySem.W.nsIn K mainGlobals "ONE" = some (some (.ref GONE)))
  (lGONE:K.lookup GONE = some ⟨.type "tuple",odGONE,.seq #[.int 1 tGONE_0,.int 1 tGONE_1] nGONE,slGONE⟩)
  {C_MillError C_TooMuch:Addr}
  (ac_MillError:PySem.W.nsIn K mainGlobals "MillError" = some (some (.ref C_MillError))) (xc_MillError:PySem.W.excIn K C_MillError bmV "ValueError.__new__" = true)
  (ac_TooMuch:PySem.W.nsIn K mainGlobals "TooMuch" = some (some (.ref C_TooMuch))) (xc_TooMuch:PySem.W.excIn K C_TooMuch bmV "ValueError.__new__" = true)
  (ex0_TooMuch:PySem.W.findIn K (.ref C_TooMuch) "__getattribute__" = some (some (.builtin "BaseException.__getattribute__")))
  (ex1_TooMuch:PySem.W.findIn K (.ref C_TooMuch) "__getattr__" = some none)
  (ex2_TooMuch:PySem.W.findIn K (.ref C_TooMuch) "__class__" = some (some (.builtin "object.__class__")))
  (ex3_TooMuch:PySem.W.specialIn K (.builtin "object.__class__") "__get__" = some (some (.builtin "getset_descriptor.__get__")))
  (ex4_TooMuch:PySem.W.takesIn K (.builtin "object.__class__") = some true)
  (ex5_TooMuch:PySem.W.mroIn K C_TooMuch (.type "object") = some true)
  (ex6_TooMuch:PySem.W.mroIn K C_TooMuch (.type "BaseException") = some true)
  (hJ:PySem.W.exmOne K (.ref C_TooMuch) (.ref C_MillError) = some true)
  (gI:PySem.W.kitOne K (.ref C_TooMuch) (.type "ValueError") = some true)
 :∃ fd:FuncData,(∀ (s:Shared) (v:Value),BindsTo s fd ⟨[v],[]⟩ [("_law_script",v)])/\∀ base:Heap,K.In base->base.Ns mainGlobals mg->jH l.prog w K mg base CX0 151 fa fd ["_law_script"] (qZ K sp_law):=by
 have e:=hfa.symm.trans (PySem.W.mg_of X G a65)
 cases e
 have H0:=b0.has X G (ps:=["one","other"]) fun _ _ _ _ _ _ us hl=>by obtain ⟨_,_,rfl⟩:=us2 hl;rfl
 have H1:=b1.has X G (ps:=["one","other"]) fun _ _ _ _ _ _ us hl=>by obtain ⟨_,_,rfl⟩:=us2 hl;rfl
 have H2:=b2.has X G (ps:=["one","other"]) fun _ _ _ _ _ _ us hl=>by obtain ⟨_,_,rfl⟩:=us2 hl;rfl
 have H3:=b3.has X G (ps:=["one","other"]) fun _ _ _ _ _ _ us hl=>by obtain ⟨_,_,rfl⟩:=us2 hl;rfl
 have H4:=b4.has X G (ps:=["one","other"]) fun _ _ _ _ _ _ us hl=>by obtain ⟨_,_,rfl⟩:=us2 hl;rfl
 have H5:=b5.has X G (ps:=["p","q"]) fun _ _ _ _ _ _ us hl=>by obtain ⟨_,_,rfl⟩:=us2 hl;rfl
 have H6:=b6.has X G (ps:=["p","number"]) fun _ _ _ _ _ _ us hl=>by obtain ⟨_,_,rfl⟩:=us2 hl;rfl
 have H7:=b7.has X G (ps:=["p","quarters"]) fun _ _ _ _ _ _ us hl=>by obtain ⟨_,_,rfl⟩:=us2 hl;rfl
 have H8:=b8.has X G (ps:=["p","q"]) fun _ _ _ _ _ _ us hl=>by obtain ⟨_,_,rfl⟩:=us2 hl;rfl
 have H9:=b9.has X G (ps:=["p"]) fun _ _ _ _ _ _ us hl=>by obtain ⟨_,rfl⟩:=us1 hl;rfl
 have H10:=b10.has X G (ps:=["number"]) fun _ _ _ _ _ _ us hl=>by obtain ⟨_,rfl⟩:=us1 hl;rfl
 have H11:=b11.has X G (ps:=["c","p"]) fun _ _ _ _ _ _ us hl=>by obtain ⟨_,_,rfl⟩:=us2 hl;rfl
 have H12:=b12.has X G (ps:=["c","p","q"]) fun _ _ _ _ _ _ us hl=>by obtain ⟨_,_,_,rfl⟩:=us3 hl;rfl
 have H13:=b13.has X G (ps:=["frame","p"]) fun _ _ _ _ _ _ us hl=>by obtain ⟨_,_,rfl⟩:=us2 hl;rfl
 have H14:=b14.has X G (ps:=[]) fun _ _ _ _ _ _ us hl=>by obtain rfl:=us0 hl;rfl
 have H15:=b15.has X G (ps:=["_law_top","_law_bottom"]) fun _ _ _ _ _ _ us hl=>by obtain ⟨_,_,rfl⟩:=us2 hl;rfl
 have H16:=b16.has X G (ps:=["_law_one","_law_other"]) fun _ _ _ _ _ _ us hl=>by obtain ⟨_,_,rfl⟩:=us2 hl;rfl
 have H17:=b17.has X G (ps:=["_law_one","_law_other"]) fun _ _ _ _ _ _ us hl=>by obtain ⟨_,_,rfl⟩:=us2 hl;rfl
 have H18:=b18.has X G (ps:=["_law_one","_law_other"]) fun _ _ _ _ _ _ us hl=>by obtain ⟨_,_,rfl⟩:=us2 hl;rfl
 have H19:=b19.has X G (ps:=["one","other"]) fun _ _ _ _ _ _ us hl=>by obtain ⟨_,_,rfl⟩:=us2 hl;rfl
 have H20:=b20.has X G (ps:=["frame"]) fun _ _ _ _ _ _ us hl=>by obtain ⟨_,rfl⟩:=us1 hl;rfl
 have H21:=b21.has X G (ps:=["p","q"]) fun _ _ _ _ _ _ us hl=>by obtain ⟨_,_,rfl⟩:=us2 hl;rfl
 have H22:=b22.has X G (ps:=["c","p","q"]) fun _ _ _ _ _ _ us hl=>by obtain ⟨_,_,_,rfl⟩:=us3 hl;rfl
 have H23:=b23.has X G (ps:=["_law_rows"]) fun _ _ _ _ _ _ us hl=>by obtain ⟨_,rfl⟩:=us1 hl;rfl
 have H24:=b24.has X G (ps:=["_law_rows"]) fun _ _ _ _ _ _ us hl=>by obtain ⟨_,rfl⟩:=us1 hl;rfl
 have H25:=b25.has X G (ps:=["_law_rows"]) fun _ _ _ _ _ _ us hl=>by obtain ⟨_,rfl⟩:=us1 hl;rfl
 have H26:=b26.has X G (ps:=["_law_rows"]) fun _ _ _ _ _ _ us hl=>by obtain ⟨_,rfl⟩:=us1 hl;rfl
 have H27:=b27.has X G (ps:=["_law_stack"]) fun _ _ _ _ _ _ us hl=>by obtain ⟨_,rfl⟩:=us1 hl;rfl
 have H28:=b28.has X G (ps:=["place","turns"]) fun _ _ _ _ _ _ us hl=>by obtain ⟨_,_,rfl⟩:=us2 hl;rfl
 have H29:=b29.has X G (ps:=["row"]) fun _ _ _ _ _ _ us hl=>by obtain ⟨_,rfl⟩:=us1 hl;rfl
 have H30:=b30.has X G (ps:=["row"]) fun _ _ _ _ _ _ us hl=>by obtain ⟨_,rfl⟩:=us1 hl;rfl
 have H31:=b31.has X G (ps:=["row"]) fun _ _ _ _ _ _ us hl=>by obtain ⟨_,rfl⟩:=us1 hl;rfl
 have H32:=b32.has X G (ps:=["row"]) fun _ _ _ _ _ _ us hl=>by obtain ⟨_,rfl⟩:=us1 hl;rfl
 have H33:=b33.has X G (ps:=["row"]) fun _ _ _ _ _ _ us hl=>by obtain ⟨_,rfl⟩:=us1 hl;rfl
 have H34:=b34.has X G (ps:=["row"]) fun _ _ _ _ _ _ us hl=>by obtain ⟨_,rfl⟩:=us1 hl;rfl
 have H35:=b35.has X G (ps:=["row"]) fun _ _ _ _ _ _ us hl=>by obtain ⟨_,rfl⟩:=us1 hl;rfl
 have H36:=b36.has X G (ps:=["row"]) fun _ _ _ _ _ _ us hl=>by obtain ⟨_,rfl⟩:=us1 hl;rfl
 have H37:=b37.has X G (ps:=["row"]) fun _ _ _ _ _ _ us hl=>by obtain ⟨_,rfl⟩:=us1 hl;rfl
 have H38:=b38.has X G (ps:=["row"]) fun _ _ _ _ _ _ us hl=>by obtain ⟨_,rfl⟩:=us1 hl;rfl
 have H39:=b39.has X G (ps:=["row"]) fun _ _ _ _ _ _ us hl=>by obtain ⟨_,rfl⟩:=us1 hl;rfl
 have H40:=b40.has X G (ps:=["row"]) fun _ _ _ _ _ _ us hl=>by obtain ⟨_,rfl⟩:=us1 hl;rfl
 have H41:=b41.has X G (ps:=["row"]) fun _ _ _ _ _ _ us hl=>by obtain ⟨_,rfl⟩:=us1 hl;rfl
 have H42:=b42.has X G (ps:=["row"]) fun _ _ _ _ _ _ us hl=>by obtain ⟨_,rfl⟩:=us1 hl;rfl
 have H43:=b43.has X G (ps:=["rows"]) fun _ _ _ _ _ _ us hl=>by obtain ⟨_,rfl⟩:=us1 hl;rfl
 have H44:=b44.has X G (ps:=["row"]) fun _ _ _ _ _ _ us hl=>by obtain ⟨_,rfl⟩:=us1 hl;rfl
 have H45:=b45.has X G (ps:=["rows"]) fun _ _ _ _ _ _ us hl=>by obtain ⟨_,rfl⟩:=us1 hl;rfl
 have H46:=b46.has X G (ps:=["leg"]) fun _ _ _ _ _ _ us hl=>by obtain ⟨_,rfl⟩:=us1 hl;rfl
 have H47:=b47.has X G (ps:=["frame","leg"]) fun _ _ _ _ _ _ us hl=>by obtain ⟨_,_,rfl⟩:=us2 hl;rfl
 have H48:=b48.has X G (ps:=["row","at","frame","rounds","sheet"]) fun _ _ _ _ _ _ us hl=>by obtain ⟨_,_,_,_,_,rfl⟩:=us5 hl;rfl
 have H49:=b49.has X G (ps:=["rows","number","frame","rounds","sheet"]) fun _ _ _ _ _ _ us hl=>by obtain ⟨_,_,_,_,_,rfl⟩:=us5 hl;rfl
 have H50:=b50.has X G (ps:=["rows"]) fun _ _ _ _ _ _ us hl=>by obtain ⟨_,rfl⟩:=us1 hl;rfl
 have H51:=b51.has X G (ps:=["program"]) fun _ _ _ _ _ _ us hl=>by obtain ⟨_,rfl⟩:=us1 hl;rfl
 have H52:=b52.has X G (ps:=["program"]) fun _ _ _ _ _ _ us hl=>by obtain ⟨_,rfl⟩:=us1 hl;rfl
 have H53:=b53.has X G (ps:=["_law_cell","_law_many_here"]) fun _ _ _ _ _ _ us hl=>by obtain ⟨_,_,rfl⟩:=us2 hl;rfl
 have H54:=b54.has X G (ps:=["_law_row_here"]) fun _ _ _ _ _ _ us hl=>by obtain ⟨_,rfl⟩:=us1 hl;rfl
 have H55:=b55.has X G (ps:=["_law_row_here"]) fun _ _ _ _ _ _ us hl=>by obtain ⟨_,rfl⟩:=us1 hl;rfl
 have H56:=b56.has X G (ps:=["_law_cells"]) fun _ _ _ _ _ _ us hl=>by obtain ⟨_,rfl⟩:=us1 hl;rfl
 have H57:=b57.has X G (ps:=["rows"]) fun _ _ _ _ _ _ us hl=>by obtain ⟨_,rfl⟩:=us1 hl;rfl
 have H58:=b58.has X G (ps:=["rows"]) fun _ _ _ _ _ _ us hl=>by obtain ⟨_,rfl⟩:=us1 hl;rfl
 have H59:=b59.has X G (ps:=["program"]) fun _ _ _ _ _ _ us hl=>by obtain ⟨_,rfl⟩:=us1 hl;rfl
 have H60:=b60.has X G (ps:=["_law_rows"]) fun _ _ _ _ _ _ us hl=>by obtain ⟨_,rfl⟩:=us1 hl;rfl
 have H61:=b61.has X G (ps:=["_law_script","_law_k"]) fun _ _ _ _ _ _ us hl=>by obtain ⟨_,_,rfl⟩:=us2 hl;rfl
 have H62:=b62.has X G (ps:=["_law_rows"]) fun _ _ _ _ _ _ us hl=>by obtain ⟨_,rfl⟩:=us1 hl;rfl
 have H63:=b63.has X G (ps:=["_law_rows"]) fun _ _ _ _ _ _ us hl=>by obtain ⟨_,rfl⟩:=us1 hl;rfl
 have H64:=b64.has X G (ps:=["_law_drawing"]) fun _ _ _ _ _ _ us hl=>by obtain ⟨_,rfl⟩:=us1 hl;rfl
 have F65:=fun_mk (st:=rL) l65 c65 k65
 have lI:=PySem.W.mg_none_of X G z_ValueError
 have oR:=PySem.W.mg_none_of X G z_abs
 have qJ:=PySem.W.mg_none_of X G z_int
 have iK:=PySem.W.mg_none_of X G z_isinstance
 have tH:=PySem.W.mg_none_of X G z_len
 have aED:=PySem.W.mg_none_of X G z_min
 have eR:=PySem.W.mg_none_of X G z_range
 have aDW:=PySem.W.mg_none_of X G z_sum
 have fF:=PySem.W.mg_none_of X G z_tuple
 have aAP:aF6 w K mg "DEEDS" [("go","go_deed"),("skip","skip_deed"),("side","side_deed"),("dot","dot_deed"),("left","left_deed"),("right","right_deed"),("round","round_deed"),("mirror","mirror_deed"),("grow","grow_deed"),("quarter","quarter_deed"),("half","half_deed"),("arc","arc_deed")]:=⟨_,_,_,PySem.W.mg_of X G at_DEEDS,lt_DEEDS,kt_DEEDS,fun k n e=>by
  by_cases c_go:k = "go"
  ·subst c_go;cases e;exact ⟨_,et_DEEDS_go,PySem.W.mg_of X G b30.1⟩
  by_cases c_skip:k = "skip"
  ·subst c_skip;cases e;exact ⟨_,et_DEEDS_skip,PySem.W.mg_of X G b31.1⟩
  by_cases c_side:k = "side"
  ·subst c_side;cases e;exact ⟨_,et_DEEDS_side,PySem.W.mg_of X G b29.1⟩
  by_cases c_dot:k = "dot"
  ·subst c_dot;cases e;exact ⟨_,et_DEEDS_dot,PySem.W.mg_of X G b32.1⟩
  by_cases c_left:k = "left"
  ·subst c_left;cases e;exact ⟨_,et_DEEDS_left,PySem.W.mg_of X G b33.1⟩
  by_cases c_right:k = "right"
  ·subst c_right;cases e;exact ⟨_,et_DEEDS_right,PySem.W.mg_of X G b35.1⟩
  by_cases c_round:k = "round"
  ·subst c_round;cases e;exact ⟨_,et_DEEDS_round,PySem.W.mg_of X G b34.1⟩
  by_cases c_mirror:k = "mirror"
  ·subst c_mirror;cases e;exact ⟨_,et_DEEDS_mirror,PySem.W.mg_of X G b36.1⟩
  by_cases c_grow:k = "grow"
  ·subst c_grow;cases e;exact ⟨_,et_DEEDS_grow,PySem.W.mg_of X G b37.1⟩
  by_cases c_quarter:k = "quarter"
  ·subst c_quarter;cases e;exact ⟨_,et_DEEDS_quarter,PySem.W.mg_of X G b38.1⟩
  by_cases c_half:k = "half"
  ·subst c_half;cases e;exact ⟨_,et_DEEDS_half,PySem.W.mg_of X G b39.1⟩
  by_cases c_arc:k = "arc"
  ·subst c_arc;cases e;exact ⟨_,et_DEEDS_arc,PySem.W.mg_of X G b40.1⟩
  simp only [List.lookup,beq_eq_false_iff_ne.mpr c_go,beq_eq_false_iff_ne.mpr c_skip,beq_eq_false_iff_ne.mpr c_side,beq_eq_false_iff_ne.mpr c_dot,beq_eq_false_iff_ne.mpr c_left,beq_eq_false_iff_ne.mpr c_right,beq_eq_false_iff_ne.mpr c_round,beq_eq_false_iff_ne.mpr c_mirror,beq_eq_false_iff_ne.mpr c_grow,beq_eq_false_iff_ne.mpr c_quarter,beq_eq_false_iff_ne.mpr c_half,beq_eq_false_iff_ne.mpr c_arc] at e;cases e⟩
 have zL:aK5 K C_TooMuch:=⟨ex0_TooMuch,ex1_TooMuch,ex2_TooMuch,ex3_TooMuch,ex4_TooMuch,ex5_TooMuch,ex6_TooMuch⟩
 have rV:PySem.W.kitOne K (.ref C_TooMuch) (.ref C_TooMuch) = some true:=aEa
 have nW:tP K mg "MillError" C_MillError:=⟨PySem.W.mg_of X G ac_MillError,xc_MillError⟩
 have fG:tP K mg "TooMuch" C_TooMuch:=⟨PySem.W.mg_of X G ac_TooMuch,xc_TooMuch⟩
 have aZ:fP K mg "MIDDLE" sE:=⟨_,.ref GMIDDLE,PySem.W.mg_of X G ag_MIDDLE,rfl,fun H=>(bJ (xs:=[.ref GMIDDLE_0,.ref GMIDDLE_1]) (.inr ⟨_,_,_,lGMIDDLE,rfl,rfl,by show (2:Nat)<=sizeLine;decide,(.cons rfl (.cons rfl .nil))⟩) (bY (bJ (xs:=[.int (0),.int (1)]) (.inr ⟨_,_,_,lGMIDDLE_0,rfl,rfl,by show (2:Nat)<=sizeLine;decide,(.cons ⟨_,rfl⟩ (.cons ⟨_,rfl⟩ .nil))⟩) (bY bT (bY bT cP))) (bY (bJ (xs:=[.int (0),.int (1)]) (.inr ⟨_,_,_,lGMIDDLE_1,rfl,rfl,by show (2:Nat)<=sizeLine;decide,(.cons ⟨_,rfl⟩ (.cons ⟨_,rfl⟩ .nil))⟩) (bY bT (bY bT cP))) cP)))⟩
 have fV:fP K mg "MOST_DONE" (.int 300):=⟨_,.int 300,PySem.W.mg_of X G ag_MOST_DONE,⟨_,rfl⟩,fun H=>bT⟩
 have gA:fP K mg "MOST_ROWS" (.int 60):=⟨_,.int 60,PySem.W.mg_of X G ag_MOST_ROWS,⟨_,rfl⟩,fun H=>bT⟩
 have cT:fP K mg "NOTHING" aBt:=⟨_,.ref GNOTHING,PySem.W.mg_of X G ag_NOTHING,rfl,fun H=>(bJ (xs:=[.int (0),.int (1)]) (.inr ⟨_,_,_,lGNOTHING,rfl,rfl,by show (2:Nat)<=sizeLine;decide,(.cons ⟨_,rfl⟩ (.cons ⟨_,rfl⟩ .nil))⟩) (bY bT (bY bT cP)))⟩
 have mB:fP K mg "ONE" aFM:=⟨_,.ref GONE,PySem.W.mg_of X G ag_ONE,rfl,fun H=>(bJ (xs:=[.int (1),.int (1)]) (.inr ⟨_,_,_,lGONE,rfl,rfl,by show (2:Nat)<=sizeLine;decide,(.cons ⟨_,rfl⟩ (.cons ⟨_,rfl⟩ .nil))⟩) (bY bT (bY bT cP)))⟩
 refine ⟨PySem.W.fnOf "law" "law" (lR rL) (eS rL) (aI rL) .none kV65 dc65 pm65 an65 cd65 ct65,fun s v=>.of_eq rfl,fun base _ _=>?_⟩
 have bV:=mP (P:=l.prog) (w:=w) (base:=base) H0 oR
 have pY:=aEA (P:=l.prog) (w:=w) (base:=base) H1 bV
 have gE:=aDw (P:=l.prog) (w:=w) (base:=base) H2 bV
 have aB1:=aD8 (P:=l.prog) (w:=w) (base:=base) H3 gE
 have uI:=aDk (P:=l.prog) (w:=w) (base:=base) H4
 have oZ:=aAM (P:=l.prog) (w:=w) (base:=base) H5 pY
 have oA:=aDz (P:=l.prog) (w:=w) (base:=base) H6 gE
 have xE:=aBF (P:=l.prog) (w:=w) (base:=base) H7
 have wX:=aBO (P:=l.prog) (w:=w) (base:=base) H8 uI
 have fN:=rD (P:=l.prog) (w:=w) (base:=base) H9
 have aB8:=aFx (P:=l.prog) (w:=w) (base:=base) H10
 have iQ:=vT (P:=l.prog) (w:=w) (base:=base) H11 fN
 have rM:=aA5 (P:=l.prog) (w:=w) (base:=base) H12 iQ aB8
 have nM:=aHg (P:=l.prog) (w:=w) (base:=base) H13 oZ oA xE
 have iJ:=aDi (P:=l.prog) (w:=w) (base:=base) H14 aZ mB
 have bL:=yI (P:=l.prog) (w:=w) (base:=base) H15 oR
 have gS:=aAI (P:=l.prog) (w:=w) (base:=base) H16 bL
 have cC:=yB (P:=l.prog) (w:=w) (base:=base) H17 bL
 have eC:=xT (P:=l.prog) (w:=w) (base:=base) H18 bL
 have kO:=aCd (P:=l.prog) (w:=w) (base:=base) H19 nM gE
 have mL:=aBN (P:=l.prog) (w:=w) (base:=base) H20 aZ mB nM aB1 oA
 have sM:=aAT (P:=l.prog) (w:=w) (base:=base) H21 wX
 have aCA:=aG0 (P:=l.prog) (w:=w) (base:=base) H22 rM
 have cV:=aAq (P:=l.prog) (w:=w) (base:=base) H23
 have eF:=xU (P:=l.prog) (w:=w) (base:=base) H24
 have jE:=aAD (P:=l.prog) (w:=w) (base:=base) H25 eR cC
 have fC:=pL (P:=l.prog) (w:=w) (base:=base) H26 cV jE eF
 have jR:=xP (P:=l.prog) (w:=w) (base:=base) H27 qJ fF cV fC eF
 have bC:=aAO (P:=l.prog) (w:=w) (base:=base) H28 mB
 have fX:=xW (P:=l.prog) (w:=w) (base:=base) H29 aZ bC
 have sB:=aBd (P:=l.prog) (w:=w) (base:=base) H30 cT fX
 have mK:=yF (P:=l.prog) (w:=w) (base:=base) H31 cT bC
 have oV:=aAg (P:=l.prog) (w:=w) (base:=base) H32 aZ iJ
 have nR:=yC (P:=l.prog) (w:=w) (base:=base) H33 aZ bC
 have kX:=wB (P:=l.prog) (w:=w) (base:=base) H34 aZ bC
 have lW:=uZ (P:=l.prog) (w:=w) (base:=base) H35 aZ bC
 have jV:=tO (P:=l.prog) (w:=w) (base:=base) H36 aZ mB
 have mS:=xZ (P:=l.prog) (w:=w) (base:=base) H37 aZ
 have iZ:=sC (P:=l.prog) (w:=w) (base:=base) H38 aZ cT bC
 have nG:=xN (P:=l.prog) (w:=w) (base:=base) H39 aZ cT pY bC
 have pW:=aAc (P:=l.prog) (w:=w) (base:=base) H40 aZ bC
 have kJ:=aBC (P:=l.prog) (w:=w) (base:=base) H41 aAP sB fX mK oV nR kX lW jV mS iZ nG pW
 have bF:=tQ (P:=l.prog) (w:=w) (base:=base) H42
 have cK:=rC (P:=l.prog) (w:=w) (base:=base) H43 bF
 have dI:=oJ (P:=l.prog) (w:=w) (base:=base) H45 H44 bF aDW
 have dB:=mR (P:=l.prog) (w:=w) (base:=base) H44 bF dI
 have pB:=aAB (P:=l.prog) (w:=w) (base:=base) H46 sM aCA
 have kM:=aA9 (P:=l.prog) (w:=w) (base:=base) H47 nM
 have cZ:=xR (P:=l.prog) (w:=w) (base:=base) H49 H48 eR kO mL kJ kM dB
 have jN:=yG (P:=l.prog) (w:=w) (base:=base) H50 pB
 have kR:=wS (P:=l.prog) (w:=w) (base:=base) H51 fV cK iJ cZ
 have x_gone_along:=uS (P:=l.prog) (w:=w) (base:=base) H51 fG fV cK iJ cZ
 have uD:=aDm (P:=l.prog) (w:=w) (base:=base) H52 kR jN
 have sJ:=aBi (P:=l.prog) (w:=w) (base:=base) H53 oR eR
 have rT:=aAZ (P:=l.prog) (w:=w) (base:=base) H54 eC bL gS cC aED
 have mZ:=xV (P:=l.prog) (w:=w) (base:=base) H55 qJ eC bL rT
 have kA:=tU (P:=l.prog) (w:=w) (base:=base) H56 tH fF sJ mZ jR cV
 have bS:=oK (P:=l.prog) (w:=w) (base:=base) H57 bF
 have cN:=tR (P:=l.prog) (w:=w) (base:=base) H58 bF
 have kC:=aBT (P:=l.prog) (w:=w) (base:=base) H59 gA bS cN
 have wV:=aBP (P:=l.prog) (w:=w) (base:=base) H59 fG gA bS cN
 have pQ:=zN (P:=l.prog) (w:=w) (base:=base) H60 kC wV iK lI nW fG zL hJ gI rV
 have jX:=tS (P:=l.prog) (w:=w) (base:=base) H61 tH
 have gP:=zQ (P:=l.prog) (w:=w) (base:=base) H62 eR fF
 have jD:=aAK (P:=l.prog) (w:=w) (base:=base) H63
 have lD:=aAj (P:=l.prog) (w:=w) (base:=base) H64
 exact aGX (P:=l.prog) (w:=w) (base:=base) F65 fF jX kA gP jD pQ lD uD kC
end Lw
def PySem.W.Fast.tw3413671545391470497:Unit:=()
def PySem.W.Fast.tw3175692349204730885:Unit:=()
def PySem.W.Fast.tw4629639516583230886:Unit:=()
def PySem.W.Fast.tw5623608534787934790:Unit:=()
def PySem.W.Fast.tw8867206439386554313:Unit:=()
def PySem.W.Fast.tw17702304078216526506:Unit:=()
def PySem.W.Fast.tw11265243893347924043:Unit:=()
def PySem.W.Fast.tw14424707575831452876:Unit:=()
def PySem.W.Fast.tw14407576363134242125:Unit:=()
def PySem.W.Fast.tw4448150641999708813:Unit:=()
def PySem.W.Fast.tw11007511242067353134:Unit:=()
def PySem.W.Fast.tw8512163128569740687:Unit:=()
def PySem.W.Fast.tw16256471825673951024:Unit:=()
def PySem.W.Fast.tw3903255515224164306:Unit:=()
def PySem.W.Fast.tw2395774217934487506:Unit:=()
def PySem.W.Fast.tw9174991154932220947:Unit:=()
def PySem.W.Fast.tw10888079310625220948:Unit:=()
def PySem.W.Fast.tw5745268243870515092:Unit:=()
def PySem.W.Fast.tw2170956671899495381:Unit:=()
def PySem.W.Fast.tw14491045396114401558:Unit:=()
def PySem.W.Fast.tw17488881334905630391:Unit:=()
def PySem.W.Fast.tw5304423047864267832:Unit:=()
def PySem.W.Fast.tw14219455843042055515:Unit:=()
def PySem.W.Fast.tw18067136247700728191:Unit:=()
def PySem.W.Fast.tw12558374454302251743:Unit:=()
def PySem.W.Fast.tw5300104790609860139:Unit:=()
def PySem.W.Fast.tw2205594561435054265:Unit:=()
def PySem.W.Fast.tw10491505071707886784:Unit:=()
def PySem.W.Fast.tw15786670409619974244:Unit:=()
def PySem.W.Fast.tw7795861426041639328:Unit:=()
def PySem.W.Fast.tw13308934643244806394:Unit:=()
def PySem.W.Fast.tw2463254047229495991:Unit:=()
def PySem.W.Fast.tw12037770571504787092:Unit:=()
def PySem.W.Fast.tw17993086778454151882:Unit:=()
def PySem.W.Fast.tw4457729560812261125:Unit:=()
def PySem.W.Fast.tw4764201407181237625:Unit:=()
def PySem.W.Fast.tw1723467960176862023:Unit:=()
def PySem.W.Fast.tw2717578246757421071:Unit:=()
def PySem.W.Fast.tw2910856098601518661:Unit:=()
def PySem.W.Fast.tw12965995822267828021:Unit:=()
def PySem.W.Fast.tw50230290702024357:Unit:=()
def PySem.W.Fast.tw14930583679773435883:Unit:=()
def PySem.W.Fast.tw8450585730454154891:Unit:=()
def PySem.W.Fast.tw15595434911950773161:Unit:=()
def PySem.W.Fast.tw8679253222884573:Unit:=()
def PySem.W.Fast.tw11330685629621450955:Unit:=()
def PySem.W.Fast.tw7845295575148363993:Unit:=()
def PySem.W.Fast.tw7789320706356133302:Unit:=()
def PySem.W.Fast.tw11073280694585503014:Unit:=()
def PySem.W.Fast.tw2869686901660449488:Unit:=()
def PySem.W.Fast.tw3578158322993100163:Unit:=()
def PySem.W.Fast.tw18320201461184189428:Unit:=()
def PySem.W.Fast.tw9968353438292000832:Unit:=()
def PySem.W.Fast.tw17248485236879896680:Unit:=()
def PySem.W.Fast.tw2286055362308760791:Unit:=()
def PySem.W.Fast.tw16885727068215541807:Unit:=()
def PySem.W.Fast.tw14620749611511565355:Unit:=()
def PySem.W.Fast.tw14063345159440670005:Unit:=()
def PySem.W.Fast.tw3873460900981386410:Unit:=()
def PySem.W.Fast.tw15064992847199433822:Unit:=()
def PySem.W.Fast.tw3571357218988242760:Unit:=()
def PySem.W.Fast.tw6971064987074338514:Unit:=()
def PySem.W.Fast.tw14991298016329939866:Unit:=()
def PySem.W.Fast.tw15055101155046571275:Unit:=()
def PySem.W.Fast.tw16003972700251038972:Unit:=()
def PySem.W.Fast.tw14618420620853286926:Unit:=()
def PySem.W.Fast.tw18241693474153938012:Unit:=()
def PySem.W.Fast.tw12188068343851799386:Unit:=()
def PySem.W.Fast.tw6482477463504552950:Unit:=()
def PySem.W.Fast.tw10857928081472944890:Unit:=()
def PySem.W.Fast.tw16237302213114169107:Unit:=()
def PySem.W.Fast.tw3439288851241162799:Unit:=()
def PySem.W.Fast.tw9271592100115632958:Unit:=()
def PySem.W.Fast.tw1124213586402540134:Unit:=()
def PySem.W.Fast.tw3510864254696256113:Unit:=()
def PySem.W.Fast.tw16167597751345859341:Unit:=()
def PySem.W.Fast.tw14190918624644238743:Unit:=()
def PySem.W.Fast.tw3522640929168300273:Unit:=()
def PySem.W.Fast.tw18383905592832201950:Unit:=()
def PySem.W.Fast.tw14739402235030635728:Unit:=()
def PySem.W.Fast.tw10699981224407842596:Unit:=()
def PySem.W.Fast.tw10008307433153320087:Unit:=()
def PySem.W.Fast.tw14192292677387835934:Unit:=()
def PySem.W.Fast.tw17393679337358936867:Unit:=()
def PySem.W.Fast.tw4861738581376208029:Unit:=()
open PySem PySem.W PyProof.Rows
set_option maxRecDepth 100000 in
set_option maxHeartbeats 0 in
theorem PySem.Challenge.cw_arcmill_k90_agains_opened_holds : PySem.Challenge.rw_arcmill_k90_agains_opened.Holds := by
 w_on;o_law;k_head;(case hw=>w_witness2)
 k_fill
 refine Dd.walk_ofD (l:=PySem.Challenge.rw_arcmill_k90_agains_opened) (n:=63) (k:=151) (x:="_law_script") (sp:=Lw.sp_law) rfl (by decide) rfl ⟨rfl,by decide,by decide⟩ (fun w h Y=>PySem.W.kIn_of Y) ?F Lw.law_here
 case F =>
  intro w mg fa h KX G hmg
  refine' Lw.all_mk KX G hmg ?b0 ?b1 ?b2 ?b3 ?b4 ?b5 ?b6 ?b7 ?b8 ?b9 ?b10 ?b11 ?b12 ?b13 ?b14 ?b15 ?b16 ?b17 ?b18 ?b19 ?b20 ?b21 ?b22 ?b23 ?b24 ?b25 ?b26 ?b27 ?b28 ?b29 ?b30 ?b31 ?b32 ?b33 ?b34 ?b35 ?b36 ?b37 ?b38 ?b39 ?b40 ?b41 ?b42 ?b43 ?b44 ?b45 ?b46 ?b47 ?b48 ?b49 ?b50 ?b51 ?b52 ?b53 ?b54 ?b55 ?b56 ?b57 ?b58 ?b59 ?b60 ?b61 ?b62 ?b63 ?b64 ?a65 ?l65 ?c65 ?k65 ?z_ValueError ?z_abs ?z_int ?z_isinstance ?z_len ?z_min ?z_range ?z_sum ?z_tuple ?at_DEEDS ?lt_DEEDS ?kt_DEEDS ?et_DEEDS_go ?et_DEEDS_skip ?et_DEEDS_side ?et_DEEDS_dot ?et_DEEDS_left ?et_DEEDS_right ?et_DEEDS_round ?et_DEEDS_mirror ?et_DEEDS_grow ?et_DEEDS_quarter ?et_DEEDS_half ?et_DEEDS_arc ?ag_MIDDLE ?lGMIDDLE ?lGMIDDLE_0 ?lGMIDDLE_1 ?ag_MOST_DONE ?ag_MOST_ROWS ?ag_NOTHING ?lGNOTHING ?ag_ONE ?lGONE ?ac_MillError ?xc_MillError ?ac_TooMuch ?xc_TooMuch ?ex0_TooMuch ?ex1_TooMuch ?ex2_TooMuch ?ex3_TooMuch ?ex4_TooMuch ?ex5_TooMuch ?ex6_TooMuch ?hJ ?gI
  (case b0 | b1 | b2 | b3 | b4 | b5 | b6 | b7 | b8 | b9 | b10 | b11 | b12 | b13 | b14 | b15 | b16 | b17 | b18 | b19 | b20 | b21 | b22 | b23 | b24 | b25 | b26 | b27 | b28 | b29 | b30 | b31 | b32 | b33 | b34 | b35 | b36 | b37 | b38 | b39 | b40 | b41 | b42 | b43 | b44 | b45 | b46 | b47 | b48 | b49 | b50 | b51 | b52 | b53 | b54 | b55 | b56 | b57 | b58 | b59 | b60 | b61 | b62 | b63 | b64 =>exact ⟨by k_is,_,L2.fun_mk (by k_is) (by k_is) (by k_is)⟩)
  (case a65 | l65 | c65 | k65 | z_ValueError | z_abs | z_int | z_isinstance | z_len | z_min | z_range | z_sum | z_tuple | at_DEEDS | lt_DEEDS =>k_is)
  (case kt_DEEDS=>k_keys)
  (case et_DEEDS_go | et_DEEDS_skip | et_DEEDS_side | et_DEEDS_dot | et_DEEDS_left | et_DEEDS_right | et_DEEDS_round | et_DEEDS_mirror | et_DEEDS_grow | et_DEEDS_quarter | et_DEEDS_half | et_DEEDS_arc | ag_MIDDLE | lGMIDDLE | lGMIDDLE_0 | lGMIDDLE_1 | ag_MOST_DONE | ag_MOST_ROWS | ag_NOTHING | lGNOTHING | ag_ONE | lGONE | ac_MillError =>k_is)
  (case xc_MillError=>unfold Dd.bmV;k_exc)
  (case ac_TooMuch=>k_is)
  (case xc_TooMuch=>unfold Dd.bmV;k_exc)
  (case ex0_TooMuch | ex1_TooMuch | ex2_TooMuch | ex3_TooMuch | ex4_TooMuch | ex5_TooMuch | ex6_TooMuch =>k_is)
  (case hJ=>kts_exm)
  (case gI=>kit_is)
