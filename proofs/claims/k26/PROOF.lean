import PyProof.Rows.All
import Wide.All
import OpenK.AllK
import Wide.FinOn
import Lean
import PyProof.EqAt
import PyProof.EqKinds
import PyProof.TupleCall
import PyProof.NeKinds
import PyProof.IsRules
import PyProof.CompFree
import KE.LcSums
import PyProof.FactsAll.range_1
import PyProof.SeqRoads2
import KE.KRevSl
import PyProof.ZipIter
import PyProof.TupleIter
import PyProof.FitsBits
import PyProof.NoPylong
import KE.IntBitsLaws
import PyProof.CompMap
import PyProof.AutoSeq1
import PyProof.SeqInW
import KE.KDictList
import PyProof.Rows.TupDisplay
import KE.KSortTup
import PyProof.ListMulRoad
import PyProof.Rows.SumAny
import PyProof.StrLawsOcc
import PyProof.FitsReplace
import PyProof.CollectIter
import PyProof.Rows.CountFlat
import PySem.Challenge.RW_arcmill_k26_whole_texts_by_lines
set_option Elab.async false
set_option linter.all false
set_option bootstrap.genMatcherCode false
set_option maxRecDepth 100000
open List (range mem_cons_self mem_cons_of_mem mem_append_left mem_append_right append_nil replicate length_take getElem?_append_right getElem?_append_left getElem?_map mem_of_getElem? length_append length_map size_toArray length_drop length_singleton replicate_succ flatten_cons map_nil map_cons length_cons take_zero length_set getElem?_set all_cons drop_zero take_of_length_le lookup_cons mem_cons not_mem_nil foldl_cons append_assoc foldl length_nil cons_append nil_append range' range'_succ map sum_cons mem_map_of_mem take_length drop_length any_cons map_append all_eq_true nodup_append any_nil Nodup dropLast_concat foldl_nil foldl_append nodup_cons map_map map_take)
open PySem.W (instObj methodObj Frag lookIn findIn mroIn kitOne kia_one kitx_list keepIn callWith_K fnOf codeIn excIn KeysLit nsIn mapOf_K find_K mg_of Looks typeIn clsIn exmOne mg_none_of)
namespace L2
open PySem PySem.Spec PyProof.Rows
noncomputable abbrev Key:=Sum Int Str
noncomputable def aJt:Key->Value->Bool
 | .inl k,v=>Value.isInt k v
 | .inr x,v=>Value.isStrOf x v
noncomputable def aOU (w:World):Key->Int
 | .inl k=>hashInt k
 | .inr x=>hashStr w x
theorem eR:∀ {k:Key} {v:Value},aJt k v = true->(∃ i t,k = Sum.inl i/\v = Value.int i t) ∨ (∃ x t,k = Sum.inr x/\v = Value.str x t)
 | .inl i,v,h=>by
  obtain ⟨t,e⟩:=Value.isInt_shape (k:=i) (v:=v) h
  exact .inl ⟨i,t,rfl,e⟩
 | .inr x,v,h=>by
  obtain ⟨t,e⟩:=Value.isStrOf_shape (x:=x) (v:=v) h
  exact .inr ⟨x,t,rfl,e⟩
theorem aKG (a b:Int):decide ((Sum.inl a:Key) = Sum.inl b) = (a == b):=by
 by_cases e:a = b
 ·subst e;simp
 ·have h:¬ (Sum.inl a:Key) = Sum.inl b:=fun q=>e (Sum.inl.inj q)
  rw [decide_eq_false h]
  exact (beq_eq_false_iff_ne.mpr e).symm
theorem aLI (a b:Str):decide ((Sum.inr a:Key) = Sum.inr b) = decide (a = b):=by
 by_cases e:a = b
 ·subst e;simp
 ·have h:¬ (Sum.inr a:Key) = Sum.inr b:=fun q=>e (Sum.inr.inj q)
  rw [decide_eq_false h,decide_eq_false e]
theorem aLY (a:Int) (b:Str):decide ((Sum.inl a:Key) = Sum.inr b) = false:=decide_eq_false (fun q=>nomatch q)
theorem aLB (a:Str) (b:Int):decide ((Sum.inr a:Key) = Sum.inl b) = false:=decide_eq_false (fun q=>nomatch q)
noncomputable def aD4 (prog:Program) (w:World):PySem.KeyKind prog w Key where
 is:=aJt
 hash:=aOU w
 inj:=fun v a b ha hb=>by
  rcases eR ha with ⟨i,t,rfl,rfl⟩ | ⟨x,t,rfl,rfl⟩
  ·rcases eR hb with ⟨j,u,rfl,e⟩ | ⟨y,u,rfl,e⟩
   ·injection e with e1 _;rw [e1]
   ·exact nomatch e
  ·rcases eR hb with ⟨j,u,rfl,e⟩ | ⟨y,u,rfl,e⟩
   ·exact nomatch e
   ·injection e with e1 _;rw [e1]
 byValue:=fun k v h=>by
  rcases eR h with ⟨i,t,rfl,rfl⟩ | ⟨x,t,rfl,rfl⟩<;>rfl
 pyHash:=fun hv h=>by
  rcases eR hv with ⟨i,t,rfl,rfl⟩ | ⟨x,t,rfl,rfl⟩
  ·exact wpAny_pyHash_int h
  ·exact wpAny_pyHash_str h
 eqBool:=fun hu hv h=>by
  rcases eR hu with ⟨i,t,rfl,rfl⟩ | ⟨x,t,rfl,rfl⟩
  ·rcases eR hv with ⟨j,u,rfl,rfl⟩ | ⟨y,u,rfl,rfl⟩
   ·rw [aKG] at h;exact wpAny_eqBool_int h
   ·rw [aLY] at h;exact SeqAt.EqAt.int_str i t y u _ _ _ _ h
  ·rcases eR hv with ⟨j,u,rfl,rfl⟩ | ⟨y,u,rfl,rfl⟩
   ·rw [aLB] at h;exact SeqAt.EqAt.str_int x t j u _ _ _ _ h
   ·rw [aLI] at h;exact wpAny_eqBool_str h
 «strs»:=fun k x t v h=>by
  rcases eR h with ⟨i,u,rfl,e⟩ | ⟨y,u,rfl,e⟩
  ·exact nomatch e
  ·injection e with e1 _
   subst e1
   cases v<;>rfl
inductive V where
 | non | bl (b:Bool) | int (i:Int) | str (x:Str) | byt (b:Array UInt8) | flt (b:UInt64) | ref (a:Addr) | ty (n:String)
 deriving DecidableEq
def cS:V->Value->Prop
 | .non,u=>u = Value.none
 | .bl b,u=>u = Value.bool b
 | .int i,u=>∃ t,u = Value.int i t
 | .str x,u=>∃ t,u = Value.str x t
 | .byt b,u=>∃ t,u = Value.bytes b t
 | .flt b,u=>∃ t,u = Value.float b t
 | .ref a,u=>u = Value.ref a
 | .ty n,u=>u = Value.type n
abbrev cG:List V->List Value->Prop:=Paired cS
theorem cG.length {xs:List V} {us:List Value} (r:cG xs us):xs.length = us.length:=Paired.length r
theorem cG.get:∀ {xs:List V} {us:List Value} {i:Nat} {x:V},cG xs us->xs[i]? = some x->∃ u,us[i]? = some u/\cS x u
 | _,_,_,_,.nil,e=>by simp at e
 | _,_,0,_,.cons r _,e=>by simp at e;subst e;exact ⟨_,rfl,r⟩
 | _,_,i + 1,x,.cons _ t,e=>by
  obtain ⟨u,h1,h2⟩:=cG.get (i:=i) (x:=x) t (by simpa using e)
  exact ⟨u,by simpa using h1,h2⟩
theorem cG.append:∀ {xs ys:List V} {us ws:List Value},cG xs us->cG ys ws->cG (xs ++ ys) (us ++ ws)
 | _,_,_,_,.nil,s=>s
 | _,_,_,_,.cons r t,s=>.cons r (cG.append t s)
theorem cG.take:∀ {xs:List V} {us:List Value} (n:Nat),cG xs us->cG (xs.take n) (us.take n)
 | _,_,0,_=>.nil
 | _,_,_ + 1,.nil=>.nil
 | _,_,n + 1,.cons r t=>.cons r (cG.take n t)
theorem cG.drop:∀ {xs:List V} {us:List Value} (n:Nat),cG xs us->cG (xs.drop n) (us.drop n)
 | _,_,0,r=>r
 | _,_,_ + 1,.nil=>.nil
 | _,_,n + 1,.cons _ t=>cG.drop n t
def aIe:Option V->Option Value->Prop
 | some v,some u=>cS v u
 | none,none=>True
 | _,_=>False
def KV {κ:Type}:List (κ × V)->List (κ × Value)->Prop:=Paired fun (p:κ × V) (q:κ × Value)=>p.1 = q.1/\cS p.2 q.2
noncomputable def kV:Key->V
 | .inl i=>.int i
 | .inr x=>.str x
inductive HO where
  | lst (xs:List V)
  | tup (xs:List V)
  | dK (kvs:List (Key × V)) | dT (kvs:List (List Key × V))
  | set (S:Int->Bool) (n:Nat)
  | ins (C dx:Addr) (fs:List (Str × V))
  | own (x:Addr)
  | xd (fs:List (Str × V))
  | met (f x:Addr)
  | rng (lo hi:Int)
  | frz (o:Obj) (u:HO)
  | tbl (ps:Array Value)
  | ext (φ:Heap->Prop)
noncomputable abbrev Hp:=Addr->Option HO
noncomputable def upd (H:Hp) (a:Addr) (o:HO):Hp:=fun b=>if b = a then some o else H b
theorem dN {H:Hp} {a:Addr} {o:HO}:upd H a o a = some o:=by unfold upd;rw [if_pos rfl]
theorem bS {H:Hp} {a b:Addr} {o:HO} (h:b ≠ a):upd H a o b = H b:=by unfold upd;rw [if_neg h]
theorem xO {H:Hp} {a b:Addr} {o u:HO} (h:H a = some o) (h':H b = some u) (d:o ≠ u):a ≠ b:=by
 intro e;subst e;rw [h] at h';exact d (Option.some.inj h')
theorem bX {H:Hp} {a b:Addr} {o:HO} (h:H a = some o) (h':H b = none):a ≠ b:=by
 intro e;subst e;rw [h] at h';cases h'
section
variable (P:Program) (w:World)
def fO (H:Hp) (h:Heap) (a:Addr):HO->Prop
 | .lst xs=>xs.length<=sizeLine/\∃ (its:List Value) (n:Nat),cG xs its/\h.get? a = some { cls:=.type "list",data:=.seq its.toArray n }
 | .tup xs=>xs.length<=sizeLine/\∃ its:List Value,cG xs its/\IsTup h a its.toArray
 | .dK kvs=>kvs.length<=sizeLine/\(a == sysModules) = false/\∃ vs,KV kvs vs/\h.DictOf (aD4 P w) a vs
 | .dT kvs=>kvs.length<=sizeLine/\(a == sysModules) = false/\∃ xs:List (List Key × Addr × Value),
   Paired (fun (p:List Key × V) (q:List Key × Addr × Value)=>p.1 = q.1/\H q.2.1 = some (.tup (p.1.map kV))/\cS p.2 q.2.2) kvs xs /\
   ∃ o es ep,h.get? a = some o/\o.ExactDict/\o.data = .dict es ep/\es.toList = xs.map (entryOfKey (tupleKind (aD4 P w)))/\(xs.map (·.1)).Nodup
 | .set S n=>h.SetOf (intKind P w) a S n
 | .ins C dx fs=>H dx = some (.own a)/\fs.length<=1000/\dx ≠ a/\h.get? a = some (instObj C dx) /\
   ∃ mA,h.Ns1 dx mA/\(∀ f,aIe (fs.lookup f) (mA f))/\PySem.Within mA (fs.map (·.1))
 | .own _=>∃ o,h.get? a = some o
 | .xd fs=>∃ mA,h.Ns1 a mA/\∀ f,aIe (fs.lookup f) (mA f)
 | .rng lo hi=>∃ t u v,h.get? a = some { cls:=.type "range",data:=.fields #[.int lo t,.int hi u,.int 1 v] }
 | .frz o u=>h.get? a = some o/\fO H h a u
 | .tbl ps=>h.get? a = some { cls:=.none,data:=.fields ps }
 | .met f x=>h.get? a = some (methodObj (.ref f) (.ref x))
 | .ext φ=>φ h/\(∃ o,h.get? a = some o)/\∀ h1 h2:Heap,φ h1->(∀ o,h1.get? a = some o->h2.get? a = some o)->φ h2
def HOk (H:Hp) (h:Heap):Prop:=∀ a o,H a = some o->fO P w H h a o
end
section
variable {P:Program} {w:World} {H H':Hp} {h h':Heap} {a:Addr} {o:HO}
theorem fO.lt (x:fO P w H h a o):a < h.objs.size:=by
 cases o with
 | lst xs=>obtain ⟨_,_,_,_,e⟩:=x;exact Heap.lt_size e
 | tup xs=>obtain ⟨_,_,_,p⟩:=x;exact p.lt
 | dK kvs=>obtain ⟨_,_,_,_,o,_,_,e,_⟩:=x;exact Heap.lt_size e
 | dT kvs=>obtain ⟨_,_,_,_,o,_,_,e,_⟩:=x;exact Heap.lt_size e
 | set S n=>obtain ⟨o,_,_,_,e,_⟩:=x;exact Heap.lt_size e
 | ins C dx fs=>obtain ⟨_,_,_,e,_⟩:=x;exact Heap.lt_size e
 | own y=>obtain ⟨_,e⟩:=x;exact Heap.lt_size e
 | xd fs=>obtain ⟨_,⟨_,_,_,e,_⟩,_⟩:=x;exact Heap.lt_size e
 | rng lo hi=>obtain ⟨_,_,_,e⟩:=x;exact Heap.lt_size e
 | frz ob u=>obtain ⟨e,_⟩:=x;exact Heap.lt_size e
 | tbl ps=>exact Heap.lt_size (show h.get? a = some _ from x)
 | met f y=>exact Heap.lt_size (show h.get? a = some _ from x)
 | ext φ=>obtain ⟨_,⟨_,e⟩,_⟩:=x;exact Heap.lt_size e
theorem Paired.mapP {α β:Type} {F G:α->β->Prop}:∀ {l₁:List α} {l₂:List β},Paired F l₁ l₂->(∀ a b,F a b->G a b)->Paired G l₁ l₂
 | _,_,.nil,_=>.nil
 | _,_,.cons r t,f=>.cons (f _ _ r) (Paired.mapP t f)
theorem fO.stay (x:fO P w H h a o) (k:∀ b u,(b = a ∨ H b = some (.own a))->h.get? b = some u->h'.get? b = some u)
  (ho:∀ b,H b = some (.own a)->H' b = some (.own a)) (ht:∀ b xs,H b = some (.tup xs)->H' b = some (.tup xs)):fO P w H' h' a o:=by
 induction o with
 | lst xs=>obtain ⟨z,its,n,r,e⟩:=x;exact ⟨z,its,n,r,k _ _ (.inl rfl) e⟩
 | tup xs=>obtain ⟨z,its,r,ob,e,c⟩:=x;exact ⟨z,its,r,ob,k _ _ (.inl rfl) e,c⟩
 | dK kvs=>obtain ⟨z,y,vs,r,ob,es,ep,e,c⟩:=x;exact ⟨z,y,vs,r,ob,es,ep,k _ _ (.inl rfl) e,c⟩
 | dT kvs =>
  obtain ⟨z,y,xs,r,ob,es,ep,e,c⟩:=x
  exact ⟨z,y,xs,Paired.mapP r fun p q z=>⟨z.1,ht _ _ z.2.1,z.2.2⟩,ob,es,ep,k _ _ (.inl rfl) e,c⟩
 | set S n=>obtain ⟨ob,es,ep,t,e,c⟩:=x;exact ⟨ob,es,ep,t,k _ _ (.inl rfl) e,c⟩
 | ins C dx fs =>
  obtain ⟨d,z,ne,e,mA,⟨od,es,ep,e2,c⟩,r⟩:=x
  exact ⟨ho _ d,z,ne,k _ _ (.inl rfl) e,mA,⟨od,es,ep,k _ _ (.inr d) e2,c⟩,r⟩
 | own y=>obtain ⟨ob,e⟩:=x;exact ⟨ob,k _ _ (.inl rfl) e⟩
 | xd fs=>obtain ⟨mA,⟨od,es,ep,e,c⟩,r⟩:=x;exact ⟨mA,⟨od,es,ep,k _ _ (.inl rfl) e,c⟩,r⟩
 | rng lo hi=>obtain ⟨t,u,v,e⟩:=x;exact ⟨t,u,v,k _ _ (.inl rfl) e⟩
 | frz ob u ih=>obtain ⟨e,q⟩:=x;exact ⟨k _ _ (.inl rfl) e,ih q⟩
 | tbl ps =>
  have e:h.get? a = some { cls:=.none,data:=.fields ps }:=x
  show h'.get? a = some { cls:=.none,data:=.fields ps }
  exact k a _ (.inl rfl) e
 | met f y =>
  have e:h.get? a = some (methodObj (.ref f) (.ref y)):=x
  show h'.get? a = some (methodObj (.ref f) (.ref y))
  exact k a _ (.inl rfl) e
 | ext φ=>obtain ⟨p,⟨o,e⟩,st⟩:=x;exact ⟨st _ _ p fun o q=>k _ _ (.inl rfl) q,⟨o,k _ _ (.inl rfl) e⟩,st⟩
theorem HOk.lt (x:HOk P w H h) (e:H a = some o):a < h.objs.size:=(x a o e).lt
theorem HOk.fresh (x:HOk P w H h) (e:h.objs.size<=a):H a = none:=by
 cases q:H a with
 | none=>rfl
 | some u=>exact absurd (Nat.lt_of_lt_of_le (x.lt q) e) (Nat.lt_irrefl _)
theorem HOk.kept (x:HOk P w H h) (k:∀ b u,h.get? b = some u->h'.get? b = some u):HOk P w H h':=fun a o e =>
 (x a o e).stay (fun b u _ q=>k b u q) (fun _ q=>q) fun _ _ q=>q
theorem HOk.laid (x:HOk P w H h) (k:∀ b u,h.get? b = some u->h'.get? b = some u) (hp:h.objs.size<=a) (new:fO P w (upd H a o) h' a o):HOk P w (upd H a o) h':=fun b u e=>by
 have hn:=x.fresh hp
 by_cases hb:b = a
 ·subst hb;rw [dN] at e;cases e;exact new
 ·rw [bS hb] at e
  exact (x b u e).stay (fun c v _ q=>k c v q) (fun c q=>by rw [bS (bX q hn)];exact q) fun c xs q=>by rw [bS (bX q hn)];exact q
end
def Rd (H:Hp) (a:Addr) (u:HO):Prop:=H a = some u ∨ ∃ o,H a = some (.frz o u)
theorem Rd.ok {P:Program} {w:World} {H:Hp} {h:Heap} {a:Addr} {u:HO} (r:Rd H a u) (x:HOk P w H h):fO P w H h a u:=by
 rcases r with r | ⟨o,r⟩
 ·exact x a u r
 ·obtain ⟨_,q⟩:=x a _ r
  exact q
def Mut:Option HO->Prop
 | some (.lst _)=>True
 | some (.dK _)=>True
 | some (.dT _)=>True
 | some (.set _ _)=>True
 | some (.ins _ _ _)=>True
 | some (.ext _)=>True
 | _=>False
section
variable {P:Program} {w:World} {H:Hp} {h h':Heap} {x e:Addr} {o':HO}
theorem HOk.write (ok:HOk P w H h) (mu:Mut (H x)) (he:e = x ∨ H e = some (.own x)) (k:∀ b u,b ≠ e->h.get? b = some u->h'.get? b = some u) (heo:∃ u,h'.get? e = some u)
  (new:fO P w (upd H x o') h' x o'):HOk P w (upd H x o') h':=fun b u q=>by
 have nown:∀ c y,H c = some (.own y)->c ≠ x:=fun c y r z=>by subst z;rw [r] at mu;exact mu
 have ntup:∀ c xs,H c = some (.tup xs)->c ≠ x:=fun c xs r z=>by subst z;rw [r] at mu;exact mu
 by_cases hb:b = x
 ·subst hb;rw [dN] at q;cases q;exact new
 ·rw [bS hb] at q
  by_cases hbe:b = e
  ·have q':H b = some (.own x):=by
    rcases he with z | z
    ·exact absurd (hbe.trans z) hb
    ·rw [hbe];exact z
   rw [q] at q';cases q'
   obtain ⟨v,hv⟩:=heo
   exact ⟨v,by rw [hbe];exact hv⟩
  ·refine (ok b u q).stay (fun c v hc r=>k c v ?_ r) (fun c r=>by rw [bS (nown c b r)];exact r) fun c xs r=>by rw [bS (ntup c xs r)];exact r
   rcases hc with rfl | hc
   ·exact hbe
   ·rintro rfl
    rcases he with z | z
    ·exact nown c b hc z
    ·rw [hc] at z;cases z;exact hb rfl
end
structure Un (fs ex:List Addr) (H H':Hp) (h h':Heap):Prop where
 keep:∀ b o,h.get? b = some o->H b = none->b ∉ fs->b ∉ ex->h'.get? b = some o
 slot:∀ b o,h.get? b = some o->H b = none->b ∈ fs->b ∉ ex->∃ sl,h'.get? b = some { o with slots:=sl }
 free:∀ b o,h.get? b = some o->H b = none->b ∉ ex->H' b = none
 there:∀ b o,h.get? b = some o->b ∉ ex->∃ o',h'.get? b = some o'
 tups:∀ b xs,H b = some (.tup xs)->H' b = some (.tup xs)
 frzs:∀ b o u,H b = some (.frz o u)->H' b = some (.frz o u)
 tbls:∀ b ps,H b = some (.tbl ps)->∃ more,H' b = some (.tbl (ps ++ more))
section
variable {fs fs' ex ex':List Addr} {H H1 H2:Hp} {h h1 h2 h':Heap} {a x e:Addr} {o:HO}
theorem Un.any (u:Un fs ex H H1 h h1) {b:Addr} {ob:Obj} (q:h.get? b = some ob) (n:H b = none) (hx:b ∉ ex):∃ sl,h1.get? b = some { ob with slots:=sl }:=by
 by_cases hb:b ∈ fs
 ·exact u.slot b ob q n hb hx
 ·exact ⟨ob.slots,u.keep b ob q n hb hx⟩
theorem Un.trans (a:Un fs ex H H1 h h1) (b:Un fs ex H1 H2 h1 h2):Un fs ex H H2 h h2 where
 keep:=fun c ob q n hc hx=>b.keep c ob (a.keep c ob q n hc hx) (a.free c ob q n hx) hc hx
 slot:=fun c ob q n hc hx=>by
  obtain ⟨sl,e1⟩:=a.slot c ob q n hc hx
  obtain ⟨sl',e2⟩:=b.slot c _ e1 (a.free c ob q n hx) hc hx
  exact ⟨sl',e2⟩
 free:=fun c ob q n hx=>by
  obtain ⟨o',e1⟩:=a.there c ob q hx
  exact b.free c o' e1 (a.free c ob q n hx) hx
 there:=fun c ob q hx=>by
  obtain ⟨o',e1⟩:=a.there c ob q hx
  exact b.there c o' e1 hx
 tups:=fun c xs q=>b.tups c xs (a.tups c xs q)
 frzs:=fun c ob xs q=>b.frzs c ob xs (a.frzs c ob xs q)
 tbls:=fun c ps q=>by
  obtain ⟨m1,e1⟩:=a.tbls c ps q
  obtain ⟨m2,e2⟩:=b.tbls c _ e1
  exact ⟨m1 ++ m2,by rw [e2,Array.append_assoc]⟩
theorem Un.kept (k:∀ b u,h.get? b = some u->h'.get? b = some u):Un fs ex H H h h' :=
 ⟨fun b ob q _ _ _=>k b ob q,fun b ob q _ _ _=>⟨ob.slots,k b ob q⟩,fun _ _ _ n _=>n,fun b ob q _=>⟨ob,k b ob q⟩,fun _ _ q=>q,fun _ _ _ q=>q,fun _ ps q=>⟨#[],by rw [q];simp⟩⟩
theorem Un.refl:Un fs ex H H h h:=Un.kept fun _ _ q=>q
theorem Un.laid (k:∀ b u,h.get? b = some u->h'.get? b = some u) (hp:h.objs.size<=a) (hn:H a = none):Un fs ex H (upd H a o) h h' where
 keep:=fun b u q _ _ _=>k b u q
 slot:=fun b u q _ _ _=>⟨u.slots,k b u q⟩
 free:=fun b u q n _=>by rw [bS (Nat.ne_of_lt (Nat.lt_of_lt_of_le (Heap.lt_size q) hp))];exact n
 there:=fun b u q _=>⟨u,k b u q⟩
 tups:=fun b xs q=>by rw [bS (bX q hn)];exact q
 frzs:=fun b u xs q=>by rw [bS (bX q hn)];exact q
 tbls:=fun b ps q=>⟨#[],by rw [bS (bX q hn),q];simp⟩
theorem Un.write (mu:Mut (H x)) (he:e = x ∨ H e = some (.own x)) (k:∀ b u,b ≠ e->h.get? b = some u->h'.get? b = some u) (heo:∃ u,h'.get? e = some u):Un fs ex H (upd H x o) h h':=by
 have hx:∀ b,H b = none->b ≠ x:=fun b n z=>by subst z;rw [n] at mu;exact mu
 have hb:∀ b,H b = none->b ≠ e:=fun b n z=>by
  subst z
  rcases he with r | r
  ·exact hx b n r
  ·rw [n] at r;cases r
 have hm:∀ b u,H b = some u->¬ Mut (some u)->b ≠ x:=fun b u q nm z=>by subst z;rw [q] at mu;exact nm mu
 refine ⟨fun b u q n _ _=>k b u (hb b n) q,fun b u q n _ _=>⟨u.slots,k b u (hb b n) q⟩,fun b u q n _=>by rw [bS (hx b n)];exact n,fun b u q _=>?_,
  fun b xs q=>by rw [bS (hm b _ q fun z=>z)];exact q,fun b u xs q=>by rw [bS (hm b _ q fun z=>z)];exact q,fun b ps q=>⟨#[],by rw [bS (hm b _ q fun z=>z),q];simp⟩⟩
 by_cases hbe:b = e
 ·subst hbe;exact heo
 ·exact ⟨u,k b u hbe q⟩
end
noncomputable def trk (h:Heap) (H:Hp):List Addr:=(range h.objs.size).filter fun a=>(H a).isSome
noncomputable def aBz (h:Heap) (H:Hp):Heap:=PySem.W.hideAll h (trk h H)
theorem aEQ (h:Heap) (H:Hp):(aBz h H).objs.size = h.objs.size:=PySem.W.hideAll_size _ _
theorem aFY {h:Heap} {H:Hp} {b:Addr} {o:Obj} (e:h.get? b = some o) (n:H b = none):(aBz h H).get? b = some o :=
 PySem.W.hideAll_get _ e fun hm=>by
  have q:(H b).isSome = true:=(List.mem_filter.mp hm).2
  rw [n] at q;simp at q
theorem aH7 {h:Heap} {H:Hp} {b:Addr} {o:Obj} (e:(aBz h H).get? b = some o):h.get? b = some o/\H b = none:=by
 have e':h.get? b = some o:=PySem.W.of_hideAll (trk h H) e
 refine ⟨e',?_⟩
 cases q:H b with
 | none=>rfl
 | some x =>
  have hm:b ∈ trk h H:=List.mem_filter.mpr ⟨List.mem_range.mpr (Heap.lt_size e'),by simp [q]⟩
  have z:(aBz h H).get? b = none:=PySem.W.hideAll_none (trk h H) hm
  rw [z] at e;cases e
noncomputable def aIu (g h:Heap) (L:Addr):List (Addr × Obj):=(range h.objs.size).filterMap fun a=>if a = L ∨ (g.get? a).isSome = true then none else (h.get? a).map fun o=>(a,o)
noncomputable def cT (g h:Heap) (L d:Addr):List (Addr × Obj):=(aIu g h L).filter fun p=>decide (p.1 ≠ d)
structure Mod (K:Frag) (mg:Str->Option Value) (base:Heap):Prop where
 kin:K.In base
 glob:base.Ns mainGlobals mg
 blt:∃ mb,base.Ns builtinsNs mb/\∀ x:Str,x ≠ "__name__"->mb x = bootBuiltins x
 nolimit:base.NoLimit
structure Cx where
 prog:Program
 w:World
 K:Frag
 mg:Str->Option Value
 base:Heap
 A:Around
 N:List Str
 s₀:Shared
 H₀:Hp
 env:Env
 outer:List Env
 stack:List Env
 ex:List Addr
 fn:Str->Bool
 calm:Bool
 pn:List (Addr × Obj)
 xe:Value->Shared->Prop
noncomputable def frs (l:List Env):List Addr:=l.filterMap (·.frame)
noncomputable abbrev Cx.fs (X:Cx):List Addr:=frs X.outer
def Vis (sc:Scope) (x:Str):Prop:=sc.names.lookup x = some .local ∨ sc.names.lookup x = some .cell ∨ sc.names.lookup x = some .free
def Loc (sc:Scope) (x:Str):Prop:=sc.names.lookup x = some .local ∨ sc.names.lookup x = some .cell
def aNN (env:Env) (h:Heap) (m:Str->Option Value) (x:Str) (u:Value):Prop :=
 (env.kindOf x = some .local/\m x = some u) ∨ ((env.kindOf x = some .cell ∨ env.kindOf x = some .free)/\∃ c,env.cells.lookup x = some c/\h.IsCell c (some u))
structure Cx.Ok (X:Cx):Prop where
 mod:Mod X.K X.mg X.base
 kind:X.env.scope.kind = .function
 glob:X.env.globals = mainGlobals
 blt:X.env.builtins = builtinsNs
 above:X.s₀.heap.objs.size<=X.env.locals
 inj:∀ x y c,X.env.cells.lookup x = some c->X.env.cells.lookup y = some c->x = y
 has:∀ x,(X.env.kindOf x = some .cell ∨ X.env.kindOf x = some .free)->∃ c,X.env.cells.lookup x = some c
 cab:∀ x c,X.fn x = true->X.env.cells.lookup x = some c->X.s₀.heap.objs.size<=c
 hd:X.calm = true->X.A.handled = none
 frames:X.A.frames = some X.stack
 stk:X.stack = X.outer ∨ (X.stack = X.env :: X.outer/\X.env.frame = some X.env.locals)
 exf:∀ b ∈ X.ex,b ≠ X.env.locals/\∀ x c,X.env.cells.lookup x = some c->c ≠ b
 bs:∀ b o,X.base.get? b = some o->X.s₀.heap.get? b = some o/\X.H₀ b = none
 bsz:X.base.objs.size<=X.s₀.heap.objs.size
 noex:∀ b o,X.base.get? b = some o->b ∉ X.ex
 exfs:∀ b ∈ X.ex,b ∉ X.fs
 funs:X.s₀.heap.FunFrames X.base X.outer
 frf:∀ b ∈ X.fs,X.H₀ b = none
structure Inv (X:Cx) (pins:List (Addr × Obj)) (σ:List (Option V)) (H:Hp) (s:Shared):Prop where
 ok:X.Ok
 os:s.os = X.s₀.os
 bare:AllBare s.gens
 base:Un X.fs X.ex X.H₀ H X.s₀.heap s.heap
 loc:∃ m,s.heap.Ns X.env.locals m/\∀ (i:Nat) (x:Str) (v:V),X.N[i]? = some x->σ[i]? = some (some v)->Vis X.env.scope x->∃ u,cS v u/\aNN X.env s.heap m x u
 cell:∀ x c,X.env.cells.lookup x = some c->∃ v,s.heap.IsCell c v
 free:H X.env.locals = none
 freeC:∀ x c,X.env.cells.lookup x = some c->H c = none
 pin:∀ p ∈ X.pn ++ pins,s.heap.get? p.1 = some p.2/\H p.1 = none/\p.1 ≠ X.env.locals/\p.1 ∉ X.fs/\∀ v,p.2.data ≠ .cell v
 hok:HOk X.prog X.w H s.heap
 len:σ.length = X.N.length
section
variable {X:Cx} {pins:List (Addr × Obj)} {σ:List (Option V)} {H H':Hp} {s:Shared} {h':Heap}
theorem Cx.Ok.nofr (ok:X.Ok) {b:Addr} {o:Obj} (e:X.base.get? b = some o):b ∉ X.fs:=fun hb=>by
 have:=(ok.funs.mem hb).1
 rw [e] at this;cases this
theorem Inv.bs (I:Inv X pins σ H s):∀ b o,X.base.get? b = some o->s.heap.get? b = some o/\H b = none:=fun b o e =>
 ⟨I.base.keep b o (I.ok.bs b o e).1 (I.ok.bs b o e).2 (I.ok.nofr e) (I.ok.noex b o e),I.base.free b o (I.ok.bs b o e).1 (I.ok.bs b o e).2 (I.ok.noex b o e)⟩
theorem Inv.bk (I:Inv X pins σ H s):∀ b o,X.base.get? b = some o->s.heap.get? b = some o:=fun b o e=>(I.bs b o e).1
theorem Inv.mod (I:Inv X pins σ H s):Mod X.K X.mg X.base:=I.ok.mod
theorem Inv.kIn (I:Inv X pins σ H s):X.K.In s.heap:=I.ok.mod.kin.keeps I.bk
theorem Inv.lt (I:Inv X pins σ H s):X.env.locals < s.heap.objs.size:=let ⟨_,hn,_⟩:=I.loc;hn.lt
theorem Inv.sz (I:Inv X pins σ H s):X.s₀.heap.objs.size<=s.heap.objs.size:=Nat.le_trans I.ok.above (Nat.le_of_lt I.lt)
theorem Inv.nofs (I:Inv X pins σ H s) {a:Addr} (h:s.heap.objs.size<=a):a ∉ X.fs:=fun hb=>by
 obtain ⟨_,o,ho,_⟩:=I.ok.funs.mem hb
 exact absurd (Nat.lt_of_lt_of_le (Heap.lt_size ho) (Nat.le_trans I.sz h)) (Nat.lt_irrefl _)
theorem Inv.cne (I:Inv X pins σ H s):∀ x c,X.env.cells.lookup x = some c->c ≠ X.env.locals:=fun x c e z=>by
 obtain ⟨v,o,ho,hd⟩:=I.cell x c e
 obtain ⟨m,⟨o',es,ep,ho',hd',_⟩,_⟩:=I.loc
 rw [z,ho'] at ho;cases ho;rw [hd'] at hd;cases hd
theorem Inv.funs (I:Inv X pins σ H s):s.heap.FunFrames X.base X.outer:=by
 have all:∀ (l:List Env),(∀ b ∈ frs l,b ∈ X.fs)->X.s₀.heap.FunFrames X.base l->s.heap.FunFrames X.base l:=by
  intro l
  induction l with
  | nil=>intro _ _;trivial
  | cons env r ih =>
   intro hs hl
   obtain ⟨hk,⟨L,o,hf,hn,ho,hd⟩,hr⟩:=hl
   have hL:L ∈ X.fs:=hs L (by unfold frs;rw [List.filterMap_cons,hf];exact mem_cons_self)
   obtain ⟨sl,e⟩:=I.base.slot L o ho (I.ok.frf L hL) hL fun z=>I.ok.exfs L z hL
   exact ⟨hk,⟨L,_,hf,hn,e,hd⟩,ih (fun b hb=>hs b (by unfold frs;rw [List.filterMap_cons,hf];exact mem_cons_of_mem _ hb)) hr⟩
 exact all X.outer (fun _ hb=>hb) I.ok.funs
theorem Inv.stack (I:Inv X pins σ H s):s.heap.FunFrames X.base X.stack:=by
 rcases I.ok.stk with e | ⟨e,hf⟩
 ·rw [e];exact I.funs
 ·rw [e]
  obtain ⟨m,hn,_⟩:=I.loc
  refine .cons (by rw [I.ok.kind];decide) hf hn ?_ I.funs
  exact Heap.get?_none_of_le (Nat.le_trans I.ok.bsz I.ok.above)
theorem Inv.stkSub (I:Inv X pins σ H s):∀ b ∈ frs X.stack,b ∈ X.env.locals :: X.fs:=fun b hb=>by
 rcases I.ok.stk with e | ⟨e,hf⟩
 ·rw [e] at hb;exact mem_cons_of_mem _ hb
 ·rw [e] at hb
  unfold frs at hb
  rw [List.filterMap_cons,hf] at hb
  exact hb
theorem Inv.stkFree (I:Inv X pins σ H s):∀ b ∈ frs X.stack,H b = none:=fun b hb=>by
 rcases List.mem_cons.mp (I.stkSub b hb) with e | hb
 ·rw [e];exact I.free
 ·obtain ⟨_,o,ho,_⟩:=I.ok.funs.mem hb
  exact I.base.free b o ho (I.ok.frf b hb) fun z=>I.ok.exfs b z hb
theorem Inv.step {g':Array GenState} {t':Nat} {d':Drawn} {ch:List Addr} (I:Inv X pins σ H s)
  (hch:∀ b ∈ ch,(b ∈ X.ex ∨ X.s₀.heap.objs.size<=b)/\b ≠ X.env.locals/\(∀ x c,X.env.cells.lookup x = some c->c ≠ b)/\∀ p ∈ X.pn ++ pins,p.1 ≠ b)
  (keep:∀ b o,b ≠ X.env.locals->b ∉ X.fs->b ∉ ch->s.heap.get? b = some o->H b = none->h'.get? b = some o)
  (slot:∀ b o,b ≠ X.env.locals->b ∈ X.fs->b ∉ ch->s.heap.get? b = some o->H b = none->∃ sl,h'.get? b = some { o with slots:=sl }) (free:∀ b o,b ∉ ch->s.heap.get? b = some o->H b = none->H' b = none)
  (there:∀ b o,b ∉ ch->s.heap.get? b = some o->∃ o',h'.get? b = some o')
  (tups:∀ b xs,H b = some (.tup xs)->H' b = some (.tup xs)) (frzs:∀ b o u,H b = some (.frz o u)->H' b = some (.frz o u)) (tbls:∀ b ps,H b = some (.tbl ps)->∃ more,H' b = some (.tbl (ps ++ more)))
  (ns:∀ m,s.heap.Ns X.env.locals m->h'.Ns X.env.locals m) (hok:HOk X.prog X.w H' h') (hg:AllBare g') :
  Inv X pins σ H' { s with heap:=h',gens:=g',drawn:=d',toks:=t' }:=by
 have neL:∀ b o,X.s₀.heap.get? b = some o->b ≠ X.env.locals:=fun b o e=>Nat.ne_of_lt (Nat.lt_of_lt_of_le (Heap.lt_size e) I.ok.above)
 have neC:∀ b o,X.s₀.heap.get? b = some o->b ∉ X.ex->b ∉ ch:=fun b o e hx hb=>by
  rcases (hch b hb).1 with z | z
  ·exact hx z
  ·exact absurd (Nat.lt_of_lt_of_le (Heap.lt_size e) z) (Nat.lt_irrefl _)
 have cellK:∀ x c,X.env.cells.lookup x = some c->∀ v,s.heap.IsCell c v->h'.IsCell c v:=fun x c e v ⟨o,ho,hd⟩=>by
  have nch:c ∉ ch:=fun z=>(hch c z).2.2.1 x c e rfl
  by_cases hc:c ∈ X.fs
  ·obtain ⟨sl,q⟩:=slot c o (I.cne x c e) hc nch ho (I.freeC x c e)
   exact ⟨_,q,hd⟩
  ·exact ⟨o,keep c o (I.cne x c e) hc nch ho (I.freeC x c e),hd⟩
 refine ⟨I.ok,I.os,hg,⟨fun b o e n hb hx=>?_,fun b o e n hb hx=>?_,fun b o e n hx=>?_,fun b o e hx=>?_,fun b xs e=>tups b xs (I.base.tups b xs e),fun b o xs e=>frzs b o xs (I.base.frzs b o xs e),fun b ps e=>?_⟩,?_,fun x c e=>?_,?_,fun x c e=>?_,fun p hp=>?_,hok,I.len⟩
 ·exact keep b o (neL b o e) hb (neC b o e hx) (I.base.keep b o e n hb hx) (I.base.free b o e n hx)
 ·obtain ⟨sl,e1⟩:=I.base.slot b o e n hb hx
  obtain ⟨sl',e2⟩:=slot b _ (neL b o e) hb (neC b o e hx) e1 (I.base.free b o e n hx)
  exact ⟨sl',e2⟩
 ·obtain ⟨o',e1⟩:=I.base.there b o e hx
  exact free b o' (neC b o e hx) e1 (I.base.free b o e n hx)
 ·obtain ⟨o',e1⟩:=I.base.there b o e hx
  exact there b o' (neC b o e hx) e1
 ·obtain ⟨m1,e1⟩:=I.base.tbls b ps e
  obtain ⟨m2,e2⟩:=tbls b _ e1
  exact ⟨m1 ++ m2,by rw [e2,Array.append_assoc]⟩
 ·obtain ⟨m,hn,hl⟩:=I.loc
  refine ⟨m,ns m hn,fun i x v e1 e2 e3=>?_⟩
  obtain ⟨u,r,l⟩:=hl i x v e1 e2 e3
  refine ⟨u,r,?_⟩
  rcases l with l | ⟨k,c,e,z⟩
  ·exact .inl l
  ·exact .inr ⟨k,c,e,cellK x c e _ z⟩
 ·obtain ⟨v,z⟩:=I.cell x c e
  exact ⟨v,cellK x c e v z⟩
 ·obtain ⟨m,⟨o,_,_,ho,_⟩,_⟩:=I.loc
  exact free _ o (fun z=>(hch _ z).2.1 rfl) ho I.free
 ·obtain ⟨v,o,ho,hd⟩:=I.cell x c e
  exact free c o (fun z=>(hch c z).2.2.1 x c e rfl) ho (I.freeC x c e)
 ·obtain ⟨e,n,ne,nf,d⟩:=I.pin p hp
  have nch:p.1 ∉ ch:=fun z=>(hch p.1 z).2.2.2 p hp rfl
  exact ⟨keep p.1 p.2 ne nf nch e n,free p.1 p.2 nch e n,ne,nf,d⟩
theorem Inv.un {t':Nat} (I:Inv X pins σ H s) (u:Un X.fs [] H H' s.heap h') (hok:HOk X.prog X.w H' h'):Inv X pins σ H' { s with heap:=h',toks:=t' }:=by
 obtain ⟨m,⟨o,es,ep,ho,r⟩,_⟩:=id I.loc
 obtain ⟨sl,hL⟩:=u.any ho I.free (by simp)
 exact I.step (g':=s.gens) (d':=s.drawn) (ch:=[]) (fun _ z=>nomatch z) (fun b o _ hb _ e n=>u.keep b o e n hb (by simp)) (fun b o _ hb _ e n=>u.slot b o e n hb (by simp)) (fun b o _ e n=>u.free b o e n (by simp)) (fun b o _ e=>u.there b o e (by simp)) u.tups u.frzs u.tbls (fun m' hm=>by
  obtain ⟨o',es',ep',ho',r'⟩:=hm
  rw [ho] at ho';cases ho'
  exact ⟨_,es',ep',hL,r'⟩) hok I.bare
theorem Inv.call {g':Array GenState} {t':Nat} {d':Drawn} {ch:List Addr} (I:Inv X pins σ H s) (u:Un (frs X.stack) ch H H' s.heap h') (hok:HOk X.prog X.w H' h') (hg:AllBare g')
  (hch:∀ b ∈ ch,(b ∈ X.ex ∨ X.s₀.heap.objs.size<=b)/\b ≠ X.env.locals/\(∀ x c,X.env.cells.lookup x = some c->c ≠ b)/\∀ p ∈ X.pn ++ pins,p.1 ≠ b) :
  Inv X pins σ H' { s with heap:=h',gens:=g',drawn:=d',toks:=t' }:=by
 obtain ⟨m,⟨o,es,ep,ho,r⟩,_⟩:=id I.loc
 obtain ⟨sl,hL⟩:=u.any ho I.free fun z=>(hch _ z).2.1 rfl
 exact I.step (ch:=ch) hch (fun b o hL hb hc e n=>u.keep b o e n (fun z=>(List.mem_cons.mp (I.stkSub b z)).elim hL hb) hc) (fun b o _ _ hc e n=>u.any e n hc) (fun b o hc e n=>u.free b o e n hc) (fun b o hc e=>u.there b o e hc) u.tups u.frzs u.tbls (fun m' hm=>by
  obtain ⟨o',es',ep',ho',r'⟩:=hm
  rw [ho] at ho';cases ho'
  exact ⟨_,es',ep',hL,r'⟩) hok hg
theorem Inv.turned {t':Nat} {it:Addr} (I:Inv X pins σ H s) (k:∀ b o,b ≠ it->s.heap.get? b = some o->h'.get? b = some o) (hn:H it = none) (hL:it ≠ X.env.locals)
  (h1:it ∈ X.ex ∨ X.s₀.heap.objs.size<=it) (h2:∀ x c,X.env.cells.lookup x = some c->c ≠ it) (h3:∀ p ∈ X.pn ++ pins,p.1 ≠ it):Inv X pins σ H { s with heap:=h',toks:=t' }:=by
 have nit:∀ b u,H b = some u->b ≠ it:=fun b u e z=>by rw [z,hn] at e;cases e
 refine I.step (g':=s.gens) (d':=s.drawn) (ch:=[it]) (fun b hb=>?_) (fun b o _ _ hc e _=>k b o (fun z=>hc (by simp [z])) e) (fun b o _ _ hc e _=>⟨o.slots,k b o (fun z=>hc (by simp [z])) e⟩) (fun _ _ _ _ n=>n)
  (fun b o hc e=>⟨o,k b o (fun z=>hc (by simp [z])) e⟩) (fun _ _ e=>e) (fun _ _ _ e=>e) (fun b ps e=>⟨#[],by rw [e];simp⟩) (fun m hm=>?_) (fun b u e=>?_) I.bare
 ·have e:b = it:=by simpa using hb
  subst e
  exact ⟨h1,hL,h2,h3⟩
 ·obtain ⟨o,es,ep,ho,r⟩:=hm
  exact ⟨o,es,ep,k _ o (Ne.symm hL) ho,r⟩
 ·refine (I.hok b u e).stay (fun c v hc q=>k c v ?_ q) (fun _ q=>q) fun _ _ q=>q
  rcases hc with z | z
  ·rw [z];exact nit b u e
  ·exact nit c _ z
theorem Inv.tok (I:Inv X pins σ H s) (t:Nat):Inv X pins σ H { s with toks:=t }:=I.un (h':=s.heap) (t':=t) Un.refl I.hok
theorem Inv.kept {t':Nat} (I:Inv X pins σ H s) (k:∀ b u,s.heap.get? b = some u->h'.get? b = some u):Inv X pins σ H { s with heap:=h',toks:=t' }:=I.un (Un.kept k) (I.hok.kept k)
theorem Inv.laid {a:Addr} {o:HO} {t':Nat} (I:Inv X pins σ H s) (k:∀ b u,s.heap.get? b = some u->h'.get? b = some u) (hp:s.heap.objs.size<=a) (new:fO X.prog X.w (upd H a o) h' a o) :
  Inv X pins σ (upd H a o) { s with heap:=h',toks:=t' }:=I.un (Un.laid k hp (I.hok.fresh hp)) (I.hok.laid k hp new)
theorem Inv.write {x e:Addr} {o:HO} {t':Nat} (I:Inv X pins σ H s) (mu:Mut (H x)) (he:e = x ∨ H e = some (.own x)) (k:∀ b u,b ≠ e->s.heap.get? b = some u->h'.get? b = some u) (heo:∃ u,h'.get? e = some u)
  (new:fO X.prog X.w (upd H x o) h' x o):Inv X pins σ (upd H x o) { s with heap:=h',toks:=t' }:=I.un (Un.write mu he k heo) (I.hok.write mu he k heo new)
theorem Inv.pins_of {pins':List (Addr × Obj)} (I:Inv X pins σ H s) (h:∀ p ∈ pins',s.heap.get? p.1 = some p.2/\H p.1 = none/\p.1 ≠ X.env.locals/\p.1 ∉ X.fs/\∀ v,p.2.data ≠ .cell v):Inv X pins' σ H s :=
 ⟨I.ok,I.os,I.bare,I.base,I.loc,I.cell,I.free,I.freeC,fun p hp=>(List.mem_append.mp hp).elim (fun z=>I.pin p (mem_append_left _ z)) (h p),I.hok,I.len⟩
theorem xP {N:List Str} (hN:N.Nodup) {i j:Nat} {x:Str} (a:N[i]? = some x) (b:N[j]? = some x):i = j:=by
 obtain ⟨h1,e1⟩:=List.getElem?_eq_some_iff.mp a
 obtain ⟨h2,e2⟩:=List.getElem?_eq_some_iff.mp b
 exact (List.getElem_inj hN).mp (e1.trans e2.symm)
theorem tO {M:Model} {A:Around} {E:Value->Shared->Prop} {i:Nat} {x:Str} {v:V} {u:Value} {Q:Unit->Shared->Prop} (I:Inv X pins σ H s) (hN:X.N.Nodup) (hi:X.N[i]? = some x) (hx:Loc X.env.scope x) (r:cS v u)
  (h:∀ s',Inv X pins (σ.set i (some v)) H s'->(∃ a,Heap.SameBut a s.heap s'.heap/\(a = X.env.locals ∨ X.env.cells.lookup x = some a))->Q () s') (hf:X.fn x = true ∨ X.env.scope.names.lookup x = some .local:=by first | exact .inl rfl | exact .inr rfl | assumption):wpAny M A (storeName X.env x u) Q E s:=by
 obtain ⟨m,hn,hl⟩:=id I.loc
 have hcls:(X.env.scope.kind == .class || (X.env.scope.kind == .module && X.env.locals != X.env.globals)) = false:=by rw [I.ok.kind];rfl
 have hiσ:i < σ.length:=by rw [I.len];exact (List.getElem?_eq_some_iff.mp hi).1
 have cne:=I.cne
 have tracked:∀ {a:Addr} {h':Heap},(∃ o,s.heap.get? a = some o/\H a = none)->Heap.SameBut a s.heap h'->HOk X.prog X.w H h':=fun {a h'} ha hs b ob e=>by
  obtain ⟨_,_,hfree⟩:=ha
  refine (I.hok b ob e).stay (fun c w' hc q=>(hs.2 c ?_).trans q) (fun _ q=>q) fun _ _ q=>q
  rintro rfl
  rcases hc with rfl | hc
  ·rw [hfree] at e;cases e
  ·rw [hfree] at hc;cases hc
 rcases hx with hk | hk
 ·refine wpAny_storeName_local hk hn (fun h' hn' hs=>?_) hcls
  obtain ⟨oL,_,_,hoL,_⟩:=id hn
  refine h _ ⟨I.ok,I.os,I.bare,⟨fun b o e n hb hx=>?_,fun b o e n hb hx=>?_,I.base.free,fun b o e hx=>?_,I.base.tups,I.base.frzs,I.base.tbls⟩,⟨_,hn',fun j y v' e1 e2 e3=>?_⟩,fun y c e=>?_,I.free,I.freeC,fun p hp=>?_,tracked ⟨oL,hoL,I.free⟩ hs,by simpa using I.len⟩ ⟨_,hs,.inl rfl⟩
  ·exact (hs.2 b (Nat.ne_of_lt (Nat.lt_of_lt_of_le (Heap.lt_size e) I.ok.above))).trans (I.base.keep b o e n hb hx)
  ·obtain ⟨sl,e1⟩:=I.base.slot b o e n hb hx
   exact ⟨sl,(hs.2 b (Nat.ne_of_lt (Nat.lt_of_lt_of_le (Heap.lt_size e) I.ok.above))).trans e1⟩
  ·obtain ⟨o',e1⟩:=I.base.there b o e hx
   exact ⟨o',(hs.2 b (Nat.ne_of_lt (Nat.lt_of_lt_of_le (Heap.lt_size e) I.ok.above))).trans e1⟩
  ·by_cases hj:j = i
   ·subst hj
    rw [hi] at e1;cases e1
    rw [List.getElem?_set_self hiσ] at e2
    cases e2
    exact ⟨u,r,.inl ⟨hk,by simp⟩⟩
   ·rw [List.getElem?_set_ne (Ne.symm hj)] at e2
    obtain ⟨u',r',q⟩:=hl j y v' e1 e2 e3
    refine ⟨u',r',?_⟩
    rcases q with ⟨k,e⟩ | ⟨k,c,e,z⟩
    ·refine .inl ⟨k,?_⟩
     have:y ≠ x:=fun e=>hj (xP hN e1 (e ▸ hi))
     simp [this,e]
    ·exact .inr ⟨k,c,e,z.sameBut hs (cne y c e)⟩
  ·obtain ⟨w',z⟩:=I.cell y c e
   exact ⟨w',z.sameBut hs (cne y c e)⟩
  ·obtain ⟨e,n,ne,nf,d⟩:=I.pin p hp
   exact ⟨(hs.2 p.1 ne).trans e,n,ne,nf,d⟩
 ·have hfn:X.fn x = true:=by
   rcases hf with z | z
   ·exact z
   ·rw [z] at hk;cases hk
  obtain ⟨c,hc⟩:=I.ok.has x (.inl hk)
  obtain ⟨w',z⟩:=I.cell x c hc
  refine wpAny_storeName_cell I.ok.kind hk hc z (fun h' hc' hs=>?_)
  obtain ⟨oc,hoc,hocd⟩:=id z
  refine h { s with heap:=h' } ⟨I.ok,I.os,I.bare,⟨fun b o e n hb hx=>?_,fun b o e n hb hx=>?_,I.base.free,fun b o e hx=>?_,I.base.tups,I.base.frzs,I.base.tbls⟩,⟨m,hn.sameBut hs (Ne.symm (cne x c hc)),fun j y v' e1 e2 e3=>?_⟩,fun y c' e=>?_,I.free,I.freeC,fun p hp=>?_,tracked ⟨oc,hoc,I.freeC x c hc⟩ hs,by simpa using I.len⟩ ⟨c,hs,.inr hc⟩
  ·exact (hs.2 b (Nat.ne_of_lt (Nat.lt_of_lt_of_le (Heap.lt_size e) (I.ok.cab x c hfn hc)))).trans (I.base.keep b o e n hb hx)
  ·obtain ⟨sl,e1⟩:=I.base.slot b o e n hb hx
   exact ⟨sl,(hs.2 b (Nat.ne_of_lt (Nat.lt_of_lt_of_le (Heap.lt_size e) (I.ok.cab x c hfn hc)))).trans e1⟩
  ·obtain ⟨o',e1⟩:=I.base.there b o e hx
   exact ⟨o',(hs.2 b (Nat.ne_of_lt (Nat.lt_of_lt_of_le (Heap.lt_size e) (I.ok.cab x c hfn hc)))).trans e1⟩
  ·by_cases hj:j = i
   ·subst hj
    rw [hi] at e1;cases e1
    rw [List.getElem?_set_self hiσ] at e2
    cases e2
    exact ⟨u,r,.inr ⟨.inl hk,c,hc,hc'⟩⟩
   ·rw [List.getElem?_set_ne (Ne.symm hj)] at e2
    obtain ⟨u',r',q⟩:=hl j y v' e1 e2 e3
    refine ⟨u',r',?_⟩
    rcases q with q | ⟨k,c',e,z'⟩
    ·exact .inl q
    ·refine .inr ⟨k,c',e,z'.sameBut hs ?_⟩
     rintro rfl
     exact hj (xP hN e1 (I.ok.inj _ _ _ e hc ▸ hi))
  ·by_cases hcc:c' = c
   ·subst hcc;exact ⟨_,hc'⟩
   ·obtain ⟨w2,z2⟩:=I.cell y c' e
    exact ⟨w2,z2.sameBut hs hcc⟩
  ·obtain ⟨e,n,ne,nf,d⟩:=I.pin p hp
   refine ⟨(hs.2 p.1 ?_).trans e,n,ne,nf,d⟩
   intro q
   rw [q,hoc] at e
   have q':oc = p.2:=Option.some.inj e
   exact d w' (by rw [<- q'];exact hocd)
theorem lY {M:Model} {A:Around} {E:Value->Shared->Prop} {i:Nat} {x:Str} {v:V} {u:Value} {Q:Unit->Shared->Prop} (I:Inv X pins σ H s) (hN:X.N.Nodup) (hi:X.N[i]? = some x) (hx:Loc X.env.scope x) (r:cS v u)
  (h:∀ s',Inv X pins (σ.set i (some v)) H s'->Q () s') (hf:X.fn x = true ∨ X.env.scope.names.lookup x = some .local:=by first | exact .inl rfl | exact .inr rfl | assumption):wpAny M A (storeName X.env x u) Q E s :=
 tO I hN hi hx r (fun s' I' _=>h s' I') hf
theorem Inv.call' {s':Shared} {ch:List Addr} (I:Inv X pins σ H s) (ho:s'.os = s.os) (u:Un (frs X.stack) ch H H' s.heap s'.heap) (hok:HOk X.prog X.w H' s'.heap) (hg:AllBare s'.gens)
  (hch:∀ b ∈ ch,(b ∈ X.ex ∨ X.s₀.heap.objs.size<=b)/\b ≠ X.env.locals/\(∀ x c,X.env.cells.lookup x = some c->c ≠ b)/\∀ p ∈ X.pn ++ pins,p.1 ≠ b):Inv X pins σ H' s':=by
 obtain ⟨h',g',d',t',o'⟩:=s'
 have e:o' = s.os:=ho
 subst e
 exact I.call (g':=g') (t':=t') (d':=d') u hok hg hch
end
abbrev XK:=Value->Option Addr->Hp->Prop
noncomputable abbrev St:=List (Option V)
abbrev VK:=V->Hp->Prop
abbrev TE:=St->Hp->VK->Prop
abbrev TT:=St->Hp->(Bool->Hp->Prop)->Prop
abbrev TA:=St->Hp->(List V->Hp->Prop)->Prop
structure pY where
 nx:St->Hp->Prop
 rt:VK
 bk:St->Hp->Prop:=fun _ _=>False
 ct:St->Hp->Prop:=fun _ _=>False
abbrev TS:=pY->St->Hp->Prop
def EP (X:Cx) (pins:List (Addr × Obj)) (σ:St) (Q:VK) (u:Value) (s':Shared):Prop:=∃ v H',Inv X pins σ H' s'/\cS v u/\Q v H'
def TP (X:Cx) (pins:List (Addr × Obj)) (σ:St) (Q:Bool->Hp->Prop) (b:Bool) (s':Shared):Prop:=∃ H',Inv X pins σ H' s'/\Q b H'
def AP (X:Cx) (pins:List (Addr × Obj)) (σ:St) (Q:List V->Hp->Prop) (us:List Value) (s':Shared):Prop:=∃ vs H',Inv X pins σ H' s'/\cG vs us/\Q vs H'
def SP (X:Cx) (pins:List (Addr × Obj)) (D:pY) (f:Flow) (s':Shared):Prop :=
 match f with
 | .next=>∃ σ' H',Inv X pins σ' H' s'/\D.nx σ' H'
 | .brk=>∃ σ' H',Inv X pins σ' H' s'/\D.bk σ' H'
 | .cont=>∃ σ' H',Inv X pins σ' H' s'/\D.ct σ' H'
 | .ret u=>∃ v σ' H',Inv X pins σ' H' s'/\cS v u/\D.rt v H'
def PE (X:Cx) (e:Expr) (t:TE):Prop :=
 ∀ (pins:List (Addr × Obj)) (s:Shared) (σ:St) (H:Hp) (Q:VK),Inv X pins σ H s->t σ H Q->wpAny (model X.prog X.w) X.A (eval e X.env) (EP X pins σ Q) X.xe s
def PT (X:Cx) (e:Expr) (t:TT):Prop :=
 ∀ (pins:List (Addr × Obj)) (s:Shared) (σ:St) (H:Hp) (Q:Bool->Hp->Prop),Inv X pins σ H s->t σ H Q->wpAny (model X.prog X.w) X.A (isTrue e X.env (eval e X.env)) (TP X pins σ Q) X.xe s
def PW (X:Cx) (e:Expr) (t:TT):Prop :=
 ∀ (whole:Sem Value) (pins:List (Addr × Obj)) (s:Shared) (σ:St) (H:Hp) (Q:Bool->Hp->Prop),Inv X pins σ H s->t σ H Q->wpAny (model X.prog X.w) X.A (isTrue e X.env whole) (TP X pins σ Q) X.xe s
theorem PW.pt {X:Cx} {e:Expr} {t:TT} (h:PW X e t):PT X e t:=h _
def PA (X:Cx) (es:List Expr) (t:TA):Prop :=
 ∀ (pos:Pos) (pins:List (Addr × Obj)) (s:Shared) (σ:St) (H:Hp) (Q:List V->Hp->Prop),Inv X pins σ H s->t σ H Q->wpAny (model X.prog X.w) X.A (spliced (backTo pos (starEach es X.env))) (AP X pins σ Q) X.xe s
def PS (X:Cx) (st:Stmt) (t:TS):Prop :=
 ∀ (pins:List (Addr × Obj)) (s:Shared) (σ:St) (H:Hp) (D:pY),Inv X pins σ H s->t D σ H->wpAny (model X.prog X.w) X.A (exec st X.env) (SP X pins D) X.xe s
def PSs (X:Cx) (st:List Stmt) (t:TS):Prop :=
 ∀ (pins:List (Addr × Obj)) (s:Shared) (σ:St) (H:Hp) (D:pY),Inv X pins σ H s->t D σ H->wpAny (model X.prog X.w) X.A (execs st X.env) (SP X pins D) X.xe s
theorem thn {α:Type} {t:Sem α} {Q Q':α->Shared->Prop} {M:Model} {A:Around} {E:Value->Shared->Prop} {s:Shared} (h:wpAny M A t Q E s) (hQ:∀ a s,Q a s->Q' a s):wpAny M A t Q' E s:=wpAny_mono h hQ fun _ _ x=>x
section
variable {X:Cx}
def aNS (i:Nat):TE:=fun σ H Q=>∃ v,σ[i]? = some (some v)/\Q v H
def tC (v:V):TE:=fun _ H Q=>Q v H
theorem yG {i:Nat} {x:Str} {pos:Pos} (hN:X.N[i]? = some x) (hv:Vis X.env.scope x) (hd:(x == ("__debug__":Str)) = false:=by decide) (hcd:(x == ("__classdict__":Str)) = false:=by decide):PE X (.Name x pos) (aNS i):=by
 intro pins s σ H Q I h
 obtain ⟨v,e,h⟩:=h
 obtain ⟨m,hn,hl⟩:=I.loc
 obtain ⟨u,r,l⟩:=hl i x v hN e hv
 have fin:EP X pins σ Q u s:=⟨v,H,I,r,h⟩
 rcases l with ⟨hk,hm⟩ | ⟨hk,c,hc,hcell⟩
 ·exact wpAny_Name (wpAny_loadName_local I.ok.kind hk hn hm fin) hd
 ·rcases hk with hk | hk
  ·exact wpAny_Name (wpAny_loadName_cell I.ok.kind hk hc hcell fin) hd
  ·exact wpAny_Name (wpAny_loadName_free I.ok.kind hk hc hcell fin hcd) hd
theorem aLo {i j pos}:PE X (.Constant (.int i) j pos) (tC (.int i)):=fun _ _ _ H _ I h=>wpAny_Constant_int ⟨.int i,H,I.tok _,⟨_,rfl⟩,h⟩
theorem aNX {b j pos}:PE X (.Constant (.bool b) j pos) (tC (.bl b)):=fun _ _ _ H _ I h=>Constant_bool ⟨.bl b,H,I,rfl,h⟩
theorem aL9 {j pos}:PE X (.Constant .none j pos) (tC .non):=fun _ _ _ H _ I h=>Constant_none ⟨.non,H,I,rfl,h⟩
theorem aLE {x j pos}:PE X (.Constant (.str x) j pos) (tC (.str x)):=fun _ _ _ H _ I h=>Calls.Constant_str ⟨.str x,H,I.tok _,⟨_,rfl⟩,h⟩
def Gl (X:Cx) (x:Str):Prop:=X.env.kindOf x = some .globalImplicit
theorem iK {E:Value->Shared->Prop} {pins:List (Addr × Obj)} {s:Shared} {σ:St} {H:Hp} {x:Str} {u:Value} {pos:Pos} {Q:Value->Shared->Prop} (I:Inv X pins σ H s) (hg:Gl X x) (hm:X.mg x = some u) (h:Q u s)
  (hd:(x == ("__debug__":Str)) = false:=by decide):wpAny (model X.prog X.w) X.A (eval (.Name x pos) X.env) Q E s :=
 Calls.Name_function_global I.ok.kind hg (Calls.loadGlobal_global (by rw [I.ok.glob];exact I.mod.glob.keeps I.bk) hm h) hd
theorem xR {E:Value->Shared->Prop} {pins:List (Addr × Obj)} {s:Shared} {σ:St} {H:Hp} {x:Str} {u:Value} {pos:Pos} {Q:Value->Shared->Prop} (I:Inv X pins σ H s) (hg:Gl X x) (hm:X.mg x = none) (hv:bootBuiltins x = some u) (h:Q u s)
  (hn:x ≠ "__name__":=by decide) (hd:(x == ("__debug__":Str)) = false:=by decide):wpAny (model X.prog X.w) X.A (eval (.Name x pos) X.env) Q E s:=by
 obtain ⟨mb,h1,h2⟩:=I.mod.blt
 exact Calls.Name_function_global I.ok.kind hg (Calls.loadGlobal_builtin (by rw [I.ok.glob];exact I.mod.glob.keeps I.bk) hm (by rw [I.ok.blt];exact h1.keeps I.bk) ((h2 x hn).trans hv) h) hd
theorem aJa {x:Str} {v:V} {u:Value} {pos:Pos} (hg:Gl X x) (hm:X.mg x = some u) (r:cS v u) (hd:(x == ("__debug__":Str)) = false:=by decide):PE X (.Name x pos) (tC v) :=
 fun _ _ _ H _ I h=>iK I hg hm ⟨v,H,I,r,h⟩ hd
theorem aIy {x:Str} {v:V} {u:Value} {pos:Pos} (hg:Gl X x) (hm:X.mg x = none) (hv:bootBuiltins x = some u) (r:cS v u) (hn:x ≠ "__name__":=by decide) (hd:(x == ("__debug__":Str)) = false:=by decide):PE X (.Name x pos) (tC v) :=
 fun _ _ _ H _ I h=>xR I hg hm hv ⟨v,H,I,r,h⟩ hn hd
variable {a b:Expr} {ta tb:TE} {pos:Pos}
def tB (t:TE):TT:=fun σ H Q=>t σ H fun x H1=>∃ c,x = .bl c/\Q c H1
theorem aLC {e:Expr} {t:TE} (h:PE X e t) (he:∀ whole,isTrue e X.env whole = (do let v <- whole;standAt e.pos;holding [v] (truthy v)):=by intro _;rfl):PT X e (tB t):=by
 intro pins s σ H Q I hw
 refine isTrue_plain (thn (h pins s σ H _ I hw) fun v s1 ⟨x,H1,I1,r1,q1⟩=>?_) (he _)
 obtain ⟨d,rfl,q⟩:=q1
 cases r1
 exact wpAny_truthy_bool ⟨H1,I1,q⟩
variable {tA tB':TT} {cT:List Expr}
def aPl (t u:TT):TT:=fun σ H Q=>t σ H fun c H1=>if c = true then u σ H1 Q else Q false H1
def tOr (t u:TT):TT:=fun σ H Q=>t σ H fun c H1=>if c = true then Q true H1 else u σ H1 Q
def aOX (t:TT):TT:=fun σ H Q=>t σ H fun c H1=>Q (!c) H1
theorem aHy (ha:PT X a tA):PW X (.BoolOp .And [a] pos) tA:=by
 intro wh pins s σ H Q I h
 refine isTrue_and (thn (ha pins s σ H Q I h) fun c s1 e=>?_)
 cases c with
 | true=>exact isTrue_and_nil e
 | false=>exact e
theorem aLr (ha:PT X a tA):PW X (.BoolOp .Or [a] pos) tA:=by
 intro wh pins s σ H Q I h
 refine isTrue_or (thn (ha pins s σ H Q I h) fun c s1 e=>?_)
 cases c with
 | false=>exact isTrue_or_nil e
 | true=>exact e
theorem aLa (ha:PT X a tA) (hb:PW X (.BoolOp .And (b :: cT) pos) tB'):PW X (.BoolOp .And (a :: b :: cT) pos) (aPl tA tB'):=by
 intro wh pins s σ H Q I h
 refine isTrue_and (thn (ha pins s σ H _ I h) fun c s1 ⟨H1,I1,q1⟩=>?_)
 cases c with
 | true=>exact hb wh pins s1 σ H1 Q I1 q1
 | false=>exact ⟨H1,I1,q1⟩
theorem aNy (ha:PT X a tA) (hb:PW X (.BoolOp .Or (b :: cT) pos) tB'):PW X (.BoolOp .Or (a :: b :: cT) pos) (tOr tA tB'):=by
 intro wh pins s σ H Q I h
 refine isTrue_or (thn (ha pins s σ H _ I h) fun c s1 ⟨H1,I1,q1⟩=>?_)
 cases c with
 | true=>exact ⟨H1,I1,q1⟩
 | false=>exact hb wh pins s1 σ H1 Q I1 q1
theorem aL8 (ha:PT X a tA):PT X (.UnaryOp .Not a pos) (aOX tA):=by
 intro pins s σ H Q I h
 exact isTrue_not (ha pins s σ H (fun c H1=>Q (!c) H1) I h)
def aM0 (ta tb:TE):TE:=fun σ H Q=>ta σ H fun x H1=>∃ c,x = .bl c/\if c = true then tb σ H1 Q else Q (.bl false) H1
def aOV (ta tb:TE):TE:=fun σ H Q=>ta σ H fun x H1=>∃ c,x = .bl c/\if c = true then Q (.bl true) H1 else tb σ H1 Q
def aNM (ta:TE):TE:=fun σ H Q=>ta σ H fun x H1=>∃ c,x = .bl c/\Q (.bl (!c)) H1
theorem aMt {op} {t:TE} (h:PE X a t):PE X (.BoolOp op [a] pos) t:=fun pins s σ H Q I hw=>BoolOp_one (h pins s σ H Q I hw)
theorem aLA (ha:PE X a ta) (hb:PE X (.BoolOp .And (b :: cT) pos) tb):PE X (.BoolOp .And (a :: b :: cT) pos) (aM0 ta tb):=by
 intro pins s σ H Q I h
 refine BoolOp_and (thn (ha pins s σ H _ I h) fun v s1 ⟨x,H1,I1,r1,q1⟩=>?_)
 obtain ⟨c,rfl,q1⟩:=q1
 cases r1
 refine wpAny_truthy_bool ?_
 cases c with
 | true=>exact hb pins s1 σ H1 Q I1 q1
 | false=>exact ⟨.bl false,H1,I1,rfl,q1⟩
theorem aNF (ha:PE X a ta) (hb:PE X (.BoolOp .Or (b :: cT) pos) tb):PE X (.BoolOp .Or (a :: b :: cT) pos) (aOV ta tb):=by
 intro pins s σ H Q I h
 refine BoolOp_or (thn (ha pins s σ H _ I h) fun v s1 ⟨x,H1,I1,r1,q1⟩=>?_)
 obtain ⟨c,rfl,q1⟩:=q1
 cases r1
 refine wpAny_truthy_bool ?_
 cases c with
 | false=>exact hb pins s1 σ H1 Q I1 q1
 | true=>exact ⟨.bl true,H1,I1,rfl,q1⟩
theorem aKn (ha:PE X a ta):PE X (.UnaryOp .Not a pos) (aNM ta):=by
 intro pins s σ H Q I h
 refine UnaryOp_ (thn (ha pins s σ H _ I h) fun v s1 ⟨x,H1,I1,r1,q1⟩=>?_)
 obtain ⟨c,rfl,q1⟩:=q1
 cases r1
 exact not_of (wpAny_truthy_bool ⟨.bl (!c),H1,I1,rfl,q1⟩)
def tIf (t:TT) (ta tb:TE):TE:=fun σ H Q=>t σ H fun c H1=>if c = true then ta σ H1 Q else tb σ H1 Q
theorem aFG {c:Expr} (hc:PT X c tA) (ha:PE X a ta) (hb:PE X b tb):PE X (.IfExp c a b pos) (tIf tA ta tb):=by
 intro pins s σ H Q I h
 refine wpAny_IfExp (thn (hc pins s σ H _ I h) fun d s1 ⟨H1,I1,q1⟩=>?_)
 cases d with
 | true=>exact ha pins s1 σ H1 Q I1 q1
 | false=>exact hb pins s1 σ H1 Q I1 q1
end
def SqL (K:Frag) (H:Hp) (a:Addr) (xs:List V):Prop :=
 Rd H a (.lst xs) ∨
  ∃ (o:Obj) (its:Array Value) (n:Nat),K.lookup a = some o/\o.cls = .type "list"/\o.dict = none/\o.data = .seq its n/\its.size<=sizeLine/\cG xs its.toList
def SqT (K:Frag) (H:Hp) (a:Addr) (xs:List V):Prop :=
 Rd H a (.tup xs) ∨
  ∃ (o:Obj) (its:Array Value) (n:Nat),K.lookup a = some o/\o.cls = .type "tuple"/\o.data = .seq its n/\its.size<=sizeLine/\cG xs its.toList
noncomputable def aPg:Value->Option V
 | .none=>some .non
 | .bool b=>some (.bl b)
 | .int i _=>some (.int i)
 | .str x _=>some (.str x)
 | .bytes b _=>some (.byt b)
 | .float b _=>some (.flt b)
 | .ref a=>some (.ref a)
 | .type n=>some (.ty n)
 | _=>none
theorem cS.abs {x:V} {u:Value} (r:cS x u):aPg u = some x:=by
 cases x with
 | non=>cases r;rfl
 | bl _=>cases r;rfl
 | int _=>obtain ⟨t,rfl⟩:=r;rfl
 | str _=>obtain ⟨t,rfl⟩:=r;rfl
 | byt _=>obtain ⟨t,rfl⟩:=r;rfl
 | flt _=>obtain ⟨t,rfl⟩:=r;rfl
 | ref _=>cases r;rfl
 | ty _=>cases r;rfl
theorem cS.inj {x y:V} {u:Value} (r:cS x u) (q:cS y u):x = y:=Option.some.inj (r.abs.symm.trans q.abs)
theorem cG.inj:∀ {xs ys:List V} {us:List Value},cG xs us->cG ys us->xs = ys
 | _,_,_,.nil,.nil=>rfl
 | _,_,_,.cons r t,.cons r' t'=>by rw [r.inj r',cG.inj t t']
section
variable {X:Cx} {pins:List (Addr × Obj)} {σ:St} {H:Hp} {s:Shared} {a:Addr} {xs ys:List V}
theorem SqL.of {K:Frag} (h:H a = some (.lst xs)):SqL K H a xs:=.inl (.inl h)
theorem SqT.of {K:Frag} (h:H a = some (.tup xs)):SqT K H a xs:=.inl (.inl h)
theorem Inv.list (I:Inv X pins σ H s) (h:SqL X.K H a xs):∃ its:List Value,cG xs its/\PlainL s.heap a its.toArray/\xs.length<=sizeLine:=by
 rcases h with h | ⟨o,its,n,hk,hc,hd,hs,hz,r⟩
 ·obtain ⟨z,its,n,r,e⟩:=h.ok I.hok
  exact ⟨its,r,⟨_,n,e,rfl,rfl,rfl⟩,z⟩
 ·refine ⟨its.toList,r,⟨o,n,I.kIn a o hk,hc,hd,by simpa using hs⟩,?_⟩
  have e:=r.length
  simp only [Array.length_toList] at e
  omega
theorem Inv.tuple (I:Inv X pins σ H s) (h:SqT X.K H a xs):∃ its:List Value,cG xs its/\IsTup s.heap a its.toArray/\xs.length<=sizeLine:=by
 rcases h with h | ⟨o,its,n,hk,hc,hs,hz,r⟩
 ·obtain ⟨z,its,r,p⟩:=h.ok I.hok
  exact ⟨its,r,p,z⟩
 ·refine ⟨its.toList,r,⟨o,I.kIn a o hk,hc,n,by simpa using hs⟩,?_⟩
  have e:=r.length
  simp only [Array.length_toList] at e
  omega
theorem Inv.list_inj (I:Inv X pins σ H s) (h:SqL X.K H a xs) (h':SqL X.K H a ys):xs = ys:=by
 obtain ⟨its,r,⟨o,n,e,_,_,d⟩,_⟩:=I.list h
 obtain ⟨its',r',⟨o',n',e',_,_,d'⟩,_⟩:=I.list h'
 rw [e] at e';cases e'
 rw [d] at d'
 injection d' with d1 _
 have:its = its':=by simpa using congrArg Array.toList d1
 subst this
 exact r.inj r'
theorem Inv.tuple_inj (I:Inv X pins σ H s) (h:SqT X.K H a xs) (h':SqT X.K H a ys):xs = ys:=by
 obtain ⟨its,r,⟨o,e,_,n,d⟩,_⟩:=I.tuple h
 obtain ⟨its',r',⟨o',e',_,n',d'⟩,_⟩:=I.tuple h'
 rw [e] at e';cases e'
 rw [d] at d'
 injection d' with d1 _
 have:its = its':=by simpa using congrArg Array.toList d1
 subst this
 exact r.inj r'
end
noncomputable abbrev Cx.wish (X:Cx) (E:Value->Shared->Prop):Cx:={ X with xe:=E }
noncomputable abbrev Cx.nox (X:Cx):Cx:=X.wish fun _ _=>False
theorem Cx.Ok.wish {X:Cx} (ok:X.Ok) (E:Value->Shared->Prop):(X.wish E).Ok :=
 ⟨ok.mod,ok.kind,ok.glob,ok.blt,ok.above,ok.inj,ok.has,ok.cab,ok.hd,ok.frames,ok.stk,ok.exf,ok.bs,ok.bsz,ok.noex,ok.exfs,ok.funs,ok.frf⟩
theorem Cx.Ok.unwish {X:Cx} {E:Value->Shared->Prop} (ok:(X.wish E).Ok):X.Ok :=
 ⟨ok.mod,ok.kind,ok.glob,ok.blt,ok.above,ok.inj,ok.has,ok.cab,ok.hd,ok.frames,ok.stk,ok.exf,ok.bs,ok.bsz,ok.noex,ok.exfs,ok.funs,ok.frf⟩
section
variable {X:Cx} {pins:List (Addr × Obj)} {σ:St} {H:Hp} {s:Shared} {E:Value->Shared->Prop}
theorem Inv.wish (I:Inv X pins σ H s) (E:Value->Shared->Prop):Inv (X.wish E) pins σ H s:=⟨I.ok.wish E,I.os,I.bare,I.base,I.loc,I.cell,I.free,I.freeC,I.pin,I.hok,I.len⟩
theorem Inv.unwish (I:Inv (X.wish E) pins σ H s):Inv X pins σ H s:=⟨I.ok.unwish,I.os,I.bare,I.base,I.loc,I.cell,I.free,I.freeC,I.pin,I.hok,I.len⟩
theorem SP.unwish {D:pY} {f:Flow} {s':Shared} (h:SP (X.wish E) pins D f s'):SP X pins D f s':=by
 cases f with
 | next=>obtain ⟨σ',H',I,q⟩:=h;exact ⟨σ',H',I.unwish,q⟩
 | brk=>obtain ⟨σ',H',I,q⟩:=h;exact ⟨σ',H',I.unwish,q⟩
 | cont=>obtain ⟨σ',H',I,q⟩:=h;exact ⟨σ',H',I.unwish,q⟩
 | ret u=>obtain ⟨v,σ',H',I,r,q⟩:=h;exact ⟨v,σ',H',I.unwish,r,q⟩
theorem PSs.nox {st:List Stmt} {t:TS} (h:PSs X.nox st t):PSs X st t:=fun pins s σ H D I hw =>
 wpAny_mono (h pins s σ H D (I.wish _) hw) (fun _ _ q=>q.unwish) fun _ _ z=>False.elim z
end
section
variable {X:Cx} {st:Stmt} {cT:List Stmt} {t u:TS} {e:Expr} {te:TE} {pos:Pos}
def aM6:TS:=fun D σ H=>D.nx σ H
def aOM (t u:TS):TS:=fun D σ H=>t { D with nx:=u D } σ H
theorem aHz:PSs X [] aM6:=fun _ _ σ H _ I h=>wpAny_execs_nil ⟨σ,H,I,h⟩
theorem aBV (h1:PS X st t) (h2:PSs X cT u):PSs X (st :: cT) (aOM t u):=by
 intro pins s σ H D I h
 refine wpAny_execs_cons (thn (h1 pins s σ H { D with nx:=u D } I h) fun f s1 q=>?_)
 cases f with
 | next =>
  obtain ⟨σ',H',I',q⟩:=q
  exact h2 pins s1 σ' H' D I' q
 | ret v=>exact q
 | brk=>exact q
 | cont=>exact q
theorem aEl (h1:PS X st t):PSs X [st] t:=by
 intro pins s σ H D I h
 refine wpAny_execs_cons (thn (h1 pins s σ H D I h) fun f s1 q=>?_)
 cases f with
 | next=>exact wpAny_execs_nil q
 | ret v=>exact q
 | brk=>exact q
 | cont=>exact q
theorem Inv.quiet {pins:List (Addr × Obj)} {σ:St} {H:Hp} {s:Shared} (I:Inv X pins σ H s):interactive X.env = false:=by simp [interactive,I.ok.kind]
def aMP (te:TE):TS:=fun D σ H=>te σ H fun _ H1=>D.nx σ H1
theorem aIf (he:PE X e te) (hs:swapsWith e none pos.line X.env = pure false:=by rfl):PS X (.Expr e pos) (aMP te):=by
 intro pins s σ H D I h
 exact wpAny_Expr_any (thn (he pins s σ H _ I h) fun v s1 ⟨x,H1,I1,r1,q1⟩=>⟨σ,H1,I1,q1⟩) I.quiet hs
def aO8 (te:TE):TS:=fun D σ H=>te σ H D.rt
theorem aMj (he:PE X e te):PS X (.Return (some e) pos) (aO8 te):=by
 intro pins s σ H D I h
 exact wpAny_Return_some (thn (he pins s σ H _ I h) fun v s1 ⟨x,H1,I1,r1,q1⟩=>⟨x,σ,H1,I1,r1,q1⟩)
def aO3 (c:TT) (t u:TS):TS:=fun D σ H=>c σ H fun b H1=>if b = true then t D σ H1 else u D σ H1
theorem aN1 {c:Expr} {a b:List Stmt} {tc:TT} (hc:PT X c tc) (ha:PSs X a t) (hb:PSs X b u):PS X (.If c a b pos) (aO3 tc t u):=by
 intro pins s σ H D I h
 refine wpAny_If (thn (hc pins s σ H _ I h) fun d s1 ⟨H1,I1,q1⟩=>?_)
 cases d with
 | true=>exact ha pins s1 σ H1 D I1 q1
 | false=>exact hb pins s1 σ H1 D I1 q1
end
abbrev TG:=V->St->Hp->(St->Hp->Prop)->Prop
abbrev TGs:=List V->St->Hp->(St->Hp->Prop)->Prop
def PG (X:Cx) (target:Expr) (t:TG):Prop :=
 ∀ (pins:List (Addr × Obj)) (s:Shared) (σ:St) (H:Hp) (v:V) (u:Value) (Q:St->Hp->Prop),Inv X pins σ H s->cS v u->t v σ H Q ->
  wpAny (model X.prog X.w) X.A (assign target X.env u) (fun _ s'=>∃ σ' H',Inv X pins σ' H' s'/\Q σ' H') X.xe s
def PGs (X:Cx) (ts:List Expr) (t:TGs):Prop :=
 ∀ (pins:List (Addr × Obj)) (s:Shared) (σ:St) (H:Hp) (vs:List V) (us:List Value) (Q:St->Hp->Prop),Inv X pins σ H s->cG vs us->t vs σ H Q ->
  wpAny (model X.prog X.w) X.A (assignInOrder ((assignEach ts X.env).map (·.2)) us) (fun _ s'=>∃ σ' H',Inv X pins σ' H' s'/\Q σ' H') X.xe s
abbrev TIp:=V->V->Hp->VK->Prop
def PIp (X:Cx) (op:Operator) (t:TIp):Prop :=
 ∀ (pins:List (Addr × Obj)) (s:Shared) (σ:St) (H:Hp) (x y:V) (v u:Value) (Q:VK),Inv X pins σ H s->cS x v->cS y u->t x y H Q ->
  wpAny (model X.prog X.w) X.A (inplaceOp op v u) (EP X pins σ Q) X.xe s
section
variable {X:Cx} {pos:Pos}
def aJA (i:Nat):TG:=fun v σ H Q=>Q (σ.set i (some v)) H
theorem aHF {i:Nat} {x:Str} (hN:X.N.Nodup) (hi:X.N[i]? = some x) (hx:Loc X.env.scope x) (hf:X.fn x = true ∨ X.env.scope.names.lookup x = some .local:=by first | exact .inl rfl | exact .inr rfl | assumption):PG X (.Name x pos) (aJA i):=by
 intro pins s σ H v u Q I r h
 exact wpAny_assign_Name (lY I hN hi hx r (fun s' I'=>⟨_,H,I',h⟩) hf)
def aOJ:TGs:=fun vs σ H Q=>vs = []/\Q σ H
def aNx (t:TG) (u:TGs):TGs:=fun vs σ H Q=>∃ v r,vs = v :: r/\t v σ H fun σ' H'=>u r σ' H' Q
theorem aHR:PGs X [] aOJ:=by
 intro pins s σ H vs us Q I r h
 obtain ⟨e,h⟩:=h
 subst e
 cases r
 exact assignInOrder_nil ⟨σ,H,I,h⟩
theorem aFU {e:Expr} {es:List Expr} {t:TG} {u:TGs} (h1:PG X e t) (h2:PGs X es u)
  (hs:(assignEach (e :: es) X.env).map (·.2) = assign e X.env :: (assignEach es X.env).map (·.2):=by rfl):PGs X (e :: es) (aNx t u):=by
 intro pins s σ H vs us Q I r h
 obtain ⟨v,vr,e1,h⟩:=h
 subst e1
 cases r with
 | cons r rr =>
  rw [hs]
  refine assignInOrder_cons (thn (h1 pins s σ H _ _ _ I r h) fun _ s1 ⟨σ1,H1,I1,q1⟩=>?_)
  exact h2 pins s1 σ1 H1 _ _ Q I1 rr q1
def aPd (K:Frag) (n:Nat) (t:TGs):TG:=fun v σ H Q=>∃ a xs,v = .ref a/\SqT K H a xs/\xs.length = n/\t xs σ H Q
theorem aKy {es:List Expr} {k:Nat} {t:TGs} {n:Nat} (hc:X.calm = true) (h:PGs X es t)
  (hn:(assignEach es X.env).length = n:=by rfl) (hst:(assignEach es X.env).findIdx? (·.1) = none:=by rfl):PG X (.Tuple es k pos) (aPd X.K n t):=by
 intro pins s σ H v u Q I r hw
 obtain ⟨a,xs,e1,hq,hl,hw⟩:=hw
 subst e1
 cases r
 obtain ⟨its,rv,ht,hz⟩:=I.tuple hq
 refine assign_Tuple_tuple (I.ok.hd hc) ht (by simp [hn,<- hl,rv.length]) hst fun h' hx=>?_
 have I1:Inv X pins σ H { s with heap:=h' }:=I.kept (t':=s.toks) fun b o e=>hx b o (Nat.ne_of_lt (Heap.lt_size e)) e
 exact h pins _ σ H xs _ Q I1 (by simpa using rv) hw
def aM5 (te:TE) (g:TG):TS:=fun D σ H=>te σ H fun x H1=>g x σ H1 D.nx
theorem aLN {tg e:Expr} {te:TE} {g:TG} (he:PE X e te) (hg:PG X tg g) (hs:swapsWithSole [tg] e pos.line X.env = pure false:=by rfl) (hw:swappedStores [tg] e X.env = pure none:=by rfl)
  (h1:(assignEach [tg] X.env).map (·.2) = [assign tg X.env]:=by rfl):PS X (.Assign [tg] e pos) (aM5 te g):=by
 intro pins s σ H D I h
 refine wpAny_Assign_stores (thn (he pins s σ H _ I h) fun v s1 ⟨x,H1,I1,r1,q1⟩=>?_) hs hw
 rw [h1]
 exact thn (hg pins s1 σ H1 x v _ I1 r1 q1) fun _ s2 q=>q
theorem aLl {i:Nat} {x:Str} {e:Expr} {te:TE} {pos':Pos} (hN:X.N.Nodup) (hi:X.N[i]? = some x) (hx:Loc X.env.scope x) (he:PE X e te) (hs:swapsWith e (some (.Name x pos')) pos.line X.env = pure false:=by rfl) (hf:X.fn x = true ∨ X.env.scope.names.lookup x = some .local:=by first | exact .inl rfl | exact .inr rfl | assumption) :
  PS X (.Assign [.Name x pos'] e pos) (aM5 te (aJA i)):=by
 intro pins s σ H D I h
 refine wpAny_Assign_Name (thn (he pins s σ H _ I h) fun v s1 ⟨y,H1,I1,r1,q1⟩=>?_) hs
 exact lY I1 hN hi hx r1 (fun s2 I2=>⟨_,H1,I2,q1⟩) hf
def aPo (i j:Nat) (ta:TA):TS:=fun D σ H=>ta σ H fun vs H1=>∃ v w,vs = [v,w]/\D.nx ((σ.set i (some v)).set j (some w)) H1
theorem aKc {i j:Nat} {x y:Str} {a b:Expr} {ta:TA} {px py pt:Pos} {kt k2 pt2} (hc:X.calm = true) (hN:X.N.Nodup) (hi:X.N[i]? = some x) (hj:X.N[j]? = some y) (hij:i ≠ j)
  (hx:X.env.scope.names.lookup x = some .local) (hy:X.env.scope.names.lookup y = some .local) (ha:PA X [a,b] ta)
  (hw:swappedStores [.Tuple [.Name x px,.Name y py] kt pt] (.Tuple [a,b] k2 pt2) X.env = pure (some [x,y]))
  (hs:swapsWithSole [.Tuple [.Name x px,.Name y py] kt pt] (.Tuple [a,b] k2 pt2) pos.line X.env = pure false:=by rfl) :
  PS X (.Assign [.Tuple [.Name x px,.Name y py] kt pt] (.Tuple [a,b] k2 pt2) pos) (aPo i j ta):=by
 intro pins s σ H D I h
 rw [exec_Assign_arm]
 refine wpAny_bind (wpAny_standAt ?_)
 rw [hs]
 refine wpAny_bind (wpAny_pure ?_)
 rw [if_neg (by decide)]
 refine wpAny_bind (Tuple_ (thn (ha _ pins s σ H _ I h) fun us s1 ⟨vs,H1,I1,r1,q1⟩=>?_))
 obtain ⟨v,w,e1,q1⟩:=q1
 subst e1
 obtain ⟨u1,u2,rfl,rv,rw'⟩:∃ u1 u2,us = [u1,u2]/\cS v u1/\cS w u2:=by
  cases r1 with
  | cons p q =>
   cases q with
   | cons p' q' =>
    cases q'
    exact ⟨_,_,rfl,p,p'⟩
 refine wpAny_newObj_type ?_ (by show 2<=sizeLine;decide)
 have I2:Inv X pins σ H1 { s1 with heap:=s1.heap.push { cls:=.type "tuple",data:=.seq [u1,u2].toArray } }:=I1.kept (t':=s1.toks) fun b o e=>Heap.get?_push_of_some _ e
 rw [hw]
 refine wpAny_bind (wpAny_pure ?_)
 show wpAny (model X.prog X.w) X.A (do rule "assign.swapped-stores";let items <- unpackItems (.ref s1.heap.objs.size) 2 none;assignInOrder [fun v=>bindName X.env y v,fun v=>bindName X.env x v] items.reverse;pure Flow.next) _ _ _
 refine wpAny_bind (wpAny_rule (wpAny_bind (unpackItems_tuple (items:=#[u1,u2]) (I.ok.hd hc) (IsTup.new s1.heap _) fun h' hx'=>?_)))
 have I3:=I2.kept (h':=h') (t':=s1.toks) fun b o e=>hx' b o (Nat.ne_of_lt (Heap.lt_size e)) e
 show wpAny _ _ (assignInOrder [fun v=>bindName X.env y v,fun v=>bindName X.env x v] [u2,u1] >>= fun _=>pure Flow.next) _ _ _
 refine wpAny_bind (assignInOrder_cons (wpAny_bindName (lY I3 hN hj (.inl hy) rw' (fun s2 I4=>?_) (.inr hy))))
 refine assignInOrder_cons (wpAny_bindName (lY I4 hN hi (.inl hx) rv (fun s3 I5=>assignInOrder_nil (wpAny_pure ?_)) (.inr hx)))
 rw [List.set_comm _ _ (Ne.symm hij)] at I5
 exact ⟨_,H1,I5,q1⟩
def aPk (i:Nat) (te:TE) (ti:TIp):TS:=fun D σ H=>∃ x,σ[i]? = some (some x)/\te σ H fun y H1=>ti x y H1 fun z H2=>D.nx (σ.set i (some z)) H2
theorem aGD {i:Nat} {x:Str} {e:Expr} {te:TE} {op:Operator} {ti:TIp} {pos':Pos} (hN:X.N.Nodup) (hi:X.N[i]? = some x) (hx:Loc X.env.scope x) (he:PE X e te) (ho:PIp X op ti) (hf:X.fn x = true ∨ X.env.scope.names.lookup x = some .local:=by first | exact .inl rfl | exact .inr rfl | assumption) :
  PS X (.AugAssign (.Name x pos') op e pos) (aPk i te ti):=by
 intro pins s σ H D I h
 obtain ⟨v,e1,h⟩:=h
 obtain ⟨m,hn,hl⟩:=I.loc
 have vis:Vis X.env.scope x:=by rcases hx with k | k;exact .inl k;exact .inr (.inl k)
 obtain ⟨u,r,l⟩:=hl i x v hi e1 vis
 refine wpAny_AugAssign_Name ?_
 have go:wpAny (model X.prog X.w) X.A (eval e X.env) (fun w s₂=>wpAny (model X.prog X.w) X.A (inplaceOp op u w) (fun r s₃=>wpAny (model X.prog X.w) X.A (storeName X.env x r) (fun _=>SP X pins D .next) X.xe s₃) X.xe s₂) X.xe s:=by
  refine thn (he pins s σ H _ I h) fun w s1 ⟨y,H1,I1,r1,q1⟩=>?_
  refine thn (ho pins s1 σ H1 v y u w _ I1 r r1 q1) fun z s2 ⟨zv,H2,I2,r2,q2⟩=>?_
  exact lY I2 hN hi hx r2 (fun s3 I3=>⟨_,H2,I3,q2⟩) hf
 rcases l with ⟨hk,hm⟩ | ⟨hk,c,hc,hcell⟩
 ·exact wpAny_loadName_local I.ok.kind hk hn hm go
 ·rcases hk with hk | hk
  ·exact wpAny_loadName_cell I.ok.kind hk hc hcell go
  ·rcases hx with k | k
   ·have:X.env.scope.names.lookup x = some .free:=hk
    rw [k] at this;cases this
   ·have:X.env.scope.names.lookup x = some .free:=hk
    rw [k] at this;cases this
noncomputable def ipI (f:Int->Int->Int):TIp:=fun x y H Q=>∃ i j,x = .int i/\y = .int j/\Q (.int (f i j)) H
theorem yR:PIp X .Add (ipI fun i j=>i + j):=by
 intro pins s σ H x y v u Q I r1 r2 h
 obtain ⟨i,j,e1,e2,q⟩:=h
 subst e1;subst e2
 obtain ⟨t,rfl⟩:=r1
 obtain ⟨t',rfl⟩:=r2
 exact iadd_int ⟨.int _,H,I.tok _,⟨_,rfl⟩,q⟩
end
section
variable {X:Cx} {pos:Pos}
def aMr (c:TT) (tb:TS):TS:=fun D σ H=>∃ W:Nat->St->Hp->Prop,(∃ m,W m σ H)/\∀ m σ H,W m σ H ->
 c σ H fun b H1=>if b = true then ∃ N:St->Hp->Prop,(∀ σ' H',N σ' H'->∃ m',m' < m/\W m' σ' H')/\tb { D with nx:=N,ct:=N,bk:=D.nx } σ H1 else D.nx σ H1
theorem aFm {c:Expr} {body:List Stmt} {tc:TT} {tb:TS} (hp:PassesOwn (model X.prog X.w) X.A X.env X.xe) (hc:PT X c tc) (hb:PSs X body tb):PS X (.While c body [] pos) (aMr tc tb):=by
 intro pins s σ H D I h
 obtain ⟨W,⟨m0,w0⟩,turn⟩:=h
 refine wpAny_While (codeAny_whileLoop (fun n s'=>∃ σ' H',Inv X pins σ' H' s'/\W n σ' H') ?_ m0 ⟨σ,H,I,w0⟩)
 rintro n s1 ⟨σ1,H1,I1,w1⟩
 refine wpAny_passesOwn hp (thn (hc pins s1 σ1 H1 _ I1 (turn n σ1 H1 w1)) fun b s2 ⟨H2,I2,q2⟩=>?_)
 cases b with
 | true =>
  obtain ⟨N,hN,q2⟩:=q2
  rw [if_pos rfl]
  refine wpAny_passesOwn hp (thn (hb pins s2 σ1 H2 _ I2 q2) fun f s3 q3=>?_)
  cases f with
  | next =>
   obtain ⟨σ3,H3,I3,n3⟩:=q3
   obtain ⟨m',hm,w3⟩:=hN σ3 H3 n3
   exact ⟨m',hm,σ3,H3,I3,w3⟩
  | cont =>
   obtain ⟨σ3,H3,I3,n3⟩:=q3
   obtain ⟨m',hm,w3⟩:=hN σ3 H3 n3
   exact ⟨m',hm,σ3,H3,I3,w3⟩
  | brk=>exact q3
  | ret v=>exact q3
 | false =>
  rw [if_neg Bool.false_ne_true]
  exact wpAny_execs_nil ⟨σ1,H2,I2,q2⟩
end
structure It where
 go:Nat->Hp->Prop
 yld:Nat->Hp->V->Hp->Prop
 stop:Nat->Hp->Prop
def zI (X:Cx) (pins:List (Addr × Obj)) (H:Hp) (b:Addr):Prop :=
 H b = none/\b ≠ X.env.locals/\b ∉ X.fs/\(b ∈ X.ex ∨ X.s₀.heap.objs.size<=b)/\(∀ x c,X.env.cells.lookup x = some c->c ≠ b)/\∀ p ∈ X.pn ++ pins,p.1 ≠ b
theorem Inv.fpOk {X:Cx} {pins:List (Addr × Obj)} {σ:St} {H H':Hp} {s:Shared} {b:Addr} (I:Inv X pins σ H s) (hb:s.heap.objs.size<=b) (hn:H' b = none):zI X pins H' b:=by
 refine ⟨hn,Nat.ne_of_gt (Nat.lt_of_lt_of_le I.lt hb),I.nofs hb,.inr (Nat.le_trans I.sz hb),fun x c e z=>?_,fun p hp z=>?_⟩
 ·obtain ⟨v,q⟩:=I.cell x c e
  exact absurd (Nat.lt_of_lt_of_le q.lt (by rw [z];exact hb)) (Nat.lt_irrefl _)
 ·exact absurd (Nat.lt_of_lt_of_le (Heap.lt_size (I.pin p hp).1) (by rw [z];exact hb)) (Nat.lt_irrefl _)
structure aGU (P:Program) (w:World) (K:Frag) (tg:Expr) (J:It) (fp:List Addr) (it:Addr) (tn:Nat->Heap->Prop):Prop where
 mem:it ∈ fp
 obj:∀ i h,tn i h->∀ b ∈ fp,∃ o,h.get? b = some o/\∀ v,o.data ≠ .cell v
 keep:∀ i h h',tn i h->(∀ b ∈ fp,∀ o,h.get? b = some o->h'.get? b = some o)->tn i h'
 item:∀ (X:Cx),X.prog = P->X.w = w->X.K = K->X.calm = true->∀ (i:Nat) (pins:List (Addr × Obj)) (s:Shared) (σ:St) (H:Hp) (E:Value->Shared->Prop),Inv X pins σ H s->(∀ b ∈ fp,zI X pins H b)->tn i s.heap->J.go i H ->
  wpAny (model P w) X.A (pyNext (.ref it)) (fun r s1=>∃ u,r = some u /\
   wpAny (model P w) X.A (letOwnedTupleGo tg (.ref it) u) (fun _ s2=>∃ x H',Inv X pins σ H' s2/\cS x u/\J.yld i H x H'/\tn (i + 1) s2.heap/\∀ b ∈ fp,H' b = none) E s1) E s
 done:∀ (X:Cx),X.prog = P->X.w = w->X.K = K->X.calm = true->∀ (i:Nat) (pins:List (Addr × Obj)) (s:Shared) (σ:St) (H:Hp) (E:Value->Shared->Prop),Inv X pins σ H s->(∀ b ∈ fp,zI X pins H b)->tn i s.heap->J.stop i H ->
  wpAny (model P w) X.A (pyNext (.ref it)) (fun r s1=>r = none/\Inv X pins σ H s1) E s
 self:∀ (A:Around) (i:Nat) (s:Shared) (Q:Value->Shared->Prop) (E:Value->Shared->Prop),tn i s.heap->Q (.ref it) s->wpAny (model P w) A (pyIter (.ref it)) Q E s
abbrev TI:=St->Hp->(It->Hp->Prop)->Prop
def PIE (X:Cx) (pins:List (Addr × Obj)) (σ:St) (tg:Expr) (R:It->Hp->Prop) (itv:Value) (s2:Shared):Prop :=
 ∃ (it:Addr) (fp:List Addr) (tn:Nat->Heap->Prop) (J:It) (H':Hp),itv = .ref it/\Inv X pins σ H' s2/\aGU X.prog X.w X.K tg J fp it tn/\tn 0 s2.heap/\(∀ b ∈ fp,zI X pins H' b)/\R J H'
def PI (X:Cx) (tg iter:Expr) (wi:TI):Prop :=
 ∀ (pins:List (Addr × Obj)) (s:Shared) (σ:St) (H:Hp) (R:It->Hp->Prop),Inv X pins σ H s->wi σ H R ->
  wpAny (model X.prog X.w) X.A (eval iter X.env) (fun v s1=>wpAny (model X.prog X.w) X.A (pyIter v) (PIE X pins σ tg R) X.xe s1) X.xe s
theorem aFW {M:Model} {A:Around} {E:Value->Shared->Prop} {s:Shared} {tg:Expr} {it:Addr} {u:Value} {o:Obj} {n:String} {vs:Array Value} {Q:Unit->Shared->Prop} (ho:s.heap.get? it = some o) (hc:o.cls = .type n) (hd:o.data = .fields vs)
  (hn:["enumerate","zip","dict_itemiterator","dict_reverseitemiterator","odict_iterator","itertools.zip_longest","itertools.pairwise"].contains n = false) (hQ:Q () s):wpAny M A (letOwnedTupleGo tg (.ref it) u) Q E s:=by
 unfold letOwnedTupleGo
 cases tg<;>first
  | exact wpAny_pure hQ
  | (cases u<;>first
    | exact wpAny_pure hQ
    | (
      refine wpAny_bind (wpAny_load ho ?_)
      rw [hc,hd]
      show wpAny M A (if (["enumerate","zip","dict_itemiterator","dict_reverseitemiterator","odict_iterator","itertools.zip_longest","itertools.pairwise"].contains n && vs[0]? == some (rawInt _)) = true then _ else _) Q E s
      rw [if_neg (by intro h;rw [hn,Bool.false_and] at h;cases h)]
      exact wpAny_pure hQ))
noncomputable def Itl (K:Frag) (a:Addr):It :=
 ⟨fun i H=>∃ xs x,SqL K H a xs/\xs[i]? = some x,fun i H x H'=>H' = H/\∀ xs,SqL K H a xs->xs[i]? = some x,fun i H=>∃ xs,SqL K H a xs/\xs.length<=i⟩
noncomputable def Itt (K:Frag) (a:Addr):It :=
 ⟨fun i H=>∃ xs x,SqT K H a xs/\xs[i]? = some x,fun i H x H'=>H' = H/\∀ xs,SqT K H a xs->xs[i]? = some x,fun i H=>∃ xs,SqT K H a xs/\xs.length<=i⟩
noncomputable def Itr (lo:Int) (n:Nat):It:=⟨fun i _=>i < n,fun i H x H'=>H' = H/\x = .int (lo + i),fun i _=>n<=i⟩
theorem aEF {P:Program} {w:World} {K:Frag} {tg:Expr} (a it:Addr):aGU P w K tg (Itl K a) [it] it (fun i h=>h.IsListIter it a i) where
 mem:=by simp
 obj:=fun i h st b hb=>by
  have e:b = it:=by simpa using hb
  subst e
  obtain ⟨o,e,c,d⟩:=st
  exact ⟨o,e,fun v z=>by rw [d] at z;cases z⟩
 keep:=fun i h h' st k=>st.at fun o e=>k it (by simp) o e
 item:=by
  intro X hP hw hK hc i pins s σ H E I hf st hg
  subst hP hw hK
  obtain ⟨xs,x,hq,hx⟩:=hg
  obtain ⟨its,rv,p,hz⟩:=I.list hq
  obtain ⟨u,hu,ru⟩:=rv.get hx
  obtain ⟨f0,f1,f2,f3,f4,f5⟩:=hf it (by simp)
  refine wpAny_pyNext_list_item st p.isList (x:=u) (by simpa using hu) fun h' st' sb=>?_
  have I1:Inv X pins σ H { s with heap:=h' }:=I.turned (t':=s.toks) (fun b o hb e=>(sb.2 b hb).trans e) f0 f1 f3 f4 f5
  obtain ⟨o,e,c,d⟩:=id st'
  exact ⟨u,rfl,aFW (s:={ s with heap:=h' }) e c d (by decide) ⟨x,H,I1,ru,⟨rfl,fun ys hy=>by rw [I.list_inj hy hq];exact hx⟩,st',fun b hb=>(hf b hb).1⟩⟩
 done:=by
  intro X hP hw hK hc i pins s σ H E I hf st hg
  subst hP hw hK
  obtain ⟨xs,hq,hx⟩:=hg
  obtain ⟨its,rv,p,hz⟩:=I.list hq
  obtain ⟨f0,f1,f2,f3,f4,f5⟩:=hf it (by simp)
  have hl:=rv.length
  exact wpAny_pyNext_list_end (I.ok.hd hc) st p.isList (by simp;omega) fun h' eb=>⟨rfl,I.turned (t':=s.toks) (fun b o hb e=>eb b o hb e) f0 f1 f3 f4 f5⟩
 self:=fun _ _ _ _ _ st h=>wpAny_pyIter_listiter st h
theorem aDb {P:Program} {w:World} {K:Frag} {tg:Expr} (a it:Addr):aGU P w K tg (Itt K a) [it] it (fun i h=>h.IsTupleIter it a i) where
 mem:=by simp
 obj:=fun i h st b hb=>by
  have e:b = it:=by simpa using hb
  subst e
  obtain ⟨o,e,c,d⟩:=st
  exact ⟨o,e,fun v z=>by rw [d] at z;cases z⟩
 keep:=fun i h h' st k=>st.at fun o e=>k it (by simp) o e
 item:=by
  intro X hP hw hK hc i pins s σ H E I hf st hg
  subst hP hw hK
  obtain ⟨xs,x,hq,hx⟩:=hg
  obtain ⟨its,rv,p,hz⟩:=I.tuple hq
  obtain ⟨u,hu,ru⟩:=rv.get hx
  obtain ⟨f0,f1,f2,f3,f4,f5⟩:=hf it (by simp)
  refine wpAny_pyNext_tuple_item st (show s.heap.IsTuple a its.toArray from p) (x:=u) (by simpa using hu) fun h' st' sb=>?_
  have I1:Inv X pins σ H { s with heap:=h' }:=I.turned (t':=s.toks) (fun b o hb e=>(sb.2 b hb).trans e) f0 f1 f3 f4 f5
  obtain ⟨o,e,c,d⟩:=id st'
  exact ⟨u,rfl,aFW (s:={ s with heap:=h' }) e c d (by decide) ⟨x,H,I1,ru,⟨rfl,fun ys hy=>by rw [I.tuple_inj hy hq];exact hx⟩,st',fun b hb=>(hf b hb).1⟩⟩
 done:=by
  intro X hP hw hK hc i pins s σ H E I hf st hg
  subst hP hw hK
  obtain ⟨xs,hq,hx⟩:=hg
  obtain ⟨its,rv,p,hz⟩:=I.tuple hq
  obtain ⟨f0,f1,f2,f3,f4,f5⟩:=hf it (by simp)
  have hl:=rv.length
  exact wpAny_pyNext_tuple_end (I.ok.hd hc) st (show s.heap.IsTuple a its.toArray from p) (by simp;omega) fun h' eb=>⟨rfl,I.turned (t':=s.toks) (fun b o hb e=>eb b o hb e) f0 f1 f3 f4 f5⟩
 self:=fun _ _ _ _ _ st h=>wpAny_pyIter_tupleiter st h
theorem aC9 {P:Program} {w:World} {K:Frag} {tg:Expr} (it:Addr) (lo:Int) (n:Nat):aGU P w K tg (Itr lo n) [it] it (fun i h=>IsRangeIter h it (lo + (i:Nat) * 1) ((n:Int) - (i:Nat)) 1) where
 mem:=by simp
 obj:=fun i h st b hb=>by
  have e:b = it:=by simpa using hb
  subst e
  exact ⟨_,st,fun v z=>by
   have z':Data.fields _ = Data.cell v:=z
   cases z'⟩
 keep:=fun i h h' st k=>k it (by simp) _ st
 item:=by
  intro X hP hw hK hc i pins s σ H E I hf st hg
  subst hP hw hK
  obtain ⟨f0,f1,f2,f3,f4,f5⟩:=hf it (by simp)
  have W:=Walks.range (prog:=X.prog) (w:=X.w) (I.ok.hd hc) it lo 1 n
  refine W.item i s _ _ hg st fun v h' tk hv st' kk=>?_
  obtain ⟨t,rfl⟩:=hv
  have I1:Inv X pins σ H { s with heap:=h',toks:=tk }:=I.turned (fun b o hb e=>kk b o (by simpa using hb) e) f0 f1 f3 f4 f5
  refine ⟨_,rfl,aFW (s:={ s with heap:=h',toks:=tk }) (n:="range_iterator") st' rfl rfl (by decide) ⟨.int (lo + i),H,I1,⟨t,?_⟩,⟨rfl,rfl⟩,st',fun b hb=>(hf b hb).1⟩⟩
  rw [Int.mul_one]
 done:=by
  intro X hP hw hK hc i pins s σ H E I hf st hg
  subst hP hw hK
  obtain ⟨f0,f1,f2,f3,f4,f5⟩:=hf it (by simp)
  exact wpAny_pyNext_range_end (I.ok.hd hc) st (by have:n<=i:=hg;omega) fun h' eb=>⟨rfl,I.turned (t':=s.toks) (fun b o hb e=>eb b o hb e) f0 f1 f3 f4 f5⟩
 self:=fun _ _ _ _ _ st h=>wpAny_pyIter_rangeiter st h
section
variable {X:Cx} {tg:Expr}
noncomputable def aOD (K:Frag) (tl:TE):TI:=fun σ H R=>tl σ H fun x H1=>∃ a,x = .ref a/\(∃ xs,SqL K H1 a xs)/\R (Itl K a) H1
noncomputable def aPm (K:Frag) (tl:TE):TI:=fun σ H R=>tl σ H fun x H1=>∃ a,x = .ref a/\(∃ xs,SqT K H1 a xs)/\R (Itt K a) H1
theorem aEj {l:Expr} {tl:TE} (hl:PE X l tl):PI X tg l (aOD X.K tl):=by
 intro pins s σ H R I h
 refine thn (hl pins s σ H _ I h) fun v s1 ⟨x,H1,I1,r1,q1⟩=>?_
 obtain ⟨a,e,⟨xs,hq⟩,q⟩:=q1
 subst e
 cases r1
 obtain ⟨its,rv,p,hz⟩:=I1.list hq
 refine wpAny_pyIter_list p.isList ?_
 refine ⟨s1.heap.objs.size,[s1.heap.objs.size],_,_,H1,rfl,I1.kept (t':=s1.toks) fun b o e=>Heap.get?_push_of_some _ e,aEF a _,⟨_,Heap.get?_push_size _ rfl,rfl,rfl⟩,fun b hb=>?_,q⟩
 have e:b = s1.heap.objs.size:=by simpa using hb
 subst e
 exact I1.fpOk (Nat.le_refl _) (I1.hok.fresh (Nat.le_refl _))
theorem aGw {l:Expr} {tl:TE} (hl:PE X l tl):PI X tg l (aPm X.K tl):=by
 intro pins s σ H R I h
 refine thn (hl pins s σ H _ I h) fun v s1 ⟨x,H1,I1,r1,q1⟩=>?_
 obtain ⟨a,e,⟨xs,hq⟩,q⟩:=q1
 subst e
 cases r1
 obtain ⟨its,rv,p,hz⟩:=I1.tuple hq
 refine wpAny_pyIter_tuple (show s1.heap.IsTuple a its.toArray from p) ?_
 refine ⟨s1.heap.objs.size,[s1.heap.objs.size],_,_,H1,rfl,I1.kept (t':=s1.toks) fun b o e=>Heap.get?_push_of_some _ e,aDb a _,⟨_,Heap.get?_push_size _ rfl,rfl,rfl⟩,fun b hb=>?_,q⟩
 have e:b = s1.heap.objs.size:=by simpa using hb
 subst e
 exact I1.fpOk (Nat.le_refl _) (I1.hok.fresh (Nat.le_refl _))
theorem aHj {pins:List (Addr × Obj)} {σ:St} {H:Hp} {s:Shared} {R:It->Hp->Prop} {E:Value->Shared->Prop} {lo hi:Int} {t u v:Tok} {tk:Nat} (I:Inv X pins σ H s) (h1:-(2 ^ 62)<=lo) (h2:lo < 2 ^ 62) (h3:-(2 ^ 62)<=hi) (h4:hi < 2 ^ 62)
  (q:R (Itr lo (hi - lo).toNat) H):wpAny (model X.prog X.w) X.A (pyIter (.ref s.heap.objs.size)) (PIE X pins σ tg R) E { s with heap:=s.heap.push { cls:=.type "range",data:=.fields #[.int lo t,.int hi u,.int 1 v] },toks:=tk }:=by
 refine wpAny_pyIter_range (IsRange.new ..) (small_one h1 h2 h3 h4) ?_
 have I1:Inv X pins σ H { s with heap:=s.heap.push { cls:=.type "range",data:=.fields #[.int lo t,.int hi u,.int 1 v] },toks:=tk }:=I.kept fun b o e=>Heap.get?_push_of_some _ e
 refine ⟨(s.heap.push { cls:=.type "range",data:=.fields #[.int lo t,.int hi u,.int 1 v] }).objs.size,[(s.heap.push { cls:=.type "range",data:=.fields #[.int lo t,.int hi u,.int 1 v] }).objs.size],_,_,H,rfl,
  I1.kept (t':=tk) fun b o e=>Heap.get?_push_of_some _ e,aC9 _ lo (hi - lo).toNat,?_,fun b hb=>?_,q⟩
 ·have e1:lo + ((0:Nat):Int) * 1 = lo:=by simp
  have e2:(((hi - lo).toNat:Nat):Int) - ((0:Nat):Int) = Builtin.Range.rangeSize lo hi 1:=by rw [rangeSize_one];split<;>omega
  show IsRangeIter _ _ (lo + ((0:Nat):Int) * 1) ((((hi - lo).toNat:Nat):Int) - ((0:Nat):Int)) 1
  rw [e1,e2]
  exact Heap.get?_push_size _ rfl
 ·have e:b = (s.heap.push { cls:=.type "range",data:=.fields #[.int lo t,.int hi u,.int 1 v] }).objs.size:=by simpa using hb
  subst e
  exact I1.fpOk (Nat.le_refl _) (I1.hok.fresh (Nat.le_refl _))
noncomputable def aOa (ta:TA):TI:=fun σ H R=>ta σ H fun vs H1=>∃ j:Int,vs = [.int j]/\-(2 ^ 62)<=j/\j < 2 ^ 62/\R (Itr 0 j.toNat) H1
theorem aE2 {a:Expr} {ta:TA} {p pos:Pos} (hg:Gl X "range") (hm:X.mg "range" = none) (ha:PA X [a] ta) (hs:starEach [a] X.env = [(false,eval a X.env)]:=by rfl):PI X tg (.Call (.Name "range" p) [a] [] pos) (aOa ta):=by
 intro pins s σ H R I h
 refine Call_ (xR I hg hm boot_range (PyProof.Rows.callWith_type1 (thn (ha pos pins s σ H _ I h) fun us s1 ⟨vs,H1,I1,r1,q1⟩=>?_) hs rfl))
 obtain ⟨j,e,q1,q2,q⟩:=q1
 subst e
 cases r1 with
 | cons r rr =>
  cases rr
  obtain ⟨t,rfl⟩:=r
  exact call_range_1 (aHj I1 (by omega) (by omega) q1 q2 (by simpa using q))
def aOT (wi:TI) (g:TG) (tb:TS):TS:=fun D σ H=>wi σ H fun J H1=>∃ W:Nat->Nat->St->Hp->Prop,(∃ m,W 0 m σ H1)/\∀ i m σ H,W i m σ H ->
 (J.stop i H/\D.nx σ H) ∨ (J.go i H/\∃ N:St->Hp->Prop,(∀ σ' H',N σ' H'->∃ m',m' < m/\W (i + 1) m' σ' H')/\∀ x H',J.yld i H x H'->g x σ H' fun σ2 H2=>tb { D with nx:=N,ct:=N,bk:=D.nx } σ2 H2)
noncomputable def aBa (fp:List Addr) (h:Heap):List (Addr × Obj):=fp.filterMap fun b=>(h.get? b).map fun o=>(b,o)
theorem nA {fp:List Addr} {h:Heap} {b:Addr} {o:Obj} (hb:b ∈ fp) (e:h.get? b = some o):(b,o) ∈ aBa fp h:=List.mem_filterMap.mpr ⟨b,hb,by rw [e];rfl⟩
theorem aEM {fp:List Addr} {h:Heap} {p:Addr × Obj} (hp:p ∈ aBa fp h):p.1 ∈ fp/\h.get? p.1 = some p.2:=by
 obtain ⟨b,hb,e⟩:=List.mem_filterMap.mp hp
 cases q:h.get? b with
 | none=>rw [q] at e;cases e
 | some o =>
  rw [q] at e
  have e':(b,o) = p:=Option.some.inj e
  subst e'
  exact ⟨hb,q⟩
theorem Inv.pinned {pins:List (Addr × Obj)} {σ:St} {H:Hp} {s:Shared} {fp:List Addr} (I:Inv X pins σ H s) (hf:∀ b ∈ fp,zI X pins H b) (ho:∀ b ∈ fp,∃ o,s.heap.get? b = some o/\∀ v,o.data ≠ .cell v):Inv X (pins ++ aBa fp s.heap) σ H s :=
 I.pins_of fun p hp=>(List.mem_append.mp hp).elim (fun z=>I.pin p (mem_append_right _ z)) fun z=>by
  obtain ⟨hb,e⟩:=aEM z
  obtain ⟨f0,f1,f2,_⟩:=hf p.1 hb
  obtain ⟨o,e',d⟩:=ho p.1 hb
  rw [e] at e';cases e'
  exact ⟨e,f0,f1,f2,d⟩
theorem Inv.unpinned {pins pl:List (Addr × Obj)} {σ:St} {H:Hp} {s:Shared} (I:Inv X (pins ++ pl) σ H s):Inv X pins σ H s:=I.pins_of fun p hp=>I.pin p (mem_append_right _ (mem_append_left _ hp))
theorem aA1 {iter:Expr} {body:List Stmt} {wi:TI} {g:TG} {tb:TS} {pos:Pos} (hp:PassesOwn (model X.prog X.w) X.A X.env X.xe) (hc:X.calm = true) (hi:PI X tg iter wi) (hg:PG X tg g) (hb:PSs X body tb)
  (hs:∀ x,foldedSetIterable iter X.env x = pure x:=by intro _;rfl):PS X (.For tg iter body [] pos) (aOT wi g tb):=by
 intro pins s σ H D I h
 refine wpAny_For (thn (hi pins s σ H _ I h) fun v s1 h1=>thn h1 fun itv s2 h2=>?_) hs
 obtain ⟨it,fp,tn,J,H2,e,I2,T,st2,f2,W,⟨m0,w0⟩,turn⟩:=h2
 subst e
 have stat:∀ {H':Hp},(∀ b ∈ fp,H' b = none)->∀ b ∈ fp,zI X pins H' b:=fun hn b hb=>⟨hn b hb,(f2 b hb).2⟩
 refine codeAny_forLoop_any (fun n s'=>∃ i σ' H',Inv X pins σ' H' s'/\tn i s'.heap/\(∀ b ∈ fp,H' b = none)/\W i n σ' H') ?_ m0 ⟨0,σ,H2,I2,st2,fun b hb=>(f2 b hb).1,w0⟩
 rintro n s3 ⟨i,σ3,H3,I3,st3,fr3,w3⟩
 rcases turn i n σ3 H3 w3 with ⟨stop,qn⟩ | ⟨go,N,hN,step⟩
 ·refine wpAny_passesOwn hp (thn (T.done X rfl rfl rfl hc i pins s3 σ3 H3 X.xe I3 (stat fr3) st3 stop) fun r s4 ⟨hr,I4⟩=>?_)
  subst hr
  exact wpAny_execs_nil ⟨σ3,H3,I4,qn⟩
 ·refine wpAny_passesOwn hp (thn (T.item X rfl rfl rfl hc i pins s3 σ3 H3 X.xe I3 (stat fr3) st3 go) fun r s4 ⟨u,hr,h4⟩=>?_)
  subst hr
  refine wpAny_passesOwn hp (thn h4 fun _ s5 ⟨x,H5,I5,r5,y5,st5,fr5⟩=>?_)
  have I5':=I5.pinned (stat fr5) (T.obj _ _ st5)
  refine wpAny_passesOwn hp (thn (hg _ s5 σ3 H5 x u _ I5' r5 (step x H5 y5)) fun _ s6 ⟨σ6,H6,I6,q6⟩=>?_)
  refine wpAny_passesOwn hp (thn (hb _ s6 σ6 H6 _ I6 q6) fun f s7 q7=>?_)
  have again:∀ {σ7:St} {H7:Hp},Inv X (pins ++ aBa fp s5.heap) σ7 H7 s7->N σ7 H7->∃ m,m < n/\∃ i σ' H',Inv X pins σ' H' s7/\tn i s7.heap/\(∀ b ∈ fp,H' b = none)/\W i m σ' H':=fun {σ7 H7} I7 n7=>by
   obtain ⟨m',hm,w7⟩:=hN σ7 H7 n7
   refine ⟨m',hm,i + 1,σ7,H7,I7.unpinned,T.keep _ _ _ st5 fun b hb o e=>(I7.pin (b,o) (mem_append_right _ (mem_append_right _ (nA hb e)))).1,fun b hb=>?_,w7⟩
   obtain ⟨o,e,d⟩:=T.obj _ _ st5 b hb
   exact (I7.pin (b,o) (mem_append_right _ (mem_append_right _ (nA hb e)))).2.1
  cases f with
  | next=>obtain ⟨σ7,H7,I7,n7⟩:=q7;exact again I7 n7
  | cont=>obtain ⟨σ7,H7,I7,n7⟩:=q7;exact again I7 n7
  | brk=>obtain ⟨σ7,H7,I7,q7⟩:=q7;exact ⟨σ7,H7,I7.unpinned,q7⟩
  | ret v=>obtain ⟨x7,σ7,H7,I7,r7,q7⟩:=q7;exact ⟨x7,σ7,H7,I7.unpinned,r7,q7⟩
end
abbrev R2:=V->V->Hp->VK->Prop
def OpR (X:Cx) (f:Value->Value->Sem Value) (r:R2):Prop :=
 ∀ (pins:List (Addr × Obj)) (s:Shared) (σ:St) (H:Hp) (x y:V) (v u:Value) (Q:VK),Inv X pins σ H s->cS x v->cS y u->r x y H Q ->
  wpAny (model X.prog X.w) X.A (f v u) (EP X pins σ Q) X.xe s
def UnR (X:Cx) (f:Value->Sem Value) (r:V->Hp->VK->Prop):Prop :=
 ∀ (pins:List (Addr × Obj)) (s:Shared) (σ:St) (H:Hp) (x:V) (v:Value) (Q:VK),Inv X pins σ H s->cS x v->r x H Q ->
  wpAny (model X.prog X.w) X.A (f v) (EP X pins σ Q) X.xe s
def lK (X:Cx) (f:Value) (r:List V->Hp->VK->Prop):Prop :=
 ∀ (pins:List (Addr × Obj)) (s:Shared) (σ:St) (H:Hp) (xs:List V) (us:List Value) (Q:VK),Inv X pins σ H s->cG xs us->r xs H Q ->
  wpAny (model X.prog X.w) X.A (call f us) (EP X pins σ Q) X.xe s
def tOp (r:R2) (ta tb:TE):TE:=fun σ H Q=>ta σ H fun x H1=>tb σ H1 fun y H2=>r x y H2 Q
def tUn (r:V->Hp->VK->Prop) (ta:TE):TE:=fun σ H Q=>ta σ H fun x H1=>r x H1 Q
def rI (C:Int->Int->Prop) (g:Int->Int->V):R2:=fun x y H Q=>∃ i j,x = .int i/\y = .int j/\C i j/\Q (g i j) H
def rI0 (g:Int->Int->V):R2:=fun x y H Q=>∃ i j,x = .int i/\y = .int j/\Q (g i j) H
def rU (g:Int->V):V->Hp->VK->Prop:=fun x H Q=>∃ i,x = .int i/\Q (g i) H
section
variable {X:Cx} {a b c:Expr} {ta tb tc:TE} {pos:Pos}
theorem aKE (ha:PE X a ta) (hb:PE X b tb) {pins:List (Addr × Obj)} {s:Shared} {σ:St} {H:Hp} {R:V->V->Hp->Prop} (I:Inv X pins σ H s)
  (h:ta σ H fun x H1=>tb σ H1 fun y H2=>R x y H2) {Q:Value->Shared->Prop} {f:Value->Value->Sem Value}
  (hf:∀ v u s2 x y H2,Inv X pins σ H2 s2->cS x v->cS y u->R x y H2->wpAny (model X.prog X.w) X.A (f v u) Q X.xe s2) :
  wpAny (model X.prog X.w) X.A (eval a X.env) (fun v s₁=>wpAny (model X.prog X.w) X.A (eval b X.env) (fun u s₂=>wpAny (model X.prog X.w) X.A (f v u) Q X.xe s₂) X.xe s₁) X.xe s:=by
 refine thn (ha pins s σ H _ I h) fun v s1 ⟨x,H1,I1,r1,q1⟩=>?_
 refine thn (hb pins s1 σ H1 _ I1 q1) fun u s2 ⟨y,H2,I2,r2,q2⟩=>?_
 exact hf v u s2 x y H2 I2 r1 r2 q2
theorem aNm {op:Operator} {r:R2} (ho:OpR X (binaryOp op) r) (ha:PE X a ta) (hb:PE X b tb):PE X (.BinOp a op b pos) (tOp r ta tb):=by
 intro pins s σ H Q I h
 exact wpAny_BinOp (aKE ha hb I h fun v u s2 x y H2 I2 rx ry q=>ho pins s2 σ H2 x y v u Q I2 rx ry q)
theorem aMG {op:UnaryOp} {r:V->Hp->VK->Prop} (ho:UnR X (unaryOp op) r) (ha:PE X a ta):PE X (.UnaryOp op a pos) (tUn r ta):=by
 intro pins s σ H Q I h
 exact UnaryOp_ (thn (ha pins s σ H _ I h) fun v s1 ⟨x,H1,I1,r1,q1⟩=>ho pins s1 σ H1 x v Q I1 r1 q1)
theorem opI {f:Value->Value->Sem Value} {C:Int->Int->Prop} {g:Int->Int->Int}
  (rule:∀ (i j:Int) (t u:Tok) (s:Shared) (Q:Value->Shared->Prop) (E:Value->Shared->Prop),C i j->Q (.int (g i j) s.toks) { s with toks:=s.toks + 1 }->wpAny (model X.prog X.w) X.A (f (.int i t) (.int j u)) Q E s) :
  OpR X f (rI C fun i j=>.int (g i j)):=by
 intro pins s σ H x y v u Q I rx ry h
 obtain ⟨i,j,rfl,rfl,hc,q⟩:=h
 obtain ⟨t,rfl⟩:=rx
 obtain ⟨t',rfl⟩:=ry
 exact rule i j t t' s _ _ hc ⟨.int (g i j),H,I.tok _,⟨_,rfl⟩,q⟩
theorem aN3 {f:Value->Value->Sem Value} {g:Int->Int->Int}
  (rule:∀ (i j:Int) (t u:Tok) (s:Shared) (Q:Value->Shared->Prop) (E:Value->Shared->Prop),Q (.int (g i j) s.toks) { s with toks:=s.toks + 1 }->wpAny (model X.prog X.w) X.A (f (.int i t) (.int j u)) Q E s) :
  OpR X f (rI0 fun i j=>.int (g i j)):=by
 intro pins s σ H x y v u Q I rx ry h
 obtain ⟨i,j,rfl,rfl,q⟩:=h
 obtain ⟨t,rfl⟩:=rx
 obtain ⟨t',rfl⟩:=ry
 exact rule i j t t' s _ _ ⟨.int (g i j),H,I.tok _,⟨_,rfl⟩,q⟩
theorem aHM {f:Value->Value->Sem Value} {g:Int->Int->Bool}
  (rule:∀ (i j:Int) (t u:Tok) (s:Shared) (Q:Value->Shared->Prop) (E:Value->Shared->Prop),Q (.bool (g i j)) s->wpAny (model X.prog X.w) X.A (f (.int i t) (.int j u)) Q E s) :
  OpR X f (rI0 fun i j=>.bl (g i j)):=by
 intro pins s σ H x y v u Q I rx ry h
 obtain ⟨i,j,rfl,rfl,q⟩:=h
 obtain ⟨t,rfl⟩:=rx
 obtain ⟨t',rfl⟩:=ry
 exact rule i j t t' s _ _ ⟨.bl (g i j),H,I,rfl,q⟩
def aNO (i j:Int):Prop:=0<=j/\j<=1000000/\i.natAbs < 2 ^ 64
theorem aKR:OpR X (binaryOp .Add) (rI0 fun i j=>.int (i + j)):=aN3 fun _ _ _ _ _ _ _ q=>add_int q
theorem aKI:OpR X (binaryOp .Sub) (rI0 fun i j=>.int (i - j)):=aN3 fun _ _ _ _ _ _ _ q=>sub_int q
theorem aIq:OpR X (binaryOp .Mod) (rI (fun _ j=>j ≠ 0) fun i j=>.int (i.fmod j)):=opI fun _ _ _ _ _ _ _ hc q=>mod_int' hc q
theorem aLk:OpR X (binaryOp .Pow) (rI aNO fun i j=>.int (i ^ j.toNat)):=opI fun _ _ _ _ _ _ _ hc q=>pow_int_small hc.1 hc.2.1 hc.2.2 q
theorem unI {f:Value->Sem Value} {g:Int->Int}
  (rule:∀ (i:Int) (t:Tok) (s:Shared) (Q:Value->Shared->Prop) (E:Value->Shared->Prop),Q (.int (g i) s.toks) { s with toks:=s.toks + 1 }->wpAny (model X.prog X.w) X.A (f (.int i t)) Q E s) :
  UnR X f (rU fun i=>.int (g i)):=by
 intro pins s σ H x v Q I rx h
 obtain ⟨i,rfl,q⟩:=h
 obtain ⟨t,rfl⟩:=rx
 exact rule i t s _ _ ⟨.int (g i),H,I.tok _,⟨_,rfl⟩,q⟩
theorem aK6:UnR X (unaryOp .USub) (rU fun i=>.int (-i)):=unI fun _ _ _ _ _ q=>neg_int q
end
section
variable {X:Cx} {a b c:Expr} {ta tb tc:TE} {pos:Pos}
theorem aNC:OpR X (compareOp .Lt) (rI0 fun i j=>.bl (decide (i < j))):=aHM fun _ _ _ _ _ _ _ q=>lt_int q
theorem aOB:OpR X (compareOp .LtE) (rI0 fun i j=>.bl (decide (i<=j))):=aHM fun _ _ _ _ _ _ _ q=>le_int q
theorem aOA:OpR X (compareOp .Gt) (rI0 fun i j=>.bl (decide (j < i))):=aHM fun _ _ _ _ _ _ _ q=>gt_int q
theorem aOs:OpR X (compareOp .GtE) (rI0 fun i j=>.bl (decide (j<=i))):=aHM fun _ _ _ _ _ _ _ q=>ge_int q
theorem aAT (b:Expr) {op:CmpOp} (h:op ≠ .In:=by decide) (h2:op ≠ .NotIn:=by decide):behindInMarks op b = false:=by
 have e1:(op == CmpOp.In) = false:=by cases op<;>first | rfl | exact absurd rfl h
 have e2:(op == CmpOp.NotIn) = false:=by cases op<;>first | rfl | exact absurd rfl h2
 cases b<;>simp [behindInMarks,e1,e2]
theorem aHZ {op:CmpOp} {r:R2} (ho:OpR X (compareOp op) r) (ha:PE X a ta) (hb:PE X b tb) (hm:behindInMarks op b = false):PE X (.Compare a [op] [b] pos) (tOp r ta tb):=by
 intro pins s σ H Q I h
 exact wpAny_Compare1 (aKE ha hb I h fun v u s2 x y H2 I2 rx ry q=>ho pins s2 σ H2 x y v u Q I2 rx ry q) hm
def aJi (t:TE):TT:=fun σ H Q=>t σ H fun x H'=>∃ k,x = .bl k/\Q k H'
theorem aH4 {op:CmpOp} {r:R2} (ho:OpR X (compareOp op) r) (ha:PE X a ta) (hb:PE X b tb) (hm:behindInMarks op b = false):PT X (.Compare a [op] [b] pos) (aJi (tOp r ta tb)):=by
 intro pins s σ H Q I h
 refine wpAny_isTrue_Compare1 (thn (ha pins s σ H _ I h) fun v s1 ⟨x,H1,I1,r1,q1⟩=>thn (hb pins s1 σ H1 _ I1 q1) fun u s2 ⟨y,H2,I2,r2,q2⟩ =>
  thn (ho pins s2 σ H2 x y v u _ I2 r1 r2 q2) fun c s3 ⟨z,H3,I3,r3,k,e,q3⟩=>?_) hm
 subst e
 cases r3
 exact wpAny_truthy_bool ⟨H3,I3,q3⟩
def aDw (r r':R2) (ta tb tc:TE):TE:=fun σ H Q=>ta σ H fun x H1=>tb σ H1 fun y H2=>r x y H2 fun z H3=>∃ k,z = .bl k /\
 (if k = true then tc σ H3 fun w' H4=>r' y w' H4 Q else Q (.bl false) H3)
theorem aF2 {op op':CmpOp} {r r':R2} (ho:OpR X (compareOp op) r) (ho':OpR X (compareOp op') r') (ha:PE X a ta) (hb:PE X b tb) (hc:PE X c tc)
  (hm:lastMarks [op,op'] [b,c] = false:=by with_unfolding_all rfl):PE X (.Compare a [op,op'] [b,c] pos) (aDw r r' ta tb tc):=by
 intro pins s σ H Q I h
 refine Compare_chain (thn (ha pins s σ H _ I h) fun v s1 ⟨x,H1,I1,r1,q1⟩=>chain_link (thn (hb pins s1 σ H1 _ I1 q1) fun u s2 ⟨y,H2,I2,r2,q2⟩ =>
  thn (ho pins s2 σ H2 x y v u _ I2 r1 r2 q2) fun d s3 ⟨z,H3,I3,r3,k,e,q3⟩=>?_)) hm
 subst e
 cases r3
 refine wpAny_truthy_bool ?_
 cases k with
 | false=>exact ite_ff ⟨.bl false,H3,I3,rfl,q3⟩
 | true=>exact ite_tt (chain_last (thn (hc pins s3 σ H3 _ I3 q3) fun w' s4 ⟨z',H4,I4,r4,q4⟩=>ho' pins s4 σ H4 y z' u w' Q I4 r2 r4 q4))
theorem aFo {op op':CmpOp} {r r':R2} (ho:OpR X (compareOp op) r) (ho':OpR X (compareOp op') r') (ha:PE X a ta) (hb:PE X b tb) (hc:PE X c tc)
  (hm:lastMarks [op,op'] [b,c] = false:=by with_unfolding_all rfl):PT X (.Compare a [op,op'] [b,c] pos) (aJi (aDw r r' ta tb tc)):=by
 intro pins s σ H Q I h
 refine isTrue_chain (thn (ha pins s σ H _ I h) fun v s1 ⟨x,H1,I1,r1,q1⟩=>test_link (thn (hb pins s1 σ H1 _ I1 q1) fun u s2 ⟨y,H2,I2,r2,q2⟩ =>
  thn (ho pins s2 σ H2 x y v u _ I2 r1 r2 q2) fun d s3 ⟨z,H3,I3,r3,k,e,q3⟩=>?_)) hm
 subst e
 cases r3
 refine wpAny_truthy_bool ?_
 cases k with
 | false =>
  obtain ⟨k',e',q'⟩:=q3
  cases e'
  exact ite_ff ⟨H3,I3,q'⟩
 | true =>
  refine ite_tt (test_last (thn (hc pins s3 σ H3 _ I3 q3) fun w' s4 ⟨z',H4,I4,r4,q4⟩=>thn (ho' pins s4 σ H4 y z' u w' _ I4 r2 r4 q4) fun d' s5 ⟨z2,H5,I5,r5,k2,e2,q5⟩=>?_))
  subst e2
  cases r5
  exact wpAny_truthy_bool ⟨H5,I5,q5⟩
theorem aDc:(sizeLine:Nat) < 2 ^ 63:=by rw [sizeLine_eq];decide
theorem aDd:OpR X (binaryOp .Add) (fun x y H Q=>∃ i j,x = .str i/\y = .str j/\i.length + j.length<=sizeLine/\Q (.str (i ++ j)) H):=by
 intro pins s σ H x y v u Q I rx ry h
 obtain ⟨i,j,rfl,rfl,hz,q⟩:=h
 obtain ⟨t,rfl⟩:=rx
 obtain ⟨t',rfl⟩:=ry
 exact add_str (fun t' tk=>⟨.str (i ++ j),H,I.tok _,⟨_,rfl⟩,q⟩) hz
theorem sR {x:V} {us:List Value} (r:cG [x] us):∃ u,us = [u]/\cS x u:=by
 cases r with
 | cons r1 r2=>cases r2;exact ⟨_,rfl,r1⟩
theorem aJv {x y:V} {us:List Value} (r:cG [x,y] us):∃ u w',us = [u,w']/\cS x u/\cS y w':=by
 cases r with
 | cons r1 r2 =>
  cases r2 with
  | cons r3 r4=>cases r4;exact ⟨_,_,rfl,r1,r3⟩
theorem aHq:lK X (.builtin "abs") (fun xs H Q=>∃ i,xs = [.int i]/\Q (.int (if i < 0 then -i else i)) H):=by
 intro pins s σ H xs us Q I r h
 obtain ⟨i,rfl,q⟩:=h
 obtain ⟨u,rfl,t,rfl⟩:=sR r
 exact call_abs_int fun u tk=>⟨.int (if i < 0 then -i else i),H,I.tok _,⟨_,rfl⟩,q⟩
theorem aEU (hc:X.calm = true):lK X (.builtin "min") (fun xs H Q=>∃ i j,xs = [.int i,.int j]/\Q (.int (if j < i then j else i)) H):=by
 intro pins s σ H xs us Q I r h
 obtain ⟨i,j,rfl,q⟩:=h
 obtain ⟨u,w',rfl,⟨t,rfl⟩,⟨t',rfl⟩⟩:=aJv r
 refine min_two_ints (I.ok.hd hc) fun h' tk k=>⟨_,H,I.kept k,?_,q⟩
 by_cases hj:j < i
 ·rw [if_pos hj,if_pos hj];exact ⟨_,rfl⟩
 ·rw [if_neg hj,if_neg hj];exact ⟨_,rfl⟩
theorem aEJ:lK X (.type "int") (fun xs H Q=>(∃ i,xs = [.int i]/\Q (.int i) H) ∨ ∃ k,xs = [.bl k]/\Q (.int (if k then 1 else 0)) H):=by
 intro pins s σ H xs us Q I r h
 rcases h with ⟨i,rfl,q⟩ | ⟨k,rfl,q⟩
 ·obtain ⟨u,rfl,t,rfl⟩:=sR r
  exact call_int_int ⟨.int i,H,I,⟨_,rfl⟩,q⟩
 ·obtain ⟨u,rfl,r1⟩:=sR r
  cases r1
  exact call_int_bool ⟨.int (if k then 1 else 0),H,I.tok _,⟨_,rfl⟩,q⟩
theorem aA8:lK X (.type "str") (fun xs H Q=>∃ i,xs = [.int i]/\i.natAbs.log2 < 1920/\Q (.str (toString i)) H):=by
 intro pins s σ H xs us Q I r h
 obtain ⟨i,rfl,hz,q⟩:=h
 obtain ⟨u,rfl,t,rfl⟩:=sR r
 exact PySem.P.str_of_int hz ⟨.str _,H,I.tok _,⟨_,rfl⟩,q⟩
end
structure aMu (h:Heap) (x dx C:Addr) (mA:Str->Option Value):Prop where
 obj:h.get? x = some (instObj C dx)
 ns:h.Ns1 dx mA
 ne:dx ≠ x
theorem aAf {h:Heap} {dx:Addr} {mA:Str->Option Value} (n:h.Ns1 dx mA):∃ od,h.get? dx = some od/\∀ name,lookIn name od = some (mA name):=by
 obtain ⟨o,es,ep,ho,hd,hk,_,hm⟩:=n
 refine ⟨o,ho,fun name=>?_⟩
 have e:=hm name
 unfold nsFind findBy at e
 rw [<- Array.find?_toList] at e
 unfold lookIn
 rw [hd]
 dsimp only
 split
 ·rename_i y q
  rw [q] at e
  exact congrArg some e
 ·rename_i q
  rw [q] at e
  have a:es.toList.any (·.refKey) = false:=by
   rw [List.any_eq_false]
   intro y hy
   obtain ⟨z,t,hkey⟩:=hk y (Array.mem_toList_iff.mp hy)
   simp [DictEntry.refKey,hkey]
  have a':¬ es.toList.any (·.refKey) = true:=by rw [a];exact Bool.false_ne_true
  rw [if_neg a']
  exact congrArg some e
theorem aMu.look {h:Heap} {x dx C:Addr} {mA:Str->Option Value} (I:aMu h x dx C mA):∃ od,PySem.W.InstAt h x (instObj C dx) C (some od)/\∀ name,lookIn name od = some (mA name) :=
 let ⟨od,ho,hl⟩:=aAf I.ns
 ⟨od,⟨I.obj,rfl,rfl,ho⟩,hl⟩
section
variable {prog:Program} {w:World} {A:Around} {E:Value->Shared->Prop} {s:Shared} {K:Frag} {x dx C f:Addr} {mA:Str->Option Value} {name:Str} {v:Value}
end
section
variable {P:Program} {w:World} {H H':Hp} {h h':Heap} {a C dx:Addr} {fs fs':List (Str × V)}
theorem aJd (hok:HOk P w H h) (e:H a = some (.ins C dx fs)):∃ mA,aMu h a dx C mA/\(∀ f,aIe (fs.lookup f) (mA f))/\PySem.Within mA (fs.map (·.1))/\fs.length<=1000/\H dx = some (.own a):=by
 obtain ⟨d,z,ne,ob,mA,n,r,q⟩:=(show fO P w H h a (.ins C dx fs) from hok a _ e)
 exact ⟨mA,⟨ob,n,ne⟩,r,q,z,d⟩
end
structure Cls (K:Frag) (C:Addr):Prop where
 pg:PySem.W.plainGet K C Str.empty = true
 hd:PySem.W.hasDictIn K C = true
 po:PySem.W.plainOver K C = true
 sa:findIn K (.ref C) "__setattr__" = some (some (.builtin "object.__setattr__"))
theorem Cls.get {K:Frag} {C:Addr} (c:Cls K C) (f:Str):PySem.W.plainGet K C f = true:=c.pg
section
variable {X:Cx} {pins:List (Addr × Obj)} {σ:St} {H:Hp} {s:Shared} {a C dx:Addr} {fs:List (Str × V)} {f:Str} {v:V} {A:Around} {E:Value->Shared->Prop}
theorem aHW {prog:Program} {w:World} {env:Env} {e:Expr} {f:Str} {pos:Pos} {s:Shared} {Q:Value->Shared->Prop} (hb:attributeBase e f env (eval e env) = eval e env)
  (h:wpAny (model prog w) A (eval e env) (fun o s₁=>wpAny (model prog w) A (getAttr o f true) Q E s₁) E s):wpAny (model prog w) A (eval (.Attribute e f pos) env) Q E s :=
 Attribute_any_ h (by rw [arm_eval_Attribute,hb])
end
section
variable {X:Cx} {o e value:Expr} {f:Str} {pos pos' tpos:Pos} {ta tv:TE}
end
section
variable {X:Cx} {pins:List (Addr × Obj)} {σ:St} {H:Hp} {s:Shared} {A:Around} {E:Value->Shared->Prop} {Q:Value->Shared->Prop} {c:Value} {b:Bool}
inductive vN (K:Frag) (H:Hp):V->Value->Prop where
 | non:vN K H .non (.type "NoneType")
 | bl (x:Bool):vN K H (.bl x) (.type "bool")
 | int (i:Int):vN K H (.int i) (.type "int")
 | str (x:Str):vN K H (.str x) (.type "str")
 | flt (x:UInt64):vN K H (.flt x) (.type "float")
 | lst {a:Addr} {xs:List V} (e:H a = some (.lst xs)):vN K H (.ref a) (.type "list")
 | frz {a:Addr} {o:Obj} {xs:List V} (e:H a = some (.frz o (.lst xs))):vN K H (.ref a) (.type "list")
 | tup {a:Addr} {xs:List V} (e:H a = some (.tup xs)):vN K H (.ref a) (.type "tuple")
 | dK {a:Addr} {kvs:List (Key × V)} (e:H a = some (.dK kvs)):vN K H (.ref a) (.type "dict")
 | dT {a:Addr} {kvs:List (List Key × V)} (e:H a = some (.dT kvs)):vN K H (.ref a) (.type "dict")
 | ins {a C dx:Addr} {fs:List (Str × V)} (e:H a = some (.ins C dx fs)) (cl:Cls K C) (ha:findIn K (.ref C) "__class__" = some (some (.builtin "object.__class__")))
   (hn:PySem.W.specialIn K (.builtin "object.__class__") "__get__" = some (some (.builtin "getset_descriptor.__get__"))) (htk:PySem.W.takesIn K (.builtin "object.__class__") = some true)
   (hm:mroIn K C (.type "object") = some true):vN K H (.ref a) (.ref C)
theorem lU {x:V} {u t:Value} (I:Inv X pins σ H s) (rx:cS x u) (ty:vN X.K H x t) (e:kitOne X.K t c = some b) (h:∀ tk,Q (.bool b) { s with toks:=tk }) :
  wpAny (model X.prog X.w) A (call (.builtin "isinstance") [u,c]) Q E s:=by
 cases ty with
 | non=>cases (show u = Value.none from rx);exact kia_one PySem.W.kitx_none I.kIn True.intro e (fun z=>nomatch z) h
 | bl y=>cases (show u = Value.bool y from rx);exact kia_one PySem.W.kitx_bool I.kIn True.intro e (fun z=>nomatch z) h
 | int i=>obtain ⟨t,q⟩:=(show ∃ t,u = Value.int i t from rx);cases q;exact kia_one PySem.W.kitx_int I.kIn True.intro e (fun z=>nomatch z) h
 | str y=>obtain ⟨t,q⟩:=(show ∃ t,u = Value.str y t from rx);cases q;exact kia_one PySem.W.kitx_str I.kIn True.intro e (fun z=>nomatch z) h
 | flt y=>obtain ⟨t,q⟩:=(show ∃ t,u = Value.float y t from rx);cases q;exact kia_one PySem.W.kitx_float I.kIn True.intro e (fun z=>nomatch z) h
 | @lst a xs ea =>
  cases (show u = Value.ref a from rx)
  obtain ⟨_,_,n,_,h1⟩:=(show fO X.prog X.w H s.heap a (.lst xs) from I.hok a _ ea)
  exact kia_one kitx_list I.kIn ⟨_,h1,rfl⟩ e (fun z=>nomatch z) h
 | @frz a ob xs ea =>
  cases (show u = Value.ref a from rx)
  obtain ⟨_,_,_,n,_,h1⟩:=(show fO X.prog X.w H s.heap a (.frz ob (.lst xs)) from I.hok a _ ea)
  exact kia_one kitx_list I.kIn ⟨_,h1,rfl⟩ e (fun z=>nomatch z) h
 | @tup a xs ea =>
  cases (show u = Value.ref a from rx)
  obtain ⟨_,_,_,p⟩:=(show fO X.prog X.w H s.heap a (.tup xs) from I.hok a _ ea)
  obtain ⟨o,h1,h2,_⟩:=p
  exact kia_one PySem.W.kitx_tuple I.kIn ⟨o,h1,h2⟩ e (fun z=>nomatch z) h
 | @dK a kvs ea =>
  cases (show u = Value.ref a from rx)
  obtain ⟨_,_,vs,_,p⟩:=(show fO X.prog X.w H s.heap a (.dK kvs) from I.hok a _ ea)
  obtain ⟨o,es,ep,h1,h2,_⟩:=p
  exact kia_one PySem.W.kitx_dict I.kIn ⟨o,h1,h2.1⟩ e (fun z=>nomatch z) h
 | @dT a kvs ea =>
  cases (show u = Value.ref a from rx)
  obtain ⟨_,_,xs,_,o,es,ep,h1,h2,_⟩:=(show fO X.prog X.w H s.heap a (.dT kvs) from I.hok a _ ea)
  exact kia_one PySem.W.kitx_dict I.kIn ⟨o,h1,h2.1⟩ e (fun z=>nomatch z) h
 | @ins a C dx fs ea cl ha hn htk hm =>
  cases (show u = Value.ref a from rx)
  obtain ⟨mA,O,_⟩:=aJd I.hok ea
  obtain ⟨od,J,_⟩:=O.look
  exact kia_one (PySem.W.kitx_own (cl.get _) cl.hd ha hn htk hm) I.kIn J e (fun z=>nomatch z) h
end
structure eD (k:Nat) (A:Around):Prop where
 hd:A.handled = none
 dp:A.depth + 3 * k + 5 < recursionLimit
 un:A.units + 16 * k + 200 < cLine
theorem eD.mono {j k:Nat} {A:Around} (r:eD k A) (h:j<=k):eD j A:=⟨r.hd,by have:=r.dp;omega,by have:=r.un;omega⟩
theorem eD.deeper {k:Nat} {A:Around} (r:eD (k + 1) A) (env:Env):eD k (A.deeper env) :=
 ⟨r.hd,by have:=r.dp;show A.depth + 1 + 3 * k + 5 < _;omega,by have:=r.un;show A.units + 3 + 16 * k + 200 < _;omega⟩
theorem aCU {A:Around} {C:Addr} {us:List Value} {kw:List (Str × Value)}:(A.under (.builtin "type.__call__" ⟨.ref C :: us,kw⟩)).depth = A.depth + 1:=by
 first | rfl | simp [Around.under,Code.weight,Code.isCreation,Code.isGuard,Code.isCaller,Code.frames,Code.isFrame,guardIds]
theorem aDr {A:Around} {C:Addr} {us:List Value} {kw:List (Str × Value)}:(A.under (.builtin "type.__call__" ⟨.ref C :: us,kw⟩)).units = A.units + 1:=by
 first | rfl | simp [Around.under,Code.cUnits,Code.frames,Code.isFrame]
theorem eD.make {k:Nat} {A:Around} (r:eD (k + 1) A) (C:Addr) (us:List Value) (kw:List (Str × Value)):eD k (A.under (.builtin "type.__call__" ⟨.ref C :: us,kw⟩)) :=
 ⟨r.hd,by have:=r.dp;rw [aCU];omega,by have:=r.un;rw [aDr];omega⟩
theorem eD.depth {k:Nat} {A:Around} (r:eD k A):A.depth < recursionLimit:=by have:=r.dp;omega
def aOn:TA:=fun _ H Q=>Q [] H
def aNZ (ta:TE) (tr:TA):TA:=fun σ H Q=>ta σ H fun x H1=>tr σ H1 fun xs H2=>Q (x :: xs) H2
section
variable {X:Cx} {e:Expr} {es:List Expr} {te:TE} {t:TA} {pos:Pos}
theorem aF3:PA X [] aOn:=fun _ _ _ _ H Q I h=>Calls.spliced_nil ⟨[],H,I,.nil,h⟩
theorem aA3 (ha:PE X e te) (hr:PA X es t) (hs:starEach (e :: es) X.env = (false,eval e X.env) :: starEach es X.env:=by rfl):PA X (e :: es) (aNZ te t):=by
 intro pos pins s σ H Q I h
 rw [hs]
 show wpAny _ _ (spliced ((false,eval e X.env) :: backTo pos (starEach es X.env))) _ _ s
 refine Calls.spliced_cons (thn (ha pins s σ H _ I h) fun u s1 ⟨x,H1,I1,r1,q1⟩=>?_)
 exact thn (hr pos pins s1 σ H1 _ I1 q1) fun us s2 ⟨xs,H2,I2,r2,q2⟩=>⟨x :: xs,H2,I2,.cons r1 r2,q2⟩
def aOI (t:TA):TE:=fun σ H Q=>t σ H fun xs H1=>xs.length<=sizeLine/\∀ p,H1 p = none->Q (.ref p) (upd H1 p (.tup xs))
def aO6 (t:TA):TE:=fun σ H Q=>t σ H fun xs H1=>xs.length<=sizeLine/\∀ p,H1 p = none->Q (.ref p) (upd H1 p (.lst xs))
theorem aMb {x1} (h:PA X es t):PE X (.Tuple es x1 pos) (aOI t):=by
 intro pins s σ H Q I hq
 refine wpAny_Tuple_spliced (thn (h pos pins s σ H _ I hq) fun us s1 ⟨xs,H1,I1,r,z,q⟩=>⟨by rw [<- r.length];exact z,?_⟩)
 have hf:H1 s1.heap.objs.size = none:=I1.hok.fresh (Nat.le_refl _)
 refine ⟨.ref s1.heap.objs.size,upd H1 s1.heap.objs.size (.tup xs),I1.laid (t':=s1.toks) (fun b u e=>Heap.get?_push_of_some _ e) (Nat.le_refl _) ?_,rfl,q _ hf⟩
 exact ⟨z,us,r,⟨_,Heap.get?_push_size _ rfl,rfl,_,rfl⟩⟩
theorem aLR (h:PA X es t):PE X (.List es pos) (aO6 t):=by
 intro pins s σ H Q I hq
 refine wpAny_List_spliced (thn (h pos pins s σ H _ I hq) fun us s1 ⟨xs,H1,I1,r,z,q⟩=>⟨by rw [<- r.length];exact z,?_⟩)
 have hf:H1 s1.heap.objs.size = none:=I1.hok.fresh (Nat.le_refl _)
 refine ⟨.ref s1.heap.objs.size,upd H1 s1.heap.objs.size (.lst xs),I1.laid (t':=s1.toks) (fun b u e=>Heap.get?_push_of_some _ e) (Nat.le_refl _) ?_,rfl,q _ hf⟩
 exact ⟨z,us,0,r,Heap.get?_push_size _ rfl⟩
end
abbrev Sp:=List V->Hp->VK->XK->Prop
abbrev CXT:=List Env->Hp->Shared->XK->Value->Shared->Prop
structure aC5 (P:Program) (w:World) (K:Frag) (mg:Str->Option Value) (base:Heap) (A:Around) (outer:List Env) (s:Shared) (H:Hp):Prop where
 frames:A.frames = some outer
 mod:Mod K mg base
 bs:∀ b o,base.get? b = some o->s.heap.get? b = some o/\H b = none
 bsz:base.objs.size<=s.heap.objs.size
 funs:s.heap.FunFrames base outer
 frf:∀ b ∈ frs outer,H b = none
 hok:HOk P w H s.heap
 bare:AllBare s.gens
def CE (outer:List Env) (P:Program) (w:World) (H:Hp) (s:Shared) (Q:VK) (u:Value) (s':Shared):Prop :=
 ∃ v H',s'.os = s.os/\AllBare s'.gens/\Un (frs outer) [] H H' s.heap s'.heap/\HOk P w H' s'.heap/\cS v u/\Q v H'
def CR (CX:CXT) (outer:List Env) (P:Program) (w:World) (H:Hp) (s:Shared) (Q:VK) (E:XK) (r:Result) (s':Shared):Prop :=
 match r with
 | .ok (.ret u)=>CE outer P w H s Q u s'
 | .ok _=>False
 | .error e=>CX outer H s E e s'
structure jE (P:Program) (w:World) (K:Frag) (mg:Str->Option Value) (base:Heap) (CX:CXT) (k:Nat) (f:Addr) (fd:FuncData) (ps:List Str) (sp:Sp):Prop where
 len:∀ vs H Q E,sp vs H Q E->vs.length = ps.length
 run:∀ (A:Around) (outer:List Env) (s:Shared) (H:Hp) (args:Args) (us:List Value) (vs:List V) (Q:VK) (E:XK),eD k A->aC5 P w K mg base A outer s H->BindsTo s fd args (ps.zip us)->cG vs us->sp vs H Q E ->
  codeAny (model P w) A (.call (.ref f) args) (CR CX outer P w H s Q E) s
theorem jE.mono {P:Program} {w:World} {K:Frag} {mg:Str->Option Value} {base:Heap} {CX:CXT} {j k:Nat} {f:Addr} {fd:FuncData} {ps:List Str} {sp:Sp} (F:jE P w K mg base CX j f fd ps sp) (h:j<=k) :
  jE P w K mg base CX k f fd ps sp:=⟨F.len,fun A outer s H args us vs Q E hr=>F.run A outer s H args us vs Q E (hr.mono h)⟩
theorem jE.imp {P:Program} {w:World} {K:Frag} {mg:Str->Option Value} {base:Heap} {CX:CXT} {k:Nat} {f:Addr} {fd:FuncData} {ps:List Str} {sp sp':Sp} (F:jE P w K mg base CX k f fd ps sp)
  (h:∀ vs H Q E,sp' vs H Q E->sp vs H Q E):jE P w K mg base CX k f fd ps sp' :=
 ⟨fun vs H Q E q=>F.len vs H Q E (h _ _ _ _ q),fun A outer s H args us vs Q E hr he hb hv hs=>F.run A outer s H args us vs Q E hr he hb hv (h _ _ _ _ hs)⟩
theorem aC5.make {P:Program} {w:World} {K:Frag} {mg:Str->Option Value} {base:Heap} {A:Around} {outer:List Env} {s:Shared} {H:Hp} (e:aC5 P w K mg base A outer s H) (C:Addr) (us:List Value) (kw:List (Str × Value)) :
  aC5 P w K mg base (A.under (.builtin "type.__call__" ⟨.ref C :: us,kw⟩)) outer s H:=⟨by first | exact e.frames | (simpa [Around.under,Code.envs,Code.isFrame,pushEnvs] using e.frames),e.mod,e.bs,e.bsz,e.funs,e.frf,e.hok,e.bare⟩
section
variable {X:Cx} {pins:List (Addr × Obj)} {σ:St} {H:Hp} {s s':Shared}
theorem Inv.env0 (I:Inv X pins σ H s):aC5 X.prog X.w X.K X.mg X.base X.A X.stack s H :=
 ⟨I.ok.frames,I.ok.mod,I.bs,Nat.le_trans I.ok.bsz I.sz,I.stack,I.stkFree,I.hok,I.bare⟩
theorem Inv.after {Q:VK} {u:Value} (I:Inv X pins σ H s) (h:CE X.stack X.prog X.w H s Q u s'):EP X pins σ Q u s':=by
 obtain ⟨v,H',os,bare,un,hok,r,q⟩:=h
 obtain ⟨hh,g,d,t,os'⟩:=s'
 obtain rfl:os' = s.os:=os
 exact ⟨v,H',I.call (h':=hh) (g':=g) (d':=d) (t':=t) (ch:=[]) un hok bare (fun b z=>absurd z (by simp)),r,q⟩
end
def aJq (sp:Sp) (dvs:List V) (E:XK) (t:TA):TE:=fun σ H Q=>t σ H fun vs H1=>sp (vs ++ dvs) H1 Q E
def lT (K:Frag) (fd:FuncData) (ps:List Str) (ds:List Value):Prop :=
 ∀ (s:Shared) (us:List Value),K.In s.heap->(us ++ ds).length = ps.length->BindsTo s fd ⟨us,[]⟩ (ps.zip (us ++ ds))
theorem lT.all {K:Frag} {fd:FuncData} {ps:List Str} (h:∀ us:List Value,us.length = ps.length->bindArgs fd ⟨us,[]⟩ = pure (ps.zip us)):lT K fd ps []:=fun s us _ hl=>by
 rw [append_nil] at hl ⊢
 exact .of_eq (h us hl)
def uP (CX:CXT) (X:Cx) (E:XK):Prop:=∀ (pins:List (Addr × Obj)) (σ:St) (H:Hp) (s:Shared) (e:Value) (s':Shared),Inv X pins σ H s->CX X.stack H s E e s'->X.xe e s'
section
variable {X:Cx} {CX:CXT} {k:Nat} {f C:Addr} {fd:FuncData} {ps:List Str} {sp:Sp} {dvs:List V} {ds:List Value} {E:XK} {x m:Str} {p pos apos:Pos} {e o:Expr} {es:List Expr} {ta:TE} {t:TA}
theorem aCZ {pins:List (Addr × Obj)} {σ:St} {H:Hp} {s:Shared} {Q:VK} {us:List Value} {vs:List V} (F:jE X.prog X.w X.K X.mg X.base CX k f fd ps sp) (hr:eD k X.A) (hb:lT X.K fd ps ds) (hd:cG dvs ds) (hx:uP CX X E)
  (I:Inv X pins σ H s) (r:cG vs us) (h:sp (vs ++ dvs) H Q E):wpAny (model X.prog X.w) X.A (call (.ref f) us) (EP X pins σ Q) X.xe s:=by
 have r2:cG (vs ++ dvs) (us ++ ds):=r.append hd
 have hl:(us ++ ds).length = ps.length:=by rw [<- r2.length];exact F.len _ _ _ _ h
 refine wpAny_call (codeAny_mono (F.run X.A X.stack s H ⟨us,[]⟩ (us ++ ds) (vs ++ dvs) Q E hr I.env0 (hb s us I.kIn hl) r2 h) fun r s' hq=>?_)
 cases r with
 | error e=>exact hx pins σ H s e s' I hq
 | ok fl =>
  cases fl with
  | ret u=>exact I.after hq
  | next=>exact False.elim hq
  | brk=>exact False.elim hq
  | cont=>exact False.elim hq
theorem aI7 (F:jE X.prog X.w X.K X.mg X.base CX k f fd ps sp) (hr:eD k X.A) (hg:Gl X x) (hm:X.mg x = some (.ref f)) (hk:keepIn X.K (.ref f) = true) (hb:lT X.K fd ps ds) (hd:cG dvs ds) (hx:uP CX X E)
  (ha:PA X (e :: es) t) (hdb:(x == ("__debug__":Str)) = false:=by decide) (he:starEach (e :: es) X.env = (false,eval e X.env) :: starEach es X.env:=by rfl) (hpl:(backTo pos (starEach es X.env)).any (·.1) = false:=by rfl) :
  PE X (.Call (.Name x p) (e :: es) [] pos) (aJq sp dvs E t):=by
 intro pins s σ H Q I h
 refine wpAny_Call_Name_kw (iK I hg hm ?_ hdb)
 refine callWith_K (h₀:=X.base) I.ok.mod.kin hk (thn (ha pos pins s σ H _ I h) fun us s1 ⟨vs,H1,I1,r,q⟩=>⟨I1.kIn,?_⟩) he hpl
 exact aCZ F hr hb hd hx I1 r q
theorem aFF (F:jE X.prog X.w X.K X.mg X.base CX k f fd ps sp) (hr:eD k X.A) (hg:Gl X x) (hm:X.mg x = some (.ref f)) (hk:keepIn X.K (.ref f) = true) (hb:lT X.K fd ps ds) (hd:cG dvs ds) (hx:uP CX X E)
  (hdb:(x == ("__debug__":Str)) = false:=by decide):PE X (.Call (.Name x p) [] [] pos) (aJq sp dvs E aOn):=by
 intro pins s σ H Q I h
 refine wpAny_Call_Name_kw (iK I hg hm ?_ hdb)
 exact PySem.W.callWith_K0 I.kIn hk (aCZ (us:=[]) F hr hb hd hx I .nil h)
end
section
variable {X:Cx} {CX:CXT} {k:Nat} {f C:Addr} {fd:FuncData} {ps ks:List Str} {sp:Sp} {E:XK} {x m:Str} {p pos apos kpos:Pos} {e o:Expr} {es:List Expr} {kws:List Keyword} {te ta:TE} {t tk:TA} {nm:Option Str}
variable {g:List Value->List Value->List Value} {gV:List V->List V->List V}
end
structure aR (N P:List Str) (sc:Scope):Prop where
 kind:sc.kind = .function
 co:sc.isCoroutine = false
 gen:sc.isGenerator = false
 nd:N.Nodup
 pre:N.take P.length = P
 par:∀ x ∈ P,sc.names.lookup x = some .local ∨ sc.names.lookup x = some .cell
 nofree:∀ y ∈ sc.names,y.2 ≠ .free
theorem aAj {kindOf:Str->Option NameKind} {x:Str}:∀ {binds:List (Str × Value)} {m:Str->Option Value},(∀ v,(x,v) ∉ binds)->bindL kindOf binds m x = m x
 | [],_,_=>rfl
 | (n,v) :: r,m,h=>by
  unfold bindL
  rw [aAj fun w hw=>h w (mem_cons_of_mem _ hw)]
  split
  ·have:x ≠ n:=by rintro rfl;exact h v mem_cons_self
   simp [this]
  ·rfl
theorem aAm {kindOf:Str->Option NameKind} {x:Str}:∀ {binds:List (Str × Value)} {m:Str->Option Value},(∀ v,(x,v) ∉ binds)->bindC kindOf binds m x = m x
 | [],_,_=>rfl
 | (n,v) :: r,m,h=>by
  unfold bindC
  rw [aAm fun w hw=>h w (mem_cons_of_mem _ hw)]
  split
  ·rfl
  ·have:x ≠ n:=by rintro rfl;exact h v mem_cons_self
   simp [this]
theorem zX {kindOf:Str->Option NameKind} {x:Str} {v:Value}:∀ {P:List Str} {vs:List Value} {i:Nat} {m:Str->Option Value},P.Nodup->P[i]? = some x->vs[i]? = some v->kindOf x = some .local ->
  bindL kindOf (P.zip vs) m x = some v
 | [],_,_,_,_,h,_,_=>by simp at h
 | _ :: _,[],_,_,_,_,h,_=>by simp at h
 | p :: P,w :: vs,0,m,nd,h1,h2,hk=>by
  simp at h1 h2;subst h1;subst h2
  show bindL kindOf ((p,w) :: P.zip vs) m p = _
  unfold bindL
  rw [aAj fun v hv=>(List.nodup_cons.mp nd).1 (List.of_mem_zip hv).1,if_pos hk]
  simp
 | p :: P,w :: vs,i + 1,m,nd,h1,h2,hk=>by
  show bindL kindOf ((p,w) :: P.zip vs) m x = _
  unfold bindL
  exact zX (i:=i) (List.nodup_cons.mp nd).2 (by simpa using h1) (by simpa using h2) hk
theorem aAb {kindOf:Str->Option NameKind} {x:Str} {v:Value}:∀ {P:List Str} {vs:List Value} {i:Nat} {m:Str->Option Value},P.Nodup->P[i]? = some x->vs[i]? = some v->kindOf x ≠ some .local ->
  bindC kindOf (P.zip vs) m x = some v
 | [],_,_,_,_,h,_,_=>by simp at h
 | _ :: _,[],_,_,_,_,h,_=>by simp at h
 | p :: P,w :: vs,0,m,nd,h1,h2,hk=>by
  simp at h1 h2;subst h1;subst h2
  show bindC kindOf ((p,w) :: P.zip vs) m p = _
  unfold bindC
  rw [aAm fun v hv=>(List.nodup_cons.mp nd).1 (List.of_mem_zip hv).1,if_neg hk]
  simp
 | p :: P,w :: vs,i + 1,m,nd,h1,h2,hk=>by
  show bindC kindOf ((p,w) :: P.zip vs) m x = _
  unfold bindC
  exact aAb (i:=i) (List.nodup_cons.mp nd).2 (by simpa using h1) (by simpa using h2) hk
noncomputable def start (N:List Str) (vs:List V):St:=vs.map some ++ replicate (N.length - vs.length) none
noncomputable def jR (CX:CXT) (P:Program) (w:World) (K:Frag) (mg:Str->Option Value) (base:Heap) (N:List Str) (qual:Str) (scope:Scope) (f:Addr) (cd:Value) (A:Around) (outer:List Env) (s:Shared) (H:Hp) (E:XK):Cx where
 prog:=P
 w:=w
 K:=K
 mg:=mg
 base:=base
 A:=A.deeper (envOfC qual scope s.heap.objs.size f cd)
 N:=N
 s₀:=s
 H₀:=H
 env:=envOfC qual scope s.heap.objs.size f cd
 outer:=outer
 stack:=envOfC qual scope s.heap.objs.size f cd :: outer
 ex:=[]
 calm:=true
 fn:=fun _=>true
 pn:=[]
 xe:=fun e s'=>wpAny (model P w) (A.deeper (envOfC qual scope s.heap.objs.size f cd)) (leaving (envOfC qual scope s.heap.objs.size f cd) e) (fun _ s''=>CX outer H s E e s'') (fun e' s''=>CX outer H s E e' s'') s'
theorem aCN {sc:Scope} {n:Nat} {x:Str} (h:sc.names.lookup x = some .cell):∃ c,(cellsFrom n sc.names []).lookup x = some c:=by
 have q:=PySem.W.cellsFrom_some sc.names n [] (.inl h)
 exact Option.isSome_iff_exists.mp q
theorem aEH {CX:CXT} {P:Program} {w:World} {K:Frag} {mg:Str->Option Value} {base:Heap} {N ps:List Str} {qual:Str} {scope:Scope} {f:Addr} {cd:Value} {A:Around} {outer:List Env} {s s1:Shared} {H:Hp} {E:XK} {us:List Value} {vs:List V}
  (S:aR N ps scope) (hd:A.handled = none) (e0:aC5 P w K mg base A outer s H) (hl:vs.length = ps.length) (r:cG vs us)
  (x:InCallC s s.heap.objs.size (bindL (envOfC qual scope s.heap.objs.size f cd).kindOf (ps.zip us) fun _=>none) (cellsFrom (s.heap.objs.size + 1) scope.names []) (bindC (envOfC qual scope s.heap.objs.size f cd).kindOf (ps.zip us) fun _=>none) s1) :
  Inv (jR CX P w K mg base N qual scope f cd A outer s H E) [] (start N vs) H s1:=by
 have hpl:ps.length<=N.length:=by have:=congrArg List.length S.pre;rw [length_take] at this;omega
 obtain ⟨h1,tk,rfl,hk⟩:=x.done
 have noA:∀ b:Addr,b ∉ (jR CX P w K mg base N qual scope f cd A outer s H E).ex:=fun b z=>absurd (show b ∈ ([]:List Addr) from z) (by simp)
 refine ⟨⟨e0.mod,S.kind,rfl,rfl,Nat.le_refl _,fun y z c h1 h2=>?_,fun y hy=>?_,fun y c _ h=>?_,fun _=>hd,Around.frames_deeper e0.frames,.inr ⟨rfl,rfl⟩,fun b z=>absurd z (noA b),e0.bs,e0.bsz,fun b _ _=>noA b,fun b z=>absurd z (noA b),e0.funs,e0.frf⟩,
  rfl,e0.bare,Un.kept hk,⟨_,x.toInCall.ns,fun i y v h1 h2 h3=>?_⟩,fun y c h=>⟨_,x.cell y c h⟩,e0.hok.fresh (Nat.le_refl _),fun y c h=>?_,fun p hp=>absurd (show p ∈ ([]:List (Addr × Obj)) from hp) (by simp),e0.hok.kept hk,?_⟩
 ·exact name_of_addr x.apart (PySem.mem_of_lookup h1) (PySem.mem_of_lookup h2)
 ·have hy:scope.names.lookup y = some .cell ∨ scope.names.lookup y = some .free:=hy
  rcases hy with hy | hy
  ·exact aCN hy
  ·exact absurd rfl (S.nofree _ (PySem.mem_of_lookup hy))
 ·exact Nat.le_of_lt (x.above y c (PySem.mem_of_lookup h))
 ·have hi:i < vs.length:=by
   unfold start at h2
   by_cases hi:i < vs.length
   ·exact hi
   ·rw [getElem?_append_right (by simpa using hi)] at h2
    rw [List.getElem?_replicate] at h2
    split at h2<;>cases h2
  have ha:vs[i]? = some v:=by
   unfold start at h2
   rw [getElem?_append_left (by simpa using hi),getElem?_map] at h2
   cases e:vs[i]? with
   | none=>rw [e] at h2;cases h2
   | some a=>rw [e] at h2;cases h2;rfl
  obtain ⟨u,hu,rv⟩:=r.get ha
  have hp:ps[i]? = some y:=by
   rw [<- S.pre,List.getElem?_take_of_lt (by omega)];exact h1
  have ndP:ps.Nodup:=by rw [<- S.pre];exact S.nd.sublist (List.take_sublist _ _)
  refine ⟨u,rv,?_⟩
  rcases S.par y (mem_of_getElem? hp) with k | k
  ·exact .inl ⟨k,zX ndP hp hu k⟩
  ·obtain ⟨c,e⟩:=aCN (n:=s.heap.objs.size + 1) k
   refine .inr ⟨.inl k,c,e,?_⟩
   have q:=x.cell y c e
   rw [aAb ndP hp hu (by show scope.names.lookup y ≠ _;rw [k];decide)] at q
   exact q
 ·exact e0.hok.fresh (Nat.le_of_lt (x.above y c (PySem.mem_of_lookup h)))
 ·unfold start
  show _ = N.length
  rw [length_append,length_map,List.length_replicate]
  omega
theorem aF8 {CX:CXT} {P:Program} {w:World} {K:Frag} {mg:Str->Option Value} {base:Heap} {k:Nat} {f:Addr} {name qual:Str} {params:Arguments} {body:List Stmt} {scope:Scope} {dV kV doc pm cdv ct oc:Value} {an od:Option Addr}
  {osl:Array (Option Value)} {N ps:List Str} {sp:Sp} (lk:K.lookup f = some ⟨oc,od,.func (fnOf name qual params body scope dV kV doc pm an cdv ct),osl⟩) (hcd:codeIn K cdv qual = true) (S:aR N ps scope)
  (len:∀ vs H Q E,sp vs H Q E->vs.length = ps.length)
  (hbody:∀ (A:Around) (outer:List Env) (s:Shared) (H:Hp) (vs:List V) (Q:VK) (E:XK),eD k (A.deeper (envOfC qual scope s.heap.objs.size f cdv))->sp vs H Q E ->
   ∃ t,PSs (jR CX P w K mg base N qual scope f cdv A outer s H E) body t/\t { nx:=fun _ H'=>Q .non H',rt:=Q } (start N vs) H) :
  jE P w K mg base CX (k + 1) f (fnOf name qual params body scope dV kV doc pm an cdv ct) ps sp:=by
 refine ⟨len,fun A outer s H args us vs Q E hr e0 hb r hsp=>?_⟩
 have hl:=len _ _ _ _ hsp
 have KX:K.In s.heap:=e0.mod.kin.keeps fun b o e=>(e0.bs b o e).1
 have lim:s.heap.NoLimit:=e0.mod.nolimit.keeps fun b o e=>(e0.bs b o e).1
 have hkind:∀ y ∈ ps.zip us,scope.names.lookup y.1 = some .local ∨ (scope.names.lookup y.1 = some .cell/\((cellsFrom (s.heap.objs.size + 1) scope.names []).lookup y.1).isSome = true):=fun ⟨n,v⟩ hy=>by
  rcases S.par n (List.of_mem_zip hy).1 with q | q
  ·exact .inl q
  ·exact .inr ⟨q,PySem.W.cellsFrom_some _ _ _ (.inl q)⟩
 refine codeAny_call_function hr.depth (KX _ _ lk) rfl S.co S.gen rfl (PySem.W.codeRec_of KX hcd) (hb _ _ _ _ ?_)
 refine wpAny_newFunctionEnv_cells S.kind hkind fun env he s1 x=>?_
 subst he
 refine ⟨lim.keeps x.toInCall.keep,codeAny_func ?_⟩
 obtain ⟨t,ht,hq⟩:=hbody A outer s H vs Q E (hr.deeper _) hsp
 have I:Inv (jR CX P w K mg base N qual scope f cdv A outer s H E) [] (start N vs) H s1:=aEH S hr.hd e0 hl r x
 refine wpAny_mono (ht [] s1 (start N vs) H _ I hq) (fun fl s' hs=>?_) fun e s' hs=>hs
 have fin:∀ {σ':St} {H':Hp} {v:V} {u:Value},Inv (jR CX P w K mg base N qual scope f cdv A outer s H E) [] σ' H' s'->cS v u->Q v H'->CE outer P w H s Q u s' :=
  fun {σ' H' v u} J rv q=>⟨v,H',J.os,J.bare,J.base,J.hok,rv,q⟩
 cases fl with
 | ret u =>
  obtain ⟨v,σ',H',J,rv,q⟩:=hs
  exact fin J rv q
 | next =>
  obtain ⟨σ',H',J,q⟩:=hs
  exact fin (v:=V.non) (u:=Value.none) J rfl q
 | brk =>
  obtain ⟨_,_,_,q⟩:=hs
  exact False.elim q
 | cont =>
  obtain ⟨_,_,_,q⟩:=hs
  exact False.elim q
section
variable {X:Cx} {x:Str} {p pos:Pos} {e:Expr} {es:List Expr} {t:TA} {id T:String} {r:List V->Hp->VK->Prop}
def tCB (r:List V->Hp->VK->Prop) (t:TA):TE:=fun σ H Q=>t σ H fun vs H1=>r vs H1 Q
theorem aCb (hc:lK X (.builtin id) r) (hg:Gl X x) (hm:X.mg x = none) (hv:bootBuiltins x = some (.builtin id)) (ha:PA X (e :: es) t) (hn:x ≠ "__name__":=by decide) (hdb:(x == ("__debug__":Str)) = false:=by decide)
  (he:starEach (e :: es) X.env = (false,eval e X.env) :: starEach es X.env:=by rfl) (hpl:(backTo pos (starEach es X.env)).any (·.1) = false:=by rfl):PE X (.Call (.Name x p) (e :: es) [] pos) (tCB r t):=by
 intro pins s σ H Q I h
 refine wpAny_Call_Name_kw (xR I hg hm hv ?_ hn hdb)
 exact PyProof.Rows.callWith_builtin1 (thn (ha pos pins s σ H _ I h) fun us s1 ⟨vs,H1,I1,r1,q1⟩=>hc pins s1 σ H1 vs us Q I1 r1 q1) he hpl
theorem aE9 (hc:lK X (.type T) r) (hg:Gl X x) (hm:X.mg x = none) (hv:bootBuiltins x = some (.type T)) (ha:PA X (e :: es) t) (hn:x ≠ "__name__":=by decide) (hdb:(x == ("__debug__":Str)) = false:=by decide)
  (he:starEach (e :: es) X.env = (false,eval e X.env) :: starEach es X.env:=by rfl) (hpl:(backTo pos (starEach es X.env)).any (·.1) = false:=by rfl):PE X (.Call (.Name x p) (e :: es) [] pos) (tCB r t):=by
 intro pins s σ H Q I h
 refine wpAny_Call_Name_kw (xR I hg hm hv ?_ hn hdb)
 exact PyProof.Rows.callWith_type1 (thn (ha pos pins s σ H _ I h) fun us s1 ⟨vs,H1,I1,r1,q1⟩=>hc pins s1 σ H1 vs us Q I1 r1 q1) he hpl
end
end L2
namespace HT
open PySem PyProof.Rows
section
open PySem.SeqAt
open PySem.AutoSeq1 (wpAny_loadPart')
open PySem.MeetsSeq PySem.MeetsSeq2 PySem.MeetsSeq3
end
section
variable {prog:Program} {w:World} {A:Around} {E:Value->Shared->Prop} {s:Shared}
theorem cat_tup {t b:Addr} {vs ws:List Value} {Q:Value->Shared->Prop} (ht:IsTup s.heap t vs.toArray) (hb:IsTup s.heap b ws.toArray) (hv:vs ≠ [])
  (h1:ws = []->Q (.ref t) s) (h2:ws ≠ []->Q (.ref s.heap.objs.size) { s with heap:=s.heap.push { cls:=.type "tuple",data:=.seq (vs ++ ws).toArray } })
  (hsz:vs.length + ws.length<=sizeLine):wpAny (model prog w) A (binaryOp .Add (.ref t) (.ref b)) Q E s:=by
 obtain ⟨⟨cls,dd,data,sl⟩,ho,hc,n,hd⟩:=id ht
 obtain ⟨⟨cls2,dd2,data2,sl2⟩,ho2,hc2,n2,hd2⟩:=id hb
 simp only at hc hd hc2 hd2
 subst hc hd hc2 hd2
 have e:vs.toArray ++ ws.toArray = (vs ++ ws).toArray:=by simp
 by_cases hw:ws = []
 ·exact concat_meets ⟨_,ho,rfl⟩ ⟨_,ho2,rfl⟩ noFill_tuple_add seq_tuple_add PySem.F.slot_tuple_add PySem.F.entry_tuple_add (PySem.F.args_tuple_add_2 _ _)
   (tuple_addW1 t b vs.toArray ws.toArray n n2 dd dd2 sl sl2 (by simpa using hv) (by simp [hw])) ⟨ho,ho2,h1 hw⟩
 ·refine concat_meets ⟨_,ho,rfl⟩ ⟨_,ho2,rfl⟩ noFill_tuple_add seq_tuple_add PySem.F.slot_tuple_add PySem.F.entry_tuple_add (PySem.F.args_tuple_add_2 _ _)
   (tuple_addW2 t b vs.toArray ws.toArray n n2 dd dd2 sl sl2 (by simpa using hv) (by simpa using hw) (by rw [size_toArray,size_toArray];exact hsz)) ⟨ho,ho2,?_⟩
  rw [e]
  exact h2 hw
noncomputable def sIx (n d:Nat):Option Int->Nat
 | none=>d
 | some v=>if v < 0 then (v + (n:Int)).toNat else min v.toNat n
theorem sIx_none (n d:Nat):sIx n d none = d:=rfl
theorem sIx_nat (n d k:Nat):sIx n d (some (k:Int)) = min k n:=by
 show (if (k:Int) < 0 then ((k:Int) + (n:Int)).toNat else min (k:Int).toNat n) = min k n
 rw [if_neg (by omega),Int.toNat_natCast]
theorem aKk (n d:Nat) (hd:d<=n) (o:Option Int):sIx n d o<=n:=by
 cases o with
 | none=>exact hd
 | some v =>
  show (if v < 0 then (v + (n:Int)).toNat else min v.toNat n)<=n
  by_cases hv:v < 0
  ·rw [if_pos hv];omega
  ·rw [if_neg hv];exact Nat.min_le_right _ _
theorem aDY (v:Int) (n d:Nat):(if v < 0 then max (v + (n:Int)) 0 else min v (n:Int)) = ((sIx n d (some v):Nat):Int):=by
 show (if v < 0 then max (v + (n:Int)) 0 else min v (n:Int)) = (((if v < 0 then (v + (n:Int)).toNat else min v.toNat n):Nat):Int)
 by_cases hv:v < 0
 ·simp only [if_pos hv];omega
 ·simp only [if_neg hv];omega
theorem aC7 (lo hi:Option Int) (n:Nat):Builtin.Slice.sliceAdjust lo hi 1 (n:Int) = (((sIx n 0 lo:Nat):Int),((sIx n n hi:Nat):Int)):=by
 have h1:¬ ((1:Int) < 0):=by omega
 unfold Builtin.Slice.sliceAdjust
 simp only [h1,if_false]
 refine Prod.ext ?_ ?_
 ·cases lo with
  | none=>rfl
  | some v=>exact aDY v n 0
 ·cases hi with
  | none=>rfl
  | some v=>exact aDY v n n
theorem aDg (i j:Nat):Builtin.Slice.slicePlaces (i:Int) (j:Int) 1 = j - i:=by
 unfold Builtin.Slice.slicePlaces
 have h1:(1:Int) > 0:=by omega
 simp only [h1,if_true,Int.ediv_one]
 split<;>omega
theorem yV {v:Value} {o:Option Int} {Q:Option Int->Shared->Prop} (p:IsPart v o) (h:Q o s):wpAny (model prog w) A (Builtin.Slice.slicePartIndex v) Q E s:=by
 cases p with
 | none=>exact slicePart_none h
 | int i t=>exact slicePart_int h
theorem lQ {sl:Addr} {vl vu:Value} {lo hi:Option Int} {n:Nat} {Q:Int × Int × Nat->Shared->Prop} (hs:s.heap.IsSliceOf sl vl vu .none) (pl:IsPart vl lo) (pu:IsPart vu hi)
  (h:Q (((sIx n 0 lo:Nat):Int),1,sIx n n hi - sIx n 0 lo) s):wpAny (model prog w) A (Builtin.Slice.sliceApplied (.ref sl) (pure (n:Int))) Q E s:=by
 obtain ⟨os,hos,hcs,hds⟩:=id hs
 unfold Builtin.Slice.sliceApplied Builtin.Slice.sliceFields
 refine wpAny_bind (wpAny_bind (wpAny_field hos hds (x:=vl) rfl (wpAny_bind (wpAny_field hos hds (x:=vu) rfl (wpAny_bind (wpAny_field hos hds (x:=.none) rfl (wpAny_pure ?_)))))))
 refine wpAny_bind (slicePart_none ?_)
 show wpAny _ _ (if ((1:Int) == 0) = true then _ else _) _ _ s
 rw [if_neg (by decide)]
 refine wpAny_bind (yV pl (wpAny_bind (yV pu (wpAny_bind (wpAny_pure ?_)))))
 show wpAny _ _ (match Builtin.Slice.sliceAdjust lo hi 1 (n:Int) with | (lo,hi)=>pure (lo,(1:Int),Builtin.Slice.slicePlaces lo hi 1)) _ _ s
 rw [aC7 lo hi n]
 show wpAny _ _ (pure (((sIx n 0 lo:Nat):Int),(1:Int),Builtin.Slice.slicePlaces ((sIx n 0 lo:Nat):Int) ((sIx n n hi:Nat):Int) 1)) _ _ s
 rw [aDg]
 exact wpAny_pure h
theorem aHw (xs:Array Value) (i k:Nat):((range k).filterMap fun (m:Nat)=>xs[((i:Int) + (m:Int) * 1).toNat]?).toArray = ((xs.toList.drop i).take k).toArray:=by
 have e:(fun (m:Nat)=>xs[((i:Int) + (m:Int) * 1).toNat]?) = fun m=>xs[i + m]?:=by
  funext m
  have:((i:Int) + (m:Int) * 1).toNat = i + m:=by omega
  rw [this]
 rw [e]
 have:=pick_run xs i k
 rw [List.filterMap_map] at this
 have e2:((fun x=>xs[x]?) ∘ fun x=>i + x) = fun m=>xs[i + m]?:=rfl
 rw [e2] at this
 rw [this]
theorem getItem_tuple_cut {t sl:Addr} {items:Array Value} {vl vu:Value} {lo hi:Option Int} {Q:Value->Shared->Prop} (ht:IsTup s.heap t items) (hs:s.heap.IsSliceOf sl vl vu .none) (pl:IsPart vl lo) (pu:IsPart vu hi)
  (hw:¬ (sIx items.size 0 lo = 0/\sIx items.size items.size hi = items.size))
  (h:Q (.ref s.heap.objs.size) { s with heap:=s.heap.push { cls:=.type "tuple",data:=.seq ((items.toList.drop (sIx items.size 0 lo)).take (sIx items.size items.size hi - sIx items.size 0 lo)).toArray } })
  (hsz:items.size<=sizeLine):wpAny (model prog w) A (getItem (.ref t) (.ref sl)) Q E s:=by
 have htake:sizeOk (.seq ((items.toList.drop (sIx items.size 0 lo)).take (sIx items.size items.size hi - sIx items.size 0 lo)).toArray):=by
  show ((items.toList.drop (sIx items.size 0 lo)).take (sIx items.size items.size hi - sIx items.size 0 lo)).toArray.size<=sizeLine
  rw [size_toArray,length_take,length_drop,Array.length_toList]
  omega
 have hj:sIx items.size items.size hi<=items.size:=aKk _ _ (Nat.le_refl _) hi
 obtain ⟨os,hos,hcs,hds⟩:=id hs
 have hTs:s.TypeIs (.ref sl) "slice":=⟨os,hos,hcs⟩
 unfold getItem
 try with_reducible refine wpAny_holding ?_
 first | refine wpAny_bind (wpAny_pure ?_) | skip
 refine wpAny_bind (wpAny_sequenceKey ht.typeIs (by decide) ?_)
 refine wpAny_bind (wpAny_callSpecial?_slot (name:=Str.ofString "__getitem__") ht.typeIs PyProof.Rows.slot_tuple_getitem
  (wpAny_call_entry PyProof.Rows.slot_tuple_getitem ht.typeIs entry_tuple_getitem ?_ (args_tuple_getitem _ _)))
 show wpAny _ _ (Builtin.Tuple.tupleItemsOf (.ref t) >>= _) _ _ s
 refine wpAny_bind (tupleItemsOf_ ht ?_)
 refine wpAny_bind (wpAny_typeOf hTs ?_)
 rw [if_pos (by decide)]
 refine wpAny_bind (lQ hs pl pu ?_)
 have hno:¬ ((((sIx items.size 0 lo:Nat):Int) == 0 && (1:Int) == 1 && (sIx items.size items.size hi - sIx items.size 0 lo) == items.size) = true):=by
  intro q
  rw [Bool.and_eq_true,Bool.and_eq_true] at q
  have q1:((sIx items.size 0 lo:Nat):Int) = 0:=eq_of_beq q.1.1
  have q2:sIx items.size items.size hi - sIx items.size 0 lo = items.size:=eq_of_beq q.2
  exact hw ⟨by omega,by omega⟩
 show wpAny _ _ (if (((sIx items.size 0 lo:Nat):Int) == 0 && (1:Int) == 1 && (sIx items.size items.size hi - sIx items.size 0 lo) == items.size) = true then _ else _) _ _ s
 rw [if_neg hno,aHw]
 first
  | exact wpAny_bind (m:=Builtin.Tuple.tupleExact _) (wpAny_newObj_type (wpAny_pure ⟨_,rfl,wpAny_pure h⟩) htake)
  | exact wpAny_bind (m:=Builtin.Tuple.tupleExact _) (wpAny_newObj_type (wpAny_bind (wpAny_pure (wpAny_pure ⟨_,rfl,wpAny_pure h⟩))) htake)
  | exact wpAny_bind (wpAny_bind (m:=Builtin.Tuple.tupleExact _) (wpAny_newObj_type (wpAny_pure (wpAny_pure ⟨_,rfl,wpAny_pure h⟩)) htake))
  | exact wpAny_bind (wpAny_bind (m:=Builtin.Tuple.tupleExact _) (wpAny_newObj_type (wpAny_pure ⟨_,rfl,wpAny_pure h⟩) htake))
end
end HT
namespace L2
open PySem PySem.Spec PyProof.Rows
abbrev TO:=St->Hp->(Option Int->Hp->Prop)->Prop
def PO (X:Cx) (e:Option Expr) (t:TO):Prop :=
 ∀ (pins:List (Addr × Obj)) (s:Shared) (σ:St) (H:Hp) (Q:Option Int->Hp->Prop),Inv X pins σ H s->t σ H Q ->
  wpAny (model X.prog X.w) X.A (evalPart e X.env) (fun u s'=>∃ o H',Inv X pins σ H' s'/\IsPart u o/\Q o H') X.xe s
def aH1:TO:=fun _ H Q=>Q none H
def aNV (t:TE):TO:=fun σ H Q=>t σ H fun x H1=>∃ i,x = .int i/\Q (some i) H1
section
variable {X:Cx} {e:Expr} {te:TE} {lo hi:Option Expr} {tl th:TO} {pos p2:Pos}
theorem aI2:PO X none aH1:=by
 intro pins s σ H Q I h
 rw [evalPart_none]
 exact wpAny_pure ⟨none,H,I,.none,h⟩
theorem aHI (h:PE X e te):PO X (some e) (aNV te):=by
 intro pins s σ H Q I hw
 rw [evalPart_some]
 refine thn (h pins s σ H _ I hw) fun u s1 ⟨x,H1,I1,r1,q1⟩=>?_
 obtain ⟨i,rfl,q⟩:=q1
 obtain ⟨t,rfl⟩:=r1
 exact ⟨some i,H1,I1,.int i t,q⟩
def SlR (X:Cx) (r:V->Option Int->Option Int->Hp->VK->Prop):Prop :=
 ∀ (pins:List (Addr × Obj)) (s:Shared) (σ:St) (H:Hp) (x:V) (v vl vu:Value) (lo hi:Option Int) (sl:Addr) (Q:VK),Inv X pins σ H s->cS x v->s.heap.IsSliceOf sl vl vu .none->IsPart vl lo->IsPart vu hi->r x lo hi H Q ->
  ∃ T id,typeLookup (.type T) "__getitem__" = pure (some (.builtin id))/\s.TypeIs v T/\wpAny (model X.prog X.w) X.A (getItem v (.ref sl)) (EP X pins σ Q) X.xe s
theorem SlR.or {r r':V->Option Int->Option Int->Hp->VK->Prop} (h:SlR X r) (h':SlR X r'):SlR X (fun x lo hi H Q=>r x lo hi H Q ∨ r' x lo hi H Q):=by
 intro pins s σ H x v vl vu lo hi sl Q I rx hs pl pu q
 rcases q with q | q
 ·exact h pins s σ H x v vl vu lo hi sl Q I rx hs pl pu q
 ·exact h' pins s σ H x v vl vu lo hi sl Q I rx hs pl pu q
def tSl (r:V->Option Int->Option Int->Hp->VK->Prop) (te:TE) (tl th:TO):TE:=fun σ H Q=>te σ H fun x H1=>tl σ H1 fun l H2=>th σ H2 fun u H3=>r x l u H3 Q
theorem yN {r:V->Option Int->Option Int->Hp->VK->Prop} (hr:SlR X r) (he:PE X e te) (hl:PO X lo tl) (hu:PO X hi th):PE X (.Subscript e (.Slice lo hi none p2) pos) (tSl r te tl th):=by
 intro pins s σ H Q I h
 refine Subscript_ (thn (he pins s σ H _ I h) fun v s1 ⟨x,H1,I1,r1,q1⟩=>?_)
 refine wpAny_Slice (thn (hl pins s1 σ H1 _ I1 q1) fun vl s2 ⟨l,H2,I2,pl,q2⟩=>thn (hu pins s2 σ H2 _ I2 q2) fun vu s3 ⟨u,H3,I3,pu,q3⟩=>?_)
 rw [evalPart_none]
 refine wpAny_pure ?_
 have I4:Inv X pins σ H3 { s3 with heap:=s3.heap.push { cls:=.type "slice",data:=.fields #[vl,vu,.none] } }:=I3.kept (t':=s3.toks) fun b ob q=>Heap.get?_push_of_some _ q
 obtain ⟨T,id,hT,ht,hg⟩:=hr pins { s3 with heap:=s3.heap.push { cls:=.type "slice",data:=.fields #[vl,vu,.none] } } σ H3 x v vl vu l u s3.heap.objs.size Q I4 r1 (Heap.IsSliceOf.new ..) pl pu q3
 show wpAny (model X.prog X.w) X.A (subscriptTail e (.Slice lo hi none p2) v (.ref s3.heap.objs.size)) (EP X pins σ Q) X.xe { s3 with heap:=s3.heap.push { cls:=.type "slice",data:=.fields #[vl,vu,.none] } }
 exact tail_any (ops:=[.ref s3.heap.objs.size,v]) ht hT hg (by with_unfolding_all rfl)
noncomputable def aBY (xs:List V) (lo hi:Option Int):List V:=(xs.drop (HT.sIx xs.length 0 lo)).take (HT.sIx xs.length xs.length hi - HT.sIx xs.length 0 lo)
theorem uY (xs:List V) (lo hi:Option Int):(aBY xs lo hi).length<=xs.length:=by
 unfold aBY
 rw [length_take,length_drop]
 omega
def aO2 (K:Frag):V->Option Int->Option Int->Hp->VK->Prop:=fun x lo hi H Q=>∃ a xs,x = .ref a/\SqT K H a xs /\
 ¬ (HT.sIx xs.length 0 lo = 0/\HT.sIx xs.length xs.length hi = xs.length)/\∀ p,H p = none->Q (.ref p) (upd H p (.tup (aBY xs lo hi)))
theorem aKl:SlR X (aO2 X.K):=by
 intro pins s σ H x v vl vu lo hi sl Q I rx hs pl pu h
 obtain ⟨a,xs,rfl,hx,hw,q⟩:=h
 cases rx
 obtain ⟨its,r,ht,hz⟩:=I.tuple hx
 have hlen:its.toArray.size = xs.length:=by rw [size_toArray];exact r.length.symm
 refine ⟨"tuple",_,PyProof.Rows.slot_tuple_getitem.lookup,ht.typeIs,?_⟩
 refine HT.getItem_tuple_cut ht hs pl pu (by rw [hlen];exact hw) ?_ (by rw [hlen];exact hz)
 rw [hlen]
 refine ⟨.ref s.heap.objs.size,_,I.laid (t':=s.toks) (o:=.tup (aBY xs lo hi)) (fun b ob q=>Heap.get?_push_of_some _ q) (Nat.le_refl _) ?_,rfl,q _ (I.hok.fresh (Nat.le_refl _))⟩
 exact ⟨Nat.le_trans (uY xs lo hi) hz,_,(r.drop (HT.sIx xs.length 0 lo)).take (HT.sIx xs.length xs.length hi - HT.sIx xs.length 0 lo),IsTup.new _ _⟩
def aOk (K:Frag):R2:=fun x y H Q=>∃ a b xs ys,x = .ref a/\y = .ref b/\SqT K H a xs/\SqT K H b ys/\xs ≠ []/\xs.length + ys.length<=sizeLine /\
 (ys = []->Q (.ref a) H)/\(ys ≠ []->∀ p,H p = none->Q (.ref p) (upd H p (.tup (xs ++ ys))))
theorem cG.nil_iff {xs:List V} {us:List Value} (r:cG xs us):us = [] ↔ xs = []:=by
 cases r with
 | nil=>simp
 | cons _ _=>simp
theorem aD6:OpR X (binaryOp .Add) (aOk X.K):=by
 intro pins s σ H x y v u Q I rx ry h
 obtain ⟨a,b,xs,ys,rfl,rfl,ha,hb,hx,hz,q1,q2⟩:=h
 cases rx
 cases ry
 obtain ⟨its,r1,p1,_⟩:=I.tuple ha
 obtain ⟨its2,r2,p2,_⟩:=I.tuple hb
 refine HT.cat_tup p1 p2 (fun z=>hx (r1.nil_iff.mp z)) (fun z=>⟨.ref a,H,I,rfl,q1 (r2.nil_iff.mp z)⟩) (fun z=>?_) (by rw [<- r1.length,<- r2.length];exact hz)
 refine ⟨.ref s.heap.objs.size,_,I.laid (t':=s.toks) (o:=.tup (xs ++ ys)) (fun b ob q=>Heap.get?_push_of_some _ q) (Nat.le_refl _) ?_,rfl,q2 (fun w=>z (r2.nil_iff.mpr w)) _ (I.hok.fresh (Nat.le_refl _))⟩
 exact ⟨by rw [length_append];exact hz,_,r1.append r2,IsTup.new _ _⟩
end
noncomputable def ixN (n:Nat) (i:Int):Option Nat:=if 0<=i then (if i < n then some i.toNat else none) else if -(n:Int)<=i then some (i + n).toNat else none
noncomputable def atI {α:Type} (xs:List α) (i:Int):Option α:=(ixN xs.length i).bind fun j=>xs[j]?
theorem aHU {n:Nat} {i:Int} {j:Nat} (h:ixN n i = some j):seqIndex? i n = some j/\j < n/\-(n:Int)<=i/\i < n:=by
 unfold ixN at h
 by_cases h0:0<=i
 ·rw [if_pos h0] at h
  by_cases h1:i < n
  ·rw [if_pos h1] at h
   have e:i.toNat = j:=Option.some.inj h
   exact ⟨by rw [seqIndex_of h0 h1,e],by omega,by omega,h1⟩
  ·rw [if_neg h1] at h;cases h
 ·rw [if_neg h0] at h
  by_cases h1:-(n:Int)<=i
  ·rw [if_pos h1] at h
   have e:(i + n).toNat = j:=Option.some.inj h
   exact ⟨by rw [seqIndex_neg (by omega) h1,e],by omega,h1,by omega⟩
  ·rw [if_neg h1] at h;cases h
theorem aEh {α:Type} {xs:List α} {i:Int} {v:α} (h:atI xs i = some v):∃ j,seqIndex? i xs.length = some j/\xs[j]? = some v/\j < xs.length/\-(xs.length:Int)<=i/\i < xs.length:=by
 unfold atI at h
 cases e:ixN xs.length i with
 | none=>rw [e] at h;cases h
 | some j =>
  rw [e] at h
  obtain ⟨h1,h2,h3,h4⟩:=aHU e
  exact ⟨j,h1,h,h2,h3,h4⟩
theorem aD1 {α:Type} {xs:List α} {j:Nat} {v:α} (h:xs[j]? = some v):atI xs (j:Int) = some v:=by
 have hj:j < xs.length:=(List.getElem?_eq_some_iff.mp h).1
 have e:ixN xs.length (j:Int) = some j:=by
  unfold ixN
  rw [if_pos (by omega),if_pos (by omega)];simp
 unfold atI;rw [e];exact h
def sV (b:Expr):Prop:=∀ o i,subscripted b false o i = operate [o,i] (getItem o i)
def IxR (X:Cx) (r:R2):Prop :=
 ∀ (value slice:Expr) (pins:List (Addr × Obj)) (s:Shared) (σ:St) (H:Hp) (x y:V) (v u:Value) (Q:VK),Inv X pins σ H s->cS x v->cS y u->r x y H Q ->
  subscripted slice false v u = operate [v,u] (getItem v u)->wpAny (model X.prog X.w) X.A (subscriptTail value slice v u) (EP X pins σ Q) X.xe s
def MtR (X:Cx) (id:String) (r:V->List V->Hp->VK->Prop):Prop :=
 ∀ (pins:List (Addr × Obj)) (s:Shared) (σ:St) (H:Hp) (x:V) (xs:List V) (v:Value) (us:List Value) (Q:VK),Inv X pins σ H s->cS x v->cG xs us->r x xs H Q ->
  wpAny (model X.prog X.w) X.A (call (.builtin id) (v :: us)) (EP X pins σ Q) X.xe s
section
variable {X:Cx} {a b:Expr} {ta tb:TE} {pos:Pos}
theorem aOv {r:R2} (hr:IxR X r) (ha:PE X a ta) (hb:PE X b tb) (hs:sV b):PE X (.Subscript a b pos) (tOp r ta tb):=by
 intro pins s σ H Q I h
 exact Subscript_ (aKE ha hb I h fun v u s2 x y H2 I2 rx ry q=>hr a b pins s2 σ H2 x y v u Q I2 rx ry q (hs _ _))
def aOY (K:Frag):R2:=fun x y H Q=>∃ p xs i v,x = .ref p/\y = .int i/\SqL K H p xs/\atI xs i = some v/\Q v H
def aPa (K:Frag):R2:=fun x y H Q=>∃ p xs i v,x = .ref p/\y = .int i/\SqT K H p xs/\atI xs i = some v/\Q v H
theorem aDT:IxR X (aOY X.K):=by
 intro value slice pins s σ H x y v u Q I rx ry h hs
 obtain ⟨p,xs,i,z,rfl,rfl,hq,he,q⟩:=h
 cases rx
 obtain ⟨t,rfl⟩:=ry
 obtain ⟨its,r,pl,hz⟩:=I.list hq
 obtain ⟨j,h1,h2,h3,h4,h5⟩:=aEh he
 obtain ⟨w,ew,rw'⟩:=r.get h2
 have hl:=r.length
 have hn:=aDc
 have fin:EP X pins σ Q w s:=⟨z,H,I,rw',q⟩
 by_cases h0:0<=i
 ·have hj:i.toNat = j:=by
   rw [seqIndex_of h0 h5] at h1
   exact Option.some.inj h1
  exact item_listR pl.isList h0 (by omega) (by rw [hj];simpa using ew) fin hs
 ·have hj:(i + (its.toArray.size:Int)).toNat = j:=by
   rw [seqIndex_neg (by omega) h4] at h1
   rw [size_toArray,<- hl]
   exact Option.some.inj h1
  exact subscriptTail_builtinR (x:=w) pl.isList.typeIs slot_list_getitem.lookup
   (wpAny_getItem_list_neg (Q:=fun r s'=>r = w/\EP X pins σ Q r s') pl.isList (by omega) (by rw [size_toArray]<;>omega) (by omega) (by rw [hj];simpa using ew) ⟨rfl,fin⟩) hs
theorem aLM:IxR X (aPa X.K):=by
 intro value slice pins s σ H x y v u Q I rx ry h hs
 obtain ⟨p,xs,i,z,rfl,rfl,hq,he,q⟩:=h
 cases rx
 obtain ⟨t,rfl⟩:=ry
 obtain ⟨its,r,pl,hz⟩:=I.tuple hq
 obtain ⟨j,h1,h2,h3,h4,h5⟩:=aEh he
 obtain ⟨w,ew,rw'⟩:=r.get h2
 have hl:=r.length
 have hn:=aDc
 have fin:EP X pins σ Q w s:=⟨z,H,I,rw',q⟩
 exact subscriptTail_builtinR (x:=w) pl.typeIs slot_tuple_getitem.lookup
  (getItem_tuple (j:=j) (Q:=fun r s'=>r = w/\EP X pins σ Q r s') pl (by omega) (by omega) (by rw [size_toArray,<- hl];exact h1) (by simpa using ew) ⟨rfl,fin⟩) hs
theorem aBn (lo hi:Option Int) (n:Nat):(sliceBounds lo hi none n).1 = ((HT.sIx n 0 lo:Nat):Int)/\(sliceBounds lo hi none n).2.1 = ((HT.sIx n n hi:Nat):Int)/\(sliceBounds lo hi none n).2.2 = 1:=by
 refine ⟨?_,?_,rfl⟩
 ·cases lo with
  | none=>simp [sliceBounds,HT.sIx]
  | some i =>
   simp only [sliceBounds,HT.sIx,Option.getD_none,show (1:Int) > 0 by decide,if_true]
   by_cases h:i < 0
   ·simp only [h,if_true]<;>omega
   ·simp only [h,if_false]<;>omega
 ·cases hi with
  | none=>simp [sliceBounds,HT.sIx]
  | some i =>
   simp only [sliceBounds,HT.sIx,Option.getD_none,show (1:Int) > 0 by decide,if_true]
   by_cases h:i < 0
   ·simp only [h,if_true]<;>omega
   ·simp only [h,if_false]<;>omega
theorem zJ (its:List Value) (lo hi:Option Int):slicePick its.toArray lo hi none = ((its.drop (HT.sIx its.length 0 lo)).take (HT.sIx its.length its.length hi - HT.sIx its.length 0 lo)).toArray:=by
 obtain ⟨h1,h2,h3⟩:=aBn lo hi its.toArray.size
 unfold slicePick
 rw [h1,h2,h3]
 simp only [sliceRange_one,pick_run,size_toArray]<;>rfl
def aPn (K:Frag):V->Option Int->Option Int->Hp->VK->Prop:=fun x lo hi H Q=>∃ a xs,x = .ref a/\SqL K H a xs/\∀ p,H p = none->Q (.ref p) (upd H p (.lst (aBY xs lo hi)))
theorem aIn:SlR X (aPn X.K):=by
 intro pins s σ H x v vl vu lo hi sl Q I rx hs pl pu h
 obtain ⟨a,xs,rfl,hx,q⟩:=h
 cases rx
 obtain ⟨its,r,ht,hz⟩:=I.list hx
 have hlen:=r.length
 refine ⟨"list",_,slot_list_getitem.lookup,ht.isList.typeIs,?_⟩
 refine wpAny_getItem_list_slice ht.isList hs pl pu .none (by simp) ?_ (by rw [size_toArray]<;>omega)
 rw [zJ,<- hlen]
 refine ⟨.ref s.heap.objs.size,_,I.laid (t':=s.toks) (o:=.lst (aBY xs lo hi)) (fun b ob q=>Heap.get?_push_of_some _ q) (Nat.le_refl _) ?_,rfl,q _ (I.hok.fresh (Nat.le_refl _))⟩
 exact ⟨Nat.le_trans (uY xs lo hi) hz,_,0,(r.drop (HT.sIx xs.length 0 lo)).take (HT.sIx xs.length xs.length hi - HT.sIx xs.length 0 lo),Heap.get?_push_size _ rfl⟩
noncomputable def aFd:V->Bool
 | .non=>true
 | .bl _=>true
 | .int _=>true
 | .str _=>true
 | _=>false
noncomputable def eqV:V->V->Bool
 | .non,.non=>true
 | .bl a,.bl b=>a == b
 | .bl a,.int b=>(if a then 1 else 0) == b
 | .int a,.bl b=>a == (if b then 1 else 0)
 | .int a,.int b=>a == b
 | .str a,.str b=>a == b
 | _,_=>false
theorem aFw {A:Around} {s:Shared} {y x:V} {u v:Value} (ry:cS y u) (rx:cS x v) (fy:aFd y = true) (fx:aFd x = true):SeqAt.EqAt A s u v (eqV y x):=by
 cases y with
 | non =>
  cases ry
  cases x with
  | non=>cases rx;exact SeqAt.EqAt.same _
  | bl b=>cases rx;exact SeqAt.EqAt.none_bool b
  | int b=>obtain ⟨t,rfl⟩:=rx;exact SeqAt.EqAt.none_int b t
  | str b=>obtain ⟨t,rfl⟩:=rx;exact SeqAt.EqAt.none_str b t
  | _=>exact absurd (show false = true from fx) Bool.false_ne_true
 | bl a =>
  cases ry
  cases x with
  | non=>cases rx;exact SeqAt.EqAt.bool_none a
  | bl b=>cases rx;exact SeqAt.EqAt.bool_bool a b
  | int b=>obtain ⟨t,rfl⟩:=rx;exact SeqAt.EqAt.bool_int a b t
  | str b=>obtain ⟨t,rfl⟩:=rx;exact SeqAt.EqAt.bool_str a b t
  | _=>exact absurd (show false = true from fx) Bool.false_ne_true
 | int a =>
  obtain ⟨t',rfl⟩:=ry
  cases x with
  | non=>cases rx;exact SeqAt.EqAt.int_none a t'
  | bl b=>cases rx;exact SeqAt.EqAt.int_bool a t' b
  | int b=>obtain ⟨t,rfl⟩:=rx;exact SeqAt.EqAt.int_int a t' b t
  | str b=>obtain ⟨t,rfl⟩:=rx;exact SeqAt.EqAt.int_str a t' b t
  | _=>exact absurd (show false = true from fx) Bool.false_ne_true
 | str a =>
  obtain ⟨t',rfl⟩:=ry
  cases x with
  | non=>cases rx;exact SeqAt.EqAt.str_none a t'
  | bl b=>cases rx;exact SeqAt.EqAt.str_bool a t' b
  | int b=>obtain ⟨t,rfl⟩:=rx;exact SeqAt.EqAt.str_int a t' b t
  | str b=>obtain ⟨t,rfl⟩:=rx;exact SeqAt.EqAt.str_str a t' b t
  | _=>exact absurd (show false = true from fx) Bool.false_ne_true
 | _=>exact absurd (show false = true from fy) Bool.false_ne_true
theorem aBe:lK X (.builtin "len") (fun xs H Q=>∃ p ys,xs = [.ref p]/\(SqL X.K H p ys ∨ SqT X.K H p ys)/\Q (.int ys.length) H):=by
 intro pins s σ H xs us Q I r h
 obtain ⟨p,ys,rfl,hq,q⟩:=h
 obtain ⟨u,rfl,rx⟩:=sR r
 cases rx
 have hn:=aDc
 rcases hq with hq | hq
 ·obtain ⟨its,r',pl,hz⟩:=I.list hq
  have hlen:=r'.length
  exact Calls.call_len_list pl.isList (by simp only [size_toArray]<;>omega) ⟨.int ys.length,H,I.tok _,⟨s.toks + 1,by rw [size_toArray,hlen]⟩,q⟩
 ·obtain ⟨its,r',pl,hz⟩:=I.tuple hq
  have hlen:=r'.length
  exact len_tuple pl (by simp only [size_toArray]<;>omega) ⟨.int ys.length,H,I.tok _,⟨s.toks + 1,by rw [size_toArray,hlen]⟩,q⟩
theorem zE:lK X (.type "tuple") (fun xs H Q=>∃ p ys,xs = [.ref p]/\((SqL X.K H p ys/\∀ l,H l = none->Q (.ref l) (upd H l (.tup ys))) ∨ (SqT X.K H p ys/\Q (.ref p) H))):=by
 intro pins s σ H xs us Q I r h
 obtain ⟨p,ys,rfl,h⟩:=h
 obtain ⟨u,rfl,rx⟩:=sR r
 cases rx
 rcases h with ⟨hq,q⟩ | ⟨hq,q⟩
 ·obtain ⟨its,r',pl,hz⟩:=I.list hq
  have hlen:=r'.length
  refine call_tuple_list pl.isList (fun h' kp=>?_) (by simp only [size_toArray]<;>omega)
  have I1:Inv X pins σ H { s with heap:=h' }:=I.kept (t':=s.toks) kp
  have I2:Inv X pins σ (upd H h'.objs.size (.tup ys)) { s with heap:=h'.push { cls:=.type "tuple",data:=.seq its.toArray } } :=
   I1.laid (t':=s.toks) (fun b o e=>Heap.get?_push_of_some _ e) (Nat.le_refl _) (show fO X.prog X.w _ _ _ (.tup ys) from ⟨hz,its,r',IsTup.new _ _⟩)
  exact ⟨.ref h'.objs.size,_,I2,rfl,q _ (I1.hok.fresh (Nat.le_refl _))⟩
 ·obtain ⟨its,r',pl,hz⟩:=I.tuple hq
  exact call_tuple_same pl ⟨.ref p,H,I,rfl,q⟩
def tyV (K:Frag) (T:String) (x:V) (H:Hp):Prop:=match x with
 | .str _=>T = "str"
 | .int _=>T = "int"
 | .ref p=>(T = "list"/\∃ xs,SqL K H p xs) ∨ (T = "tuple"/\∃ o,K.lookup p = some o/\o.cls = .type "tuple"/\o.dict = none) ∨
   (T = "dict"/\((∃ kvs,H p = some (.dK kvs)) ∨ ∃ kvs,H p = some (.dT kvs))) ∨ (T = "set"/\∃ S n,H p = some (.set S n))
 | _=>False
theorem aFM {pins:List (Addr × Obj)} {σ:St} {H:Hp} {s:Shared} {T:String} {x:V} {v:Value} (I:Inv X pins σ H s) (r:cS x v) (ty:tyV X.K T x H) :
  s.TypeIs v T/\∀ a,v = .ref a->∃ ob,s.heap.get? a = some ob/\ob.dict = none:=by
 cases x with
 | str z =>
  obtain ⟨t,rfl⟩:=r
  cases (show T = "str" from ty)
  exact ⟨typeIs_str s z t,fun _ e=>nomatch e⟩
 | int i =>
  obtain ⟨t,rfl⟩:=r
  cases (show T = "int" from ty)
  exact ⟨typeIs_int s i t,fun _ e=>nomatch e⟩
 | ref p =>
  cases r
  rcases ty with ⟨rfl,xs,hq⟩ | ⟨rfl,o,hk,hc,hd⟩ | ⟨rfl,hk⟩ | ⟨rfl,S,n,hk⟩
  ·obtain ⟨its,_,pl,_⟩:=I.list hq
   refine ⟨pl.isList.typeIs,fun a e=>?_⟩
   cases e
   obtain ⟨o,n,e,c,hd,_⟩:=pl
   exact ⟨o,e,hd⟩
  ·refine ⟨⟨o,I.kIn p o hk,hc⟩,fun a e=>?_⟩
   cases e
   exact ⟨o,I.kIn _ o hk,hd⟩
  ·have z:∃ o,s.heap.get? p = some o/\o.ExactDict:=by
    rcases hk with ⟨kvs,hk⟩ | ⟨kvs,hk⟩
    ·obtain ⟨_,_,_,_,o,_,_,e,ex,_⟩:=I.hok p _ hk
     exact ⟨o,e,ex⟩
    ·obtain ⟨_,_,_,_,o,_,_,e,ex,_⟩:=I.hok p _ hk
     exact ⟨o,e,ex⟩
   obtain ⟨o,e,ex⟩:=z
   refine ⟨⟨o,e,ex.1⟩,fun a e2=>?_⟩
   cases e2
   exact ⟨o,e,ex.2.1⟩
  ·obtain ⟨o,_,_,_,e,ex,_⟩:=I.hok p _ hk
   refine ⟨⟨o,e,ex.1⟩,fun a e2=>?_⟩
   cases e2
   exact ⟨o,e,ex.2.1⟩
 | _=>exact False.elim ty
def aOP (K:Frag) (T:String) (r:V->List V->Hp->VK->Prop) (to:TE):TE:=fun σ H Q=>to σ H fun x H1=>tyV K T x H1/\r x [] H1 Q
def tBM (K:Frag) (T:String) (r:V->List V->Hp->VK->Prop) (to:TE) (t:TA):TE:=fun σ H Q=>to σ H fun x H1=>tyV K T x H1/\t σ H1 fun xs H2=>r x xs H2 Q
variable {o e:Expr} {es:List Expr} {to:TE} {t:TA} {name:Str} {apos cpos:Pos} {T id:String} {r:V->List V->Hp->VK->Prop}
theorem aDp (pa:PlainAttrs T) (slot:Slot T name id) (hty:typeOf (.builtin id) = pure (.type "method_descriptor")) (hm:MtR X id r) (ho:PE X o to)
  (hbase:attributeBase o name X.env (eval o X.env) = eval o X.env:=by rfl) (hline:(apos.endLine == cpos.line) = true:=by rfl):PE X (.Call (.Attribute o name apos) [] [] cpos) (aOP X.K T r to):=by
 intro pins s σ H Q I h
 refine wpAny_Call_method0_late hbase hline (thn (ho pins s σ H _ I h) fun v s1 ⟨x,H1,I1,r1,ty,q1⟩=>?_)
 obtain ⟨h1,h2⟩:=aFM I1 r1 ty
 exact ⟨T,id,pa,slot,hty,h1,h2,Calls.callWith_builtin rfl (PySem.evalArgs_none (hm pins s1 σ H1 x [] v [] Q I1 r1 .nil q1))⟩
theorem aB1 (pa:PlainAttrs T) (slot:Slot T name id) (hty:typeOf (.builtin id) = pure (.type "method_descriptor")) (hm:MtR X id r) (ho:PE X o to) (ha:PA X (e :: es) t)
  (hbase:attributeBase o name X.env (eval o X.env) = eval o X.env:=by rfl)
  (hfew:((backTo cpos (starEach (e :: es) X.env)).all (fun x=>!x.1) && (backToKw cpos (keywordEach [] X.env)).all (fun x=>x.1.isSome)
   && decide ((e :: es).length + ([]:List Keyword).length + (if ([]:List Keyword).isEmpty then 0 else 1) < 30)) = true:=by rfl)
  (hline:(apos.endLine == cpos.line) = true:=by rfl) (hs:starEach (e :: es) X.env = (false,eval e X.env) :: starEach es X.env:=by rfl) (hplain:(backTo cpos (starEach es X.env)).any (·.1) = false:=by rfl) :
  PE X (.Call (.Attribute o name apos) (e :: es) [] cpos) (tBM X.K T r to t):=by
 intro pins s σ H Q I h
 refine wpAny_Call_method_late hbase hfew hline rfl (thn (ho pins s σ H _ I h) fun v s1 ⟨x,H1,I1,r1,ty,q1⟩=>?_)
 obtain ⟨h1,h2⟩:=aFM I1 r1 ty
 refine ⟨T,id,pa,slot,hty,h1,h2,?_⟩
 have hA:=ha cpos pins s1 σ H1 _ I1 q1
 rw [hs] at hA ⊢
 refine Calls.callWith_builtin (by show (false || (backTo cpos (starEach es X.env)).any (·.1)) = false;rw [hplain]<;>rfl) (Calls.evalArgs_plain ?_)
 exact thn hA fun us s2 ⟨vs,H2,I2,r2,q2⟩=>hm pins s2 σ H2 x vs v us Q I2 r1 r2 q2
end
def MtM (X:Cx) (id:String) (r:V->List V->Hp->VK->Prop):Prop :=
 ∀ (pins:List (Addr × Obj)) (s:Shared) (σ:St) (H:Hp) (x:V) (xs:List V) (v:Value) (us:List Value) (Q:VK),Inv X pins σ H s->cS x v->cG xs us->r x xs H Q ->
  wpAny (model X.prog X.w) X.A (call (.builtin id) (v :: us)) (EP X pins σ Q) X.xe s
theorem cG.one:∀ {x:V} {us:List Value},cG [x] us->∃ u,us = [u]/\cS x u
 | _,_,.cons r .nil=>⟨_,rfl,r⟩
theorem cG.two:∀ {x y:V} {us:List Value},cG [x,y] us->∃ u v,us = [u,v]/\cS x u/\cS y v
 | _,_,_,.cons r (.cons q .nil)=>⟨_,_,rfl,r,q⟩
theorem cG.zero:∀ {us:List Value},cG [] us->us = []
 | _,.nil=>rfl
theorem cG.dropLast {xs:List V} {us:List Value} (h:cG xs us):cG xs.dropLast us.dropLast:=by
 induction h with
 | nil=>exact .nil
 | cons r t ih =>
  cases t with
  | nil=>exact .nil
  | cons q t'=>exact .cons r ih
theorem aC6 {α:Type} (l:List α):l.eraseIdx (l.length - 1) = l.dropLast:=by
 induction l with
 | nil=>rfl
 | cons a r ih =>
  cases r with
  | nil=>rfl
  | cons b r =>
   have e:(a :: b :: r).length - 1 = ((b :: r).length - 1) + 1:=by
    have h1:(a :: b :: r).length = r.length + 2:=rfl
    have h2:(b :: r).length = r.length + 1:=rfl
    omega
   rw [e,List.eraseIdx_cons_succ,ih]
   all_goals rfl
section
variable {X:Cx} {pins:List (Addr × Obj)} {σ:St} {H:Hp} {s:Shared} {l b:Addr} {xs ys zs:List V}
theorem Inv.lset {its its':List Value} {n:Nat} {f:Array Value->Array Value} {t':Nat} (I:Inv X pins σ H s) (hH:H l = some (.lst xs))
  (e:s.heap.get? l = some { cls:=.type "list",data:=.seq its.toArray n }) (hf:f its.toArray = its'.toArray) (hv:cG ys its') (hz:ys.length<=sizeLine) :
  Inv X pins σ (upd H l (.lst ys)) { s with heap:=s.heap.update l (Obj.mapSeq f),toks:=t' }:=by
 have q:=PySem.IsL.update e f
 rw [hf] at q
 refine I.write (x:=l) (e:=l) (by rw [hH];exact trivial) (.inl rfl) (fun b' u hb hu=>(Heap.get?_update_other s.heap (Obj.mapSeq f) (Ne.symm hb)).trans hu) ⟨_,q⟩ ?_
 exact ⟨hz,its',_,hv,q⟩
theorem Inv.lnew {its:List Value} {t':Nat} (I:Inv X pins σ H s) (hv:cG ys its) (hz:ys.length<=sizeLine) :
  Inv X pins σ (upd H s.heap.objs.size (.lst ys)) { s with heap:=s.heap.push { cls:=.type "list",data:=.seq its.toArray },toks:=t' } :=
 I.laid (fun _ _ q=>Heap.get?_push_of_some _ q) (Nat.le_refl _) ⟨hz,its,0,hv,Heap.get?_push_size _ rfl⟩
theorem Inv.fresh (I:Inv X pins σ H s):H s.heap.objs.size = none:=I.hok.fresh (Nat.le_refl _)
theorem Inv.lstM (I:Inv X pins σ H s) (hH:H l = some (.lst xs)):xs.length<=sizeLine/\∃ (its:List Value) (n:Nat),cG xs its/\xs.length = its.length/\s.heap.get? l = some { cls:=.type "list",data:=.seq its.toArray n }:=by
 obtain ⟨z,its,n,r,e⟩:=I.hok l _ hH
 exact ⟨z,its,n,r,r.length,e⟩
theorem aGc {n:Nat} (h:n<=sizeLine):Builtin.List.listTooLong n = false:=by
 unfold Builtin.List.listTooLong
 exact decide_eq_false (by omega)
end
section
variable {X:Cx}
def aIA:V->List V->Hp->VK->Prop:=fun x vs H Q=>∃ l xs y,x = .ref l/\vs = [y]/\H l = some (.lst xs)/\xs.length < sizeLine/\Q .non (upd H l (.lst (xs ++ [y])))
theorem aEX:MtM X "list.append" aIA:=by
 intro pins s σ H x vs v us Q I rx rv h
 obtain ⟨l,xs,y,rfl,rfl,hH,hz,q⟩:=h
 cases rx
 obtain ⟨u,rfl,ru⟩:=rv.one
 obtain ⟨z,its,n,r,hl,e⟩:=I.lstM hH
 refine call_meets F.slot_list_append ⟨_,e,rfl⟩ F.entry_list_append (F.args_list_append_2 _ _) (PySem.list_append l its.toArray n u (by rw [size_toArray];omega)) ⟨e,?_⟩
 refine ⟨.non,_,I.lset (its':=its ++ [u]) hH e (by simp) (r.append (.cons ru .nil)) ?_,rfl,q⟩
 rw [length_append,length_singleton]
 omega
def aOL:V->List V->Hp->VK->Prop:=fun x vs H Q=>∃ l xs y,x = .ref l/\vs = []/\H l = some (.lst xs)/\xs[xs.length - 1]? = some y/\Q y (upd H l (.lst xs.dropLast))
theorem aK5:MtM X "list.pop" aOL:=by
 intro pins s σ H x vs v us Q I rx rv h
 obtain ⟨l,xs,y,rfl,rfl,hH,hy,q⟩:=h
 cases rx
 have hus:=rv.zero
 subst hus
 obtain ⟨z,its,n,r,hl,e⟩:=I.lstM hH
 obtain ⟨u,hu,ru⟩:=r.get hy
 have hy':its.toArray[its.toArray.size - 1]? = some u:=by
  show its.toArray[its.length - 1]? = some u
  rw [<- Array.getElem?_toList,<- hl]
  exact hu
 refine call_meets F.slot_list_pop ⟨_,e,rfl⟩ F.entry_list_pop (F.args_list_pop_1 _) (MeetsSeq.list_pop_last l its.toArray n u hy' (by rw [size_toArray];omega)) ⟨e,?_⟩
 refine ⟨y,_,I.lset (its':=its.dropLast) hH e ?_ r.dropLast ?_,ru,q⟩
 ·show its.toArray.eraseIdxIfInBounds (its.toArray.size - 1) = its.dropLast.toArray
  rw [size_toArray,List.eraseIdxIfInBounds_toArray,aC6]
 ·rw [List.length_dropLast]
  omega
def aO7:R2:=fun x y H Q=>∃ l b xs zs,x = .ref l/\y = .ref b/\H l = some (.lst xs)/\H b = some (.lst zs)/\xs.length + zs.length<=sizeLine/\∀ p,H p = none->Q (.ref p) (upd H p (.lst (xs ++ zs)))
theorem aLj:OpR X (binaryOp .Add) aO7:=by
 intro pins s σ H x y v u Q I rx ry h
 obtain ⟨l,b,xs,zs,rfl,rfl,hH,hB,hz,q⟩:=h
 cases rx
 cases ry
 obtain ⟨z,its,n,r,hl,e⟩:=I.lstM hH
 obtain ⟨z2,its2,n2,r2,hl2,e2⟩:=I.lstM hB
 refine PySem.P.add_list e e2 ?_ (by rw [size_toArray,size_toArray];omega)
 have ea:its.toArray ++ its2.toArray = (its ++ its2).toArray:=by simp
 rw [ea]
 exact ⟨.ref _,_,I.lnew (t':=s.toks) (r.append r2) (by rw [length_append];omega),rfl,q _ I.fresh⟩
theorem len_rep {α:Type} (xs:List α) (k:Nat):(replicate k xs).flatten.length = k * xs.length:=by
 induction k with
 | zero=>simp
 | succ k ih=>rw [replicate_succ,flatten_cons,length_append,ih,Nat.succ_mul,Nat.add_comm]
end
section
variable {prog:Program} {w:World} {A:Around} {E:Value->Shared->Prop} {s:Shared}
end
section
variable {X:Cx}
end
end L2
namespace Att
open PySem PySem.W PySem.Calls PyProof.Rows
theorem vY {P:Params} {h:Heap}:∀ (ns:List Int) (vs:List Value),WellAll P h vs (ns.map WData.int)->IntsAre vs ns:=by
 intro ns
 induction ns with
 | nil =>
  intro vs w
  rw [map_nil] at w
  cases w
  exact .nil
 | cons n ns ih =>
  intro vs w
  rw [map_cons] at w
  cases w with
  | cons a b =>
   cases a
   exact .cons _ _ (ih _ b)
theorem aEG {l:OpenLaw} {n:Nat} (hn:l.most = some n) {P:Params} {h:Heap} {args:List WData} {vals:List Value}
  (hpre:l.row.toRowW.claim.pre args = true) (hwl:WellAll P h vals args) :
  ∃ a vs ns,vals = [Value.ref a]/\args = [WData.list (ns.map WData.int)]/\h.get? a = some { cls:=.type "list",data:=.seq vs.toArray }/\IntsAre vs ns/\ns.length<=n:=by
 have hsh:WShape.hasAll [] args [.list .int] = true:=(pre_splitW hpre).1
 have hc:l.pre.holds [] { args:=args } = true:=(pre_splitW hpre).2
 obtain ⟨d,r,rfl,h1,h2⟩:=hasAllW_cons hsh
 obtain rfl:=hasAllW_nil h2
 obtain ⟨xs,rfl,h3⟩:=hasW_list h1
 obtain ⟨ns,rfl⟩:=items_int h3
 have hlen:ns.length<=n:=by
  unfold OpenLaw.pre at hc
  have h4:(WTm.not (.lt (.lit (.int (n:Int))) (.len (.arg 0)))).holds [] { args:=[.list (ns.map .int)] } = true:=by
   have h4:=(holds_andW hc).1
   rw [hn] at h4
   exact h4
  have h5:=condW_of h4 (w_not (w_lt w_lit (w_len_list (w_arg rfl))))
  rw [length_map] at h5
  refine Nat.le_of_not_lt fun q=>?_
  have q':(n:Int) < ((ns.length:Nat):Int):=by omega
  first
   | (rw [decide_eq_true q'] at h5;exact absurd h5 (by decide))
   | (simp at h5;omega)
 cases hwl with
 | cons w1 w2 =>
  cases w2
  cases w1 with
  | list ho hall=>exact ⟨_,_,ns,rfl,rfl,ho,vY ns _ hall,hlen⟩
theorem aES (l:OpenLaw) (args:List WData):l.row.toRowW.claim.post args (.bool true) args = true :=
 postW_of (r:=l.row.toRowW) (X:=(true == true))
  (show WShape.has [] (.bool true) .bool = true by first | rfl | decide | simp [WShape.has,WShape.arms,WShape.armsAll])
  (show (WTm.eq .res (.lit (.bool true))).value [] { args:=args,res:=some (.bool true),after:=args } = some (.bool (true == true)) from w_eq_bool (w_res rfl) w_lit) rfl
theorem attach_call {l:OpenLaw} {n:Nat} {q:Program} {loose:List Str} {XP:(Str->Option Value)->Heap->Prop} {YP:World->Heap->Prop} {d:DefRec}
  (hn:l.most = some n) (hdf:d.params.defaults = [])
  (call:∀ (w:World) (s₀ s₁:Shared) (mg mb:Str->Option Value) (fa:Addr) (o:Obj) (pm cd doc:Value) (a:Addr) (vs:List Value) (ns:List Int),
   Ground q loose [] XP w s₀ mg mb s₁.heap->YP w s₁.heap ->
   s₁.heap.get? fa = some o->o.data = .func (docDef d.name d.params d.body d.scope pm cd doc)->s₁.heap.CodeRec cd d.name->mg d.name = some (.ref fa) ->
   s₁.heap.get? a = some { cls:=.type "list",data:=.seq vs.toArray }->IntsAre vs ns->ns.length<=n->s₁.gens = #[] ->
   codeAny (model l.prog w) callerA (.call (.ref fa) ⟨[.ref a],[]⟩) (fun r s'=>r = .ok (.ret (.bool true))/\OldK s₁.heap s'.heap/\s'.os = s₁.os/\AllBare s'.gens) s₁) :
  WalkO q loose XP YP l.row.toRowW d [] (fun f vs=>PySem.call f vs):=by
 intro w s₀ s₁ mg mb G Y fa o pm cd doc dV kV ho hd hcd hD hmg hg args vals as hpre hlay hrd hwl hlo
 obtain rfl:dV = .none:=Dflts.none hD hdf
 obtain rfl:kV = .none:=Dflts.noKw hD
 obtain ⟨a,vs,ns,rfl,rfl,hobj,hints,hlen⟩:=aEG hn hpre hwl
 refine enter_call (codeAny_mono (call w s₀ s₁ mg mb fa o pm cd doc a vs ns G Y ho (fd_plain hd) hcd hmg hobj hints hlen hg) fun r s' hq=>?_)
 obtain ⟨rfl,h2,h3,h4⟩:=hq
 exact ⟨.inl ⟨.bool true,.bool true,[],rfl,fun _=>rfl,.bool true,aES l _,fun _=>⟨List.Pairwise.nil,fun _ hm=>(nomatch hm)⟩⟩,h2,h3,h4⟩
section
variable {prog:Program} {w:World} {A:Around} {E:Value->Shared->Prop} {s:Shared} {K:Frag}
end
end Att
namespace L2
open PySem PySem.Spec PyProof.Rows
theorem uE:∀ {vs:List Value} {ns:List Int},IntsAre vs ns->cG (ns.map V.int) vs
 | _,_,.nil=>.nil
 | _,_,.cons n t h=>.cons ⟨t,rfl⟩ (uE h)
def aMh (H:Hp):Prop:=∀ b,H b = none ∨ ∃ o xs,H b = some (.frz o (.lst xs))
theorem aFy {P:Program} {w:World} {K:Frag} {mg mb:Str->Option Value} {CX:CXT} {k:Nat} {fa a:Addr} {fd:FuncData} {x:Str} {sp:Sp} {s₁:Shared} {vs:List Value} {ns:List Int}
  (KX:K.In s₁.heap) (hns:s₁.heap.Ns mainGlobals mg) (hb:s₁.heap.Ns builtinsNs mb) (hbb:∀ x:Str,x ≠ "__name__"->mb x = bootBuiltins x) (hlim:s₁.heap.NoLimit) (hg:s₁.gens = #[])
  (ha:s₁.heap.get? a = some { cls:=.type "list",data:=.seq vs.toArray }) (hi:IntsAre vs ns) (hl:ns.length<=sizeLine) (hr:eD k callerA)
  (F:∀ base:Heap,K.In base->base.Ns mainGlobals mg->jE P w K mg base CX k fa fd [x] sp) (hbind:∀ (s:Shared) (u:Value),BindsTo s fd ⟨[u],[]⟩ [(x,u)])
  (hsp:∀ H:Hp,aMh H->SqL K H a (ns.map V.int)->sp [.ref a] H (fun v _=>v = .bl true) fun _ _ _=>False)
  (hCX:∀ H e s',CX [] H s₁ (fun _ _ _=>False) e s'->False) :
  codeAny (model P w) callerA (.call (.ref fa) ⟨[.ref a],[]⟩) (fun r s'=>r = .ok (.ret (.bool true))/\OldK s₁.heap s'.heap/\s'.os = s₁.os/\AllBare s'.gens) s₁:=by
 have rv:=uE hi
 have lenV:=hi.length
 have core:∀ H:Hp,aMh H->SqL K H a (ns.map V.int)->HOk P w H s₁.heap->(∀ b,H b ≠ none->b = a)->(H a ≠ none->K.lookup a = none) ->
   codeAny (model P w) callerA (.call (.ref fa) ⟨[.ref a],[]⟩) (fun r s'=>r = .ok (.ret (.bool true))/\OldK s₁.heap s'.heap/\s'.os = s₁.os/\AllBare s'.gens) s₁:=by
  intro H hO hS hok hA hK
  have base_of:∀ {b:Addr} {o:Obj},s₁.heap.get? b = some o->H b = none->(aBz s₁.heap H).get? b = some o:=fun e n=>aFY e n
  have noA:∀ {b:Addr} {o:Obj} {es:Array DictEntry} {ep:Nat},s₁.heap.get? b = some o->o.data = .dict es ep->H b = none:=fun {b o es ep} e d=>by
   cases q:H b with
   | none=>rfl
   | some u =>
    have e':b = a:=hA b (by rw [q];simp)
    subst e'
    rw [ha] at e;cases e
    have d':Data.seq vs.toArray _ = Data.dict es ep:=d
    cases d'
  have nsK:∀ {b:Addr} {m:Str->Option Value},s₁.heap.Ns b m->(aBz s₁.heap H).Ns b m:=fun {b m} ⟨o,es,ep,e,d,r⟩=>⟨o,es,ep,base_of e (noA e d),d,r⟩
  have hKb:K.In (aBz s₁.heap H):=fun b o e=>base_of (KX b o e) (by
   cases q:H b with
   | none=>rfl
   | some u =>
    have e':b = a:=hA b (by rw [q];simp)
    subst e'
    rw [hK (by rw [q];simp)] at e;cases e)
  have hM:Mod K mg (aBz s₁.heap H):=⟨hKb,nsK hns,⟨mb,nsK hb,hbb⟩,let ⟨mc,h1,h2⟩:=hlim;⟨mc,nsK h1,h2⟩⟩
  have e0:aC5 P w K mg (aBz s₁.heap H) callerA [] s₁ H:=⟨rfl,hM,fun b o e=>aH7 e,Nat.le_of_eq (aEQ _ _),trivial,fun b hb=>absurd (show b ∈ ([]:List Addr) from hb) (by simp),hok,.of_eq hg⟩
  refine codeAny_mono ((F _ hKb (nsK hns)).run callerA [] s₁ H ⟨[.ref a],[]⟩ [.ref a] [.ref a] _ _ hr e0 (hbind s₁ (.ref a)) (.cons rfl .nil) (hsp H hO hS)) fun r s' h=>?_
  cases r with
  | error e=>exact (hCX H e s' h).elim
  | ok fl =>
   cases fl with
   | next=>exact False.elim h
   | brk=>exact False.elim h
   | cont=>exact False.elim h
   | ret u =>
    obtain ⟨v,H',os,bare,un,hok',r',q⟩:=h
    have q':v = .bl true:=q
    subst q'
    obtain rfl:u = Value.bool true:=r'
    refine ⟨rfl,OldK.of_keep fun b o e=>?_,os,bare⟩
    cases q:H b with
    | none=>exact un.keep b o e q (by intro z;exact absurd (show b ∈ ([]:List Addr) from z) (by simp)) (by simp)
    | some u =>
     rcases hO b with z | ⟨ob,xs,z⟩
     ·rw [q] at z;cases z
     ·have z2:=un.frzs b ob _ z
      obtain ⟨e1,_⟩:=hok b _ z
      obtain ⟨e2,_⟩:=hok' b _ z2
      rw [e] at e1;cases e1
      exact e2
 cases hk:K.lookup a with
 | some o =>
  have e:=KX a o hk
  rw [ha] at e
  cases e
  refine core (fun _=>none) (fun _=>.inl rfl) (.inr ⟨_,vs.toArray,_,hk,rfl,rfl,rfl,by rw [size_toArray,lenV];exact hl,by simpa using rv⟩) (fun b u z=>by have z':(none:Option HO) = some u:=z;cases z') (fun b z=>absurd rfl z) fun z=>absurd rfl z
 | none =>
  refine core (fun b=>if b = a then some (.frz { cls:=.type "list",data:=.seq vs.toArray } (.lst (ns.map V.int))) else none) (fun b=>?_) (.inl (.inr ⟨{ cls:=.type "list",data:=.seq vs.toArray },if_pos rfl⟩)) (fun b u z=>?_) (fun b z=>?_) fun _=>hk
  ·by_cases hb:b = a
   ·exact .inr ⟨_,_,if_pos hb⟩
   ·exact .inl (if_neg hb)
  ·by_cases hb:b = a
   ·have z':=(if_pos hb).symm.trans z
    cases z'
    subst hb
    exact ⟨ha,by rw [length_map];exact hl,vs,_,rv,ha⟩
   ·have z':=(if_neg hb).symm.trans z
    cases z'
  ·by_cases hb:b = a
   ·exact hb
   ·exact absurd (if_neg hb) z
noncomputable def mV (s:Stmt):Arguments:=match s with
 | .FunctionDef _ a _ _ _ _ _ _ _ _=>a
 | _=>{ posonlyargs:=[],args:=[],vararg:=none,kwonlyargs:=[],kw_defaults:=[],kwarg:=none,defaults:=[] }
noncomputable def eY (s:Stmt):List Stmt:=match s with
 | .FunctionDef _ _ b _ _ _ _ _ _ _=>b
 | _=>[]
noncomputable def aH (s:Stmt):Scope:=match s with
 | .FunctionDef _ _ _ _ _ _ sc _ _ _=>sc
 | _=>{ kind:=.function,names:=[],isGenerator:=false,isCoroutine:=false }
noncomputable abbrev CX0:CXT:=fun _ _ _ _ _ _=>False
noncomputable abbrev E0:XK:=fun _ _ _=>False
theorem aFn {X:Cx}:uP CX0 X E0:=fun _ _ _ _ _ _ _ h=>h.elim
structure Fun (K:Frag) (x qual:Str) (st:Stmt) (f:Addr) (fd:FuncData):Prop where
 ex:∃ (oc:Value) (od:Option Addr) (kV doc pm:Value) (an:Option Addr) (cdv ct:Value) (osl:Array (Option Value)),
  fd = fnOf x qual (mV st) (eY st) (aH st) .none kV doc pm an cdv ct/\K.lookup f = some ⟨oc,od,.func fd,osl⟩/\codeIn K cdv qual = true
 kp:keepIn K (.ref f) = true
section
variable {P:Program} {w:World} {K:Frag} {mg:Str->Option Value} {base:Heap}
theorem Fun.ok {x qual:Str} {st:Stmt} {f:Addr} {fd:FuncData} {N ps:List Str} {k:Nat} {sp:Sp} (F:Fun K x qual st f fd) (S:aR N ps (aH st)) (len:∀ vs H Q E,sp vs H Q E->vs.length = ps.length)
  (hbody:∀ (cdv:Value) (A:Around) (outer:List Env) (s:Shared) (H:Hp) (vs:List V) (Q:VK) (E:XK),eD k (A.deeper (envOfC qual (aH st) s.heap.objs.size f cdv))->sp vs H Q E ->
   ∃ t,PSs (jR CX0 P w K mg base N qual (aH st) f cdv A outer s H E).nox (eY st) t/\t { nx:=fun _ H'=>Q .non H',rt:=Q } (start N vs) H):jE P w K mg base CX0 (k + 1) f fd ps sp:=by
 obtain ⟨oc,od,kV,doc,pm,an,cdv,ct,osl,rfl,lk,hcd⟩:=F.ex
 refine aF8 lk hcd S len fun A outer s H vs Q E hr hsp=>?_
 obtain ⟨t,h,q⟩:=hbody cdv A outer s H vs Q E hr hsp
 exact ⟨t,h.nox,q⟩
theorem Fun.binds {x qual:Str} {st:Stmt} {f:Addr} {fd:FuncData} {ps:List Str} (F:Fun K x qual st f fd)
  (h:∀ (kV doc pm:Value) (an:Option Addr) (cdv ct:Value) (us:List Value),us.length = ps.length->bindArgs (fnOf x qual (mV st) (eY st) (aH st) .none kV doc pm an cdv ct) ⟨us,[]⟩ = pure (ps.zip us)):lT K fd ps []:=by
 obtain ⟨oc,od,kV,doc,pm,an,cdv,ct,osl,rfl,lk,hcd⟩:=F.ex
 exact .all (h kV doc pm an cdv ct)
theorem fun_mk {x qual:Str} {st:Stmt} {f:Addr} {oc:Value} {od an:Option Addr} {osl:Array (Option Value)} {kV doc pm cdv ct:Value} (l:K.lookup f = some ⟨oc,od,.func (fnOf x qual (mV st) (eY st) (aH st) .none kV doc pm an cdv ct),osl⟩)
  (c:codeIn K cdv qual = true) (k:keepIn K (.ref f) = true):Fun K x qual st f (fnOf x qual (mV st) (eY st) (aH st) .none kV doc pm an cdv ct):=⟨⟨oc,od,kV,doc,pm,an,cdv,ct,osl,rfl,l,c⟩,k⟩
end
theorem fA {n:Nat} (h:n<=1000):n < sizeLine:=Nat.lt_of_le_of_lt h (by decide)
section
variable {X:Cx}
theorem pv (i:Nat) {x:Str} {pos:Pos} (hN:X.N[i]? = some x:=by rfl) (hv:Vis X.env.scope x:=by first | exact Or.inl rfl | exact Or.inr (Or.inl rfl) | exact Or.inr (Or.inr rfl)) (hd:(x == ("__debug__":Str)) = false:=by decide)
  (hcd:(x == ("__classdict__":Str)) = false:=by decide):PE X (.Name x pos) (aNS i):=yG hN hv hd hcd
end
def aEK (H H':Hp):Prop:=∀ b o,H b = some o->H' b = some o
theorem aEK.trans {H H1 H2:Hp} (a:aEK H H1) (b:aEK H1 H2):aEK H H2:=fun c o h=>b c o (a c o h)
theorem aEK.seq {K:Frag} {H H':Hp} {a:Addr} {xs:List V} (e:aEK H H') (h:SqL K H a xs):SqL K H' a xs:=by
 rcases h with (h | ⟨o,h⟩) | h
 ·exact .inl (.inl (e _ _ h))
 ·exact .inl (.inr ⟨o,e _ _ h⟩)
 ·exact .inr h
end L2
set_option maxHeartbeats 4000000
namespace Dd
open PySem PySem.Spec PyProof.Rows L2
inductive D where
 | non | bl (b:Bool) | int (i:Int) | str (x:Str) | tup (xs:List D) | fz (xs:List D) | ref (a:Addr)
def SqX (K:Frag) (H:Hp) (a:Addr) (xs:List V):Prop :=
 (∃ o,H a = some (.frz o (.lst xs))) ∨
 ∃ (its:Array Value) (n:Nat),K.lookup a = some { cls:=.type "list",data:=.seq its n }/\its.size<=sizeLine/\cG xs its.toList
theorem SqX.sq {K:Frag} {H:Hp} {a:Addr} {xs:List V} (h:SqX K H a xs):SqL K H a xs:=by
 rcases h with ⟨o,h⟩ | ⟨its,n,h,z,r⟩
 ·exact .inl (.inr ⟨o,h⟩)
 ·exact .inr ⟨_,its,n,h,rfl,rfl,rfl,z,r⟩
mutual
def Rep (K:Frag) (H:Hp):D->V->Prop
 | .non,v=>v = .non
 | .bl b,v=>v = .bl b
 | .int i,v=>v = .int i
 | .str x,v=>v = .str x
 | .ref a,v=>v = .ref a
 | .tup ds,v=>∃ a xs,v = .ref a/\SqT K H a xs/\bZ K H ds xs
 | .fz ds,v=>∃ a xs,v = .ref a/\SqX K H a xs/\bZ K H ds xs
def bZ (K:Frag) (H:Hp):List D->List V->Prop
 | [],vs=>vs = []
 | d :: ds,vs=>∃ v r,vs = v :: r/\Rep K H d v/\bZ K H ds r
end
structure Ext (H H':Hp):Prop where
 tup:∀ a xs,H a = some (.tup xs)->H' a = some (.tup xs)
 frz:∀ a o u,H a = some (.frz o u)->H' a = some (.frz o u)
theorem Ext.refl (H:Hp):Ext H H:=⟨fun _ _ h=>h,fun _ _ _ h=>h⟩
theorem Ext.trans {H H1 H2:Hp} (a:Ext H H1) (b:Ext H1 H2):Ext H H2:=⟨fun c xs h=>b.tup c xs (a.tup c xs h),fun c o u h=>b.frz c o u (a.frz c o u h)⟩
theorem Ext.new {H:Hp} {p:Addr} (h:H p = none) (o:HO):Ext H (upd H p o) :=
 ⟨fun a xs e=>by rw [bS (bX e h)];exact e,fun a ob u e=>by rw [bS (bX e h)];exact e⟩
theorem Ext.put {H:Hp} {p:Addr} {xs:List V} (h:H p = some (.lst xs)) (o:HO):Ext H (upd H p o) :=
 ⟨fun a ys e=>by rw [bS (xO e h (by intro z;cases z))];exact e,fun a ob u e=>by rw [bS (xO e h (by intro z;cases z))];exact e⟩
section
variable {K:Frag} {H H':Hp}
theorem mH (e:Ext H H') {a:Addr} {xs:List V} (h:SqT K H a xs):SqT K H' a xs:=by
 rcases h with (h | ⟨o,h⟩) | h
 ·exact .inl (.inl (e.tup _ _ h))
 ·exact .inl (.inr ⟨o,e.frz _ _ _ h⟩)
 ·exact .inr h
theorem nF (e:Ext H H') {a:Addr} {xs:List V} (h:SqX K H a xs):SqX K H' a xs:=by
 rcases h with ⟨o,h⟩ | h
 ·exact .inl ⟨o,e.frz _ _ _ h⟩
 ·exact .inr h
mutual
theorem Rep.ext (e:Ext H H'):∀ {d:D} {v:V},Rep K H d v->Rep K H' d v
 | .non,_,h=>by unfold Rep at h ⊢;exact h
 | .bl _,_,h=>by unfold Rep at h ⊢;exact h
 | .int _,_,h=>by unfold Rep at h ⊢;exact h
 | .str _,_,h=>by unfold Rep at h ⊢;exact h
 | .ref _,_,h=>by unfold Rep at h ⊢;exact h
 | .tup ds,_,h=>by
  unfold Rep at h ⊢
  obtain ⟨a,xs,e1,sq,r⟩:=h
  exact ⟨a,xs,e1,mH e sq,bZ.ext e r⟩
 | .fz ds,_,h=>by
  unfold Rep at h ⊢
  obtain ⟨a,xs,e1,sq,r⟩:=h
  exact ⟨a,xs,e1,nF e sq,bZ.ext e r⟩
theorem bZ.ext (e:Ext H H'):∀ {ds:List D} {vs:List V},bZ K H ds vs->bZ K H' ds vs
 | [],_,h=>by unfold bZ at h ⊢;exact h
 | d :: ds,_,h=>by
  unfold bZ at h ⊢
  obtain ⟨v,r,e1,hv,hr⟩:=h
  exact ⟨v,r,e1,Rep.ext e hv,bZ.ext e hr⟩
end
theorem bU {i:Int}:Rep K H (.int i) (.int i):=by unfold Rep;rfl
theorem eB {b:Bool}:Rep K H (.bl b) (.bl b):=by unfold Rep;rfl
theorem eS {x:Str}:Rep K H (.str x) (.str x):=by unfold Rep;rfl
theorem sS:Rep K H .non .non:=by unfold Rep;rfl
theorem gP {a:Addr}:Rep K H (.ref a) (.ref a):=by unfold Rep;rfl
theorem aT {i:Int} {v:V} (h:Rep K H (.int i) v):v = .int i:=by unfold Rep at h;exact h
theorem cL {b:Bool} {v:V} (h:Rep K H (.bl b) v):v = .bl b:=by unfold Rep at h;exact h
theorem bC {x:Str} {v:V} (h:Rep K H (.str x) v):v = .str x:=by unfold Rep at h;exact h
theorem dI {v:V} (h:Rep K H .non v):v = .non:=by unfold Rep at h;exact h
theorem bE {a:Addr} {v:V} (h:Rep K H (.ref a) v):v = .ref a:=by unfold Rep at h;exact h
theorem cM {ds:List D} {v:V} (h:Rep K H (.tup ds) v):∃ a xs,v = .ref a/\SqT K H a xs/\bZ K H ds xs:=by unfold Rep at h;exact h
theorem nW {ds:List D} {v:V} (h:Rep K H (.fz ds) v):∃ a xs,v = .ref a/\SqX K H a xs/\bZ K H ds xs:=by unfold Rep at h;exact h
theorem cI {ds:List D} {a:Addr} {xs:List V} (sq:SqT K H a xs) (r:bZ K H ds xs):Rep K H (.tup ds) (.ref a):=by unfold Rep;exact ⟨a,xs,rfl,sq,r⟩
theorem cP:bZ K H [] []:=by unfold bZ;rfl
theorem bV {vs:List V} (h:bZ K H [] vs):vs = []:=by unfold bZ at h;exact h
theorem bJ {d:D} {ds:List D} {v:V} {vs:List V} (h:Rep K H d v) (r:bZ K H ds vs):bZ K H (d :: ds) (v :: vs):=by unfold bZ;exact ⟨v,vs,rfl,h,r⟩
theorem aW {d:D} {ds:List D} {vs:List V} (h:bZ K H (d :: ds) vs):∃ v r,vs = v :: r/\Rep K H d v/\bZ K H ds r:=by unfold bZ at h;exact h
theorem bZ.length:∀ {ds:List D} {vs:List V},bZ K H ds vs->ds.length = vs.length
 | [],_,h=>by rw [bV h];rfl
 | d :: ds,_,h=>by
  obtain ⟨v,r,rfl,_,hr⟩:=aW h
  rw [length_cons,length_cons,bZ.length hr]
theorem bZ.get:∀ {ds:List D} {vs:List V} {i:Nat} {d:D},bZ K H ds vs->ds[i]? = some d->∃ v,vs[i]? = some v/\Rep K H d v
 | [],_,i,d,h,e=>by simp at e
 | d0 :: ds,_,0,d,h,e=>by
  obtain ⟨v,r,rfl,hv,hr⟩:=aW h
  simp at e;subst e
  exact ⟨v,rfl,hv⟩
 | d0 :: ds,_,i + 1,d,h,e=>by
  obtain ⟨v,r,rfl,hv,hr⟩:=aW h
  exact bZ.get (i:=i) hr (by simpa using e)
theorem bZ.getV:∀ {ds:List D} {vs:List V} {i:Nat} {v:V},bZ K H ds vs->vs[i]? = some v->∃ d,ds[i]? = some d/\Rep K H d v
 | [],_,i,v,h,e=>by rw [bV h] at e;simp at e
 | d0 :: ds,_,0,v,h,e=>by
  obtain ⟨v0,r,rfl,hv,hr⟩:=aW h
  simp at e;subst e
  exact ⟨d0,rfl,hv⟩
 | d0 :: ds,_,i + 1,v,h,e=>by
  obtain ⟨v0,r,rfl,hv,hr⟩:=aW h
  exact bZ.getV (i:=i) hr (by simpa using e)
theorem bZ.append:∀ {ds es:List D} {vs us:List V},bZ K H ds vs->bZ K H es us->bZ K H (ds ++ es) (vs ++ us)
 | [],es,vs,us,h,q=>by rw [bV h];exact q
 | d :: ds,es,_,us,h,q=>by
  obtain ⟨v,r,rfl,hv,hr⟩:=aW h
  exact bJ hv (bZ.append hr q)
theorem bZ.take:∀ {ds:List D} {vs:List V} (n:Nat),bZ K H ds vs->bZ K H (ds.take n) (vs.take n)
 | ds,vs,0,h=>by rw [take_zero,take_zero];exact cP
 | [],_,n + 1,h=>by rw [bV h];exact cP
 | d :: ds,_,n + 1,h=>by
  obtain ⟨v,r,rfl,hv,hr⟩:=aW h
  exact bJ hv (bZ.take n hr)
theorem bZ.drop:∀ {ds:List D} {vs:List V} (n:Nat),bZ K H ds vs->bZ K H (ds.drop n) (vs.drop n)
 | ds,vs,0,h=>h
 | [],_,n + 1,h=>by rw [bV h];exact cP
 | d :: ds,_,n + 1,h=>by
  obtain ⟨v,r,rfl,hv,hr⟩:=aW h
  exact bZ.drop n hr
theorem aAg:∀ (ns:List Int),bZ K H (ns.map D.int) (ns.map V.int)
 | []=>cP
 | n :: ns=>bJ bU (aAg ns)
end
inductive AK where
 | l (a:Addr) | d (a:Addr)
deriving DecidableEq
instance:Coe Addr AK:=⟨AK.l⟩
noncomputable abbrev DM:=AK->Option (List D)
noncomputable def bH (M:DM) (a:Addr) (ds:List D):DM:=fun b=>if b = AK.l a then some ds else M b
theorem aJ {M:DM} {a:Addr} {ds:List D}:bH M a ds a = some ds:=if_pos rfl
theorem bI {M:DM} {a b:Addr} {ds:List D} (h:b ≠ a):bH M a ds b = M b:=if_neg fun e=>h (AK.l.inj e)
theorem aCM {M:DM} {a:Addr} {b:AK} {ds:List D} (h:b ≠ AK.l a):bH M a ds b = M b:=if_neg h
theorem aHk {M:DM} {a b:Addr} {ds:List D}:bH M a ds (.d b) = M (.d b):=if_neg fun e=>nomatch e
theorem aAo {M:DM} {a:Addr} {ds es:List D}:bH (bH M a ds) a es = bH M a es:=by
 funext b;unfold bH;split<;>rfl
theorem aB6 {M:DM} {a b:Addr} {o:List D} (h:M a = some o) (h':M b = none):a ≠ b:=by
 intro e;subst e;rw [h] at h';cases h'
theorem vF {M:DM} {a b:AK} {o:List D} (h:M a = some o) (h':M b = none):a ≠ b:=by
 intro e;subst e;rw [h] at h';cases h'
def aND (a:Addr) (es:List DictEntry):Heap->Prop:=fun h=>(a == sysModules) = false/\es.length<=sizeLine/\∃ ep,h.get? a = some { cls:=.type "dict",data:=.dict es.toArray ep }
def aIQ (K:Frag) (H:Hp) (d:D) (e:DictEntry):Prop:=∃ k v kv vv,d = .tup [.int e.hash,k,v]/\cS kv e.key/\Rep K H k kv/\cS vv e.val/\Rep K H v vv
theorem aIQ.ext {K:Frag} {H H':Hp} {d:D} {e:DictEntry} (h:aIQ K H d e) (x:Ext H H'):aIQ K H' d e :=
 let ⟨k,v,kv,vv,a,b,c,f,g⟩:=h;⟨k,v,kv,vv,a,b,c.ext x,f,g.ext x⟩
abbrev aGM (K:Frag) (H:Hp) (ds:List D) (es:List DictEntry):Prop:=Paired (aIQ K H) ds es
theorem lV {K:Frag} {H H':Hp} {ds:List D} {es:List DictEntry} (h:aGM K H ds es) (x:Ext H H'):aGM K H' ds es:=Paired.mapP h fun _ _ r=>r.ext x
structure cH (K:Frag) (M:DM) (H:Hp):Prop where
 l:∀ (a:Addr) ds,M (.l a) = some ds->∃ xs,H a = some (.lst xs)/\bZ K H ds xs
 d:∀ (a:Addr) ds,M (.d a) = some ds->∃ es,H a = some (.ext (aND a es))/\aGM K H ds es
section
variable {K:Frag} {H H':Hp} {M M':DM}
theorem cH.fresh (h:cH K M H) {p:Addr} (e:H p = none):M p = none:=by
 cases q:M p with
 | none=>rfl
 | some ds=>obtain ⟨xs,z,_⟩:=h.l p ds q;rw [e] at z;cases z
theorem cH.new (h:cH K M H) {p:Addr} (e:H p = none) (o:HO):cH K M (upd H p o) where
 l:=fun a ds q=>by
  obtain ⟨xs,z,r⟩:=h.l a ds q
  exact ⟨xs,by rw [bS (bX z e)];exact z,r.ext (Ext.new e o)⟩
 d:=fun a ds q=>by
  obtain ⟨xs,z,r⟩:=h.d a ds q
  exact ⟨xs,by rw [bS (bX z e)];exact z,lV r (Ext.new e o)⟩
theorem cH.lnew (h:cH K M H) {p:Addr} (e:H p = none) {xs:List V} {ds:List D} (r:bZ K H ds xs):cH K (bH M p ds) (upd H p (.lst xs)) where
 l:=fun a es q=>by
  by_cases ha:a = p
  ·subst ha
   rw [aJ] at q
   cases q
   exact ⟨xs,dN,r.ext (Ext.new e _)⟩
  ·rw [bI ha] at q
   obtain ⟨ys,z,r2⟩:=h.l a es q
   exact ⟨ys,by rw [bS ha];exact z,r2.ext (Ext.new e _)⟩
 d:=fun a es q=>by
  rw [aHk] at q
  obtain ⟨ys,z,r2⟩:=h.d a es q
  exact ⟨ys,by rw [bS (bX z e)];exact z,lV r2 (Ext.new e _)⟩
theorem cH.put (h:cH K M H) {p:Addr} {xs0:List V} (e:H p = some (.lst xs0)) {xs:List V} {ds:List D} (r:bZ K H ds xs):cH K (bH M p ds) (upd H p (.lst xs)) where
 l:=fun a es q=>by
  by_cases ha:a = p
  ·subst ha
   rw [aJ] at q
   cases q
   exact ⟨xs,dN,r.ext (Ext.put e _)⟩
  ·rw [bI ha] at q
   obtain ⟨ys,z,r2⟩:=h.l a es q
   exact ⟨ys,by rw [bS ha];exact z,r2.ext (Ext.put e _)⟩
 d:=fun a es q=>by
  rw [aHk] at q
  obtain ⟨ys,z,r2⟩:=h.d a es q
  exact ⟨ys,by rw [bS (xO z e (by intro z;cases z))];exact z,lV r2 (Ext.put e _)⟩
def aZ (M M':DM):Prop:=∀ a o,M a = some o->M' a = some o
theorem aZ.refl (M:DM):aZ M M:=fun _ _ h=>h
theorem aZ.trans {M1 M2 M3:DM} (a:aZ M1 M2) (b:aZ M2 M3):aZ M1 M3:=fun c o h=>b c o (a c o h)
theorem aZ.new {M:DM} {p:Addr} (h:M p = none) (ds:List D):aZ M (bH M p ds):=fun a o e=>by rw [aCM (vF e h)];exact e
theorem cH.sub (h:cH K M' H) (s:aZ M M'):cH K M H:=⟨fun a ds q=>h.l a ds (s _ ds q),fun a ds q=>h.d a ds (s _ ds q)⟩
end
noncomputable abbrev cR:=List (Option D)
structure fP (K:Frag) (H:Hp) (ρ:cR) (σ:L2.St):Prop where
 len:ρ.length = σ.length
 get:∀ (i:Nat) d,ρ[i]? = some (some d)->∃ v,σ[i]? = some (some v)/\Rep K H d v
section
variable {K:Frag} {H H':Hp} {ρ:cR} {σ:L2.St}
theorem fP.ext (h:fP K H ρ σ) (e:Ext H H'):fP K H' ρ σ:=⟨h.len,fun i d q=>let ⟨v,a,b⟩:=h.get i d q;⟨v,a,b.ext e⟩⟩
theorem fP.set (h:fP K H ρ σ) {d:D} {v:V} (r:Rep K H d v) (i:Nat):fP K H (ρ.set i (some d)) (σ.set i (some v)):=by
 refine ⟨by rw [length_set,length_set,h.len],fun j d' q=>?_⟩
 rw [getElem?_set] at q
 by_cases hij:i = j
 ·subst hij
  rw [if_pos rfl] at q
  by_cases hl:i < ρ.length
  ·rw [if_pos hl] at q
   cases q
   exact ⟨v,by rw [getElem?_set,if_pos rfl,if_pos (by rw [<- h.len];exact hl)],r⟩
  ·rw [if_neg hl] at q
   cases q
 ·rw [if_neg hij] at q
  obtain ⟨u,a,b⟩:=h.get j d' q
  exact ⟨u,by rw [getElem?_set,if_neg hij];exact a,b⟩
end
abbrev DQ:=D->DM->Prop
abbrev DE:=cR->DM->DQ->Prop
abbrev DT:=cR->DM->(Bool->DM->Prop)->Prop
abbrev DA:=cR->DM->(List D->DM->Prop)->Prop
structure fY where
 nx:cR->DM->Prop
 rt:DQ
 bk:cR->DM->Prop:=fun _ _=>False
 ct:cR->DM->Prop:=fun _ _=>False
abbrev DS:=fY->cR->DM->Prop
abbrev DG:=D->cR->DM->(cR->DM->Prop)->Prop
abbrev DGs:=List D->cR->DM->(cR->DM->Prop)->Prop
noncomputable def LQ (K:Frag) (H:Hp) (Q:DQ):VK:=fun v H'=>∃ d M',Rep K H' d v/\cH K M' H'/\Ext H H'/\Q d M'
def LT (K:Frag) (H:Hp) (Q:Bool->DM->Prop):Bool->Hp->Prop:=fun b H'=>∃ M',cH K M' H'/\Ext H H'/\Q b M'
def LA (K:Frag) (H:Hp) (Q:List D->DM->Prop):List V->Hp->Prop:=fun vs H'=>∃ ds M',bZ K H' ds vs/\cH K M' H'/\Ext H H'/\Q ds M'
def LN (K:Frag) (H:Hp) (Q:cR->DM->Prop):L2.St->Hp->Prop:=fun σ' H'=>∃ ρ' M',fP K H' ρ' σ'/\cH K M' H'/\Ext H H'/\Q ρ' M'
structure jF (K:Frag) (H:Hp) (D:fY) (E:pY):Prop where
 nx:∀ σ' H',LN K H D.nx σ' H'->E.nx σ' H'
 rt:∀ v H',LQ K H D.rt v H'->E.rt v H'
 bk:∀ σ' H',LN K H D.bk σ' H'->E.bk σ' H'
 ct:∀ σ' H',LN K H D.ct σ' H'->E.ct σ' H'
def low (K:Frag) (t:DE):TE:=fun σ H Q=>∃ ρ M Q',fP K H ρ σ/\cH K M H/\t ρ M Q'/\∀ v H',LQ K H Q' v H'->Q v H'
def aKm (K:Frag) (t:DT):TT:=fun σ H Q=>∃ ρ M Q',fP K H ρ σ/\cH K M H/\t ρ M Q'/\∀ v H',LT K H Q' v H'->Q v H'
def aNz (K:Frag) (t:DA):TA:=fun σ H Q=>∃ ρ M Q',fP K H ρ σ/\cH K M H/\t ρ M Q'/\∀ v H',LA K H Q' v H'->Q v H'
def aEv (K:Frag) (t:DS):TS:=fun E σ H=>∃ ρ M D,fP K H ρ σ/\cH K M H/\t D ρ M/\jF K H D E
def aCH (K:Frag) (g:DG):TG:=fun v σ H Q=>∃ d ρ M Q',Rep K H d v/\fP K H ρ σ/\cH K M H/\g d ρ M Q'/\∀ σ' H',LN K H Q' σ' H'->Q σ' H'
def aOo (K:Frag) (g:DGs):TGs:=fun vs σ H Q=>∃ ds ρ M Q',bZ K H ds vs/\fP K H ρ σ/\cH K M H/\g ds ρ M Q'/\∀ σ' H',LN K H Q' σ' H'->Q σ' H'
abbrev PDE (X:Cx) (e:Expr) (t:DE):Prop:=PE X e (low X.K t)
abbrev PDT (X:Cx) (e:Expr) (t:DT):Prop:=PT X e (aKm X.K t)
abbrev PDW (X:Cx) (e:Expr) (t:DT):Prop:=PW X e (aKm X.K t)
abbrev PDA (X:Cx) (es:List Expr) (t:DA):Prop:=PA X es (aNz X.K t)
abbrev PDS (X:Cx) (st:Stmt) (t:DS):Prop:=PS X st (aEv X.K t)
abbrev kM (X:Cx) (st:List Stmt) (t:DS):Prop:=PSs X st (aEv X.K t)
abbrev PDG (X:Cx) (e:Expr) (g:DG):Prop:=PG X e (aCH X.K g)
abbrev aAU (X:Cx) (es:List Expr) (g:DGs):Prop:=PGs X es (aOo X.K g)
section
variable {K:Frag} {H H1:Hp}
theorem LQ.back {Q:DQ} {v:V} {H2:Hp} (e:Ext H H1) (h:LQ K H1 Q v H2):LQ K H Q v H2:=let ⟨d,M,a,b,c,q⟩:=h;⟨d,M,a,b,e.trans c,q⟩
theorem LT.back {Q:Bool->DM->Prop} {v:Bool} {H2:Hp} (e:Ext H H1) (h:LT K H1 Q v H2):LT K H Q v H2:=let ⟨M,b,c,q⟩:=h;⟨M,b,e.trans c,q⟩
theorem LN.back {Q:cR->DM->Prop} {v:L2.St} {H2:Hp} (e:Ext H H1) (h:LN K H1 Q v H2):LN K H Q v H2:=let ⟨d,M,a,b,c,q⟩:=h;⟨d,M,a,b,e.trans c,q⟩
theorem jF.at {D:fY} {E:pY} (h:jF K H D E) (e:Ext H H1):jF K H1 D E :=
 ⟨fun s H2 q=>h.nx s H2 (q.back e),fun s H2 q=>h.rt s H2 (q.back e),fun s H2 q=>h.bk s H2 (q.back e),fun s H2 q=>h.ct s H2 (q.back e)⟩
end
section
variable {X:Cx} {e:Expr} {st:Stmt} {sts:List Stmt}
theorem cO {t u:TE} (h:PE X e t) (k:∀ σ H Q,u σ H Q->t σ H Q):PE X e u:=fun pins s σ H Q I q=>h pins s σ H Q I (k σ H Q q)
theorem aBd {t u:TT} (h:PT X e t) (k:∀ σ H Q,u σ H Q->t σ H Q):PT X e u:=fun pins s σ H Q I q=>h pins s σ H Q I (k σ H Q q)
theorem aG2 {t u:TT} (h:PW X e t) (k:∀ σ H Q,u σ H Q->t σ H Q):PW X e u:=fun wh pins s σ H Q I q=>h wh pins s σ H Q I (k σ H Q q)
theorem aGx {es:List Expr} {t u:TA} (h:PA X es t) (k:∀ σ H Q,u σ H Q->t σ H Q):PA X es u:=fun pos pins s σ H Q I q=>h pos pins s σ H Q I (k σ H Q q)
theorem iL {t u:TS} (h:PS X st t) (k:∀ D σ H,u D σ H->t D σ H):PS X st u:=fun pins s σ H D I q=>h pins s σ H D I (k D σ H q)
theorem aAB {t u:TS} (h:PSs X sts t) (k:∀ D σ H,u D σ H->t D σ H):PSs X sts u:=fun pins s σ H D I q=>h pins s σ H D I (k D σ H q)
theorem aFX {t u:TG} (h:PG X e t) (k:∀ v σ H Q,u v σ H Q->t v σ H Q):PG X e u:=fun pins s σ H v w Q I r q=>h pins s σ H v w Q I r (k v σ H Q q)
theorem aDA {es:List Expr} {t u:TGs} (h:PGs X es t) (k:∀ v σ H Q,u v σ H Q->t v σ H Q):PGs X es u:=fun pins s σ H v w Q I r q=>h pins s σ H v w Q I r (k v σ H Q q)
end
section
variable {X:Cx} {a b c e:Expr} {es:List Expr} {ta tb tc te:DE} {tA tB:DT} {t:DA} {pos:Pos}
def aIo (i:Nat):DE:=fun ρ M Q=>match ρ[i]? with
 | some (some d)=>Q d M
 | _=>False
theorem aLU (i:Nat) {x:Str} {pos:Pos} (hN:X.N[i]? = some x:=by rfl) (hv:Vis X.env.scope x:=by first | exact Or.inl rfl | exact Or.inr (Or.inl rfl) | exact Or.inr (Or.inr rfl)) (hd:(x == ("__debug__":Str)) = false:=by decide)
  (hcd:(x == ("__classdict__":Str)) = false:=by decide):PDE X (.Name x pos) (aIo i) :=
 cO (yG (i:=i) hN hv hd hcd) fun σ H Q ⟨ρ,M,Q',re,hm,q,k⟩=>by
  unfold aIo at q
  split at q
  ·rename_i d e
   obtain ⟨v,e1,r⟩:=re.get i d e
   exact ⟨v,e1,k v H ⟨d,M,r,hm,.refl H,q⟩⟩
  ·exact q.elim
def dC (d:D):DE:=fun _ M Q=>Q d M
theorem aKC {i j pos}:PDE X (.Constant (.int i) j pos) (dC (.int i)):=cO aLo fun σ H Q ⟨ρ,M,Q',re,hm,q,k⟩=>k _ H ⟨_,M,bU,hm,.refl H,q⟩
theorem aNe {i j pos}:PDE X (.Constant (.bool i) j pos) (dC (.bl i)):=cO aNX fun σ H Q ⟨ρ,M,Q',re,hm,q,k⟩=>k _ H ⟨_,M,eB,hm,.refl H,q⟩
theorem aL0 {j pos}:PDE X (.Constant .none j pos) (dC .non):=cO aL9 fun σ H Q ⟨ρ,M,Q',re,hm,q,k⟩=>k _ H ⟨_,M,sS,hm,.refl H,q⟩
theorem aLh {x j pos}:PDE X (.Constant (.str x) j pos) (dC (.str x)):=cO aLE fun σ H Q ⟨ρ,M,Q',re,hm,q,k⟩=>k _ H ⟨_,M,eS,hm,.refl H,q⟩
theorem aHY {x:Str} {d:D} {v:V} {u:Value} {pos:Pos} (hg:Gl X x) (hm:X.mg x = some u) (r:cS v u) (hr:∀ H,Rep X.K H d v) (hd:(x == ("__debug__":Str)) = false:=by decide):PDE X (.Name x pos) (dC d) :=
 cO (aJa hg hm r hd) fun σ H Q ⟨ρ,M,Q',re,hm,q,k⟩=>k _ H ⟨_,M,hr H,hm,.refl H,q⟩
abbrev D2:=D->D->DM->DQ->Prop
def OpL (K:Frag) (r:R2) (r':D2):Prop:=∀ x y H M dx dy Q,Rep K H dx x->Rep K H dy y->cH K M H->r' dx dy M Q->r x y H (LQ K H Q)
def OpD (X:Cx) (f:Value->Value->Sem Value) (r':D2):Prop :=
 OpR X f fun x y H Q=>∃ dx dy M Q',Rep X.K H dx x/\Rep X.K H dy y/\cH X.K M H/\r' dx dy M Q'/\∀ v H',LQ X.K H Q' v H'->Q v H'
theorem aEi {pins:List (Addr × Obj)} {σ:L2.St} {Q Q':VK} {u:Value} {s:Shared} (h:EP X pins σ Q u s) (k:∀ v H,Q v H->Q' v H):EP X pins σ Q' u s:=let ⟨v,H,a,b,c⟩:=h;⟨v,H,a,b,k v H c⟩
theorem OpD.of {f:Value->Value->Sem Value} {r:R2} {r':D2} (h:OpR X f r) (l:OpL X.K r r'):OpD X f r':=fun pins s σ H x y v u Q I rx ry ⟨dx,dy,M,Q',r1,r2,hm,q,k⟩ =>
 thn (h pins s σ H x y v u _ I rx ry (l x y H M dx dy Q' r1 r2 hm q)) fun v s h=>aEi h k
def dOp (r:D2) (ta tb:DE):DE:=fun ρ M Q=>ta ρ M fun x M1=>tb ρ M1 fun y M2=>r x y M2 Q
theorem aBk {r':D2} {σ:L2.St} {H:Hp} {Q:VK} {R:V->V->Hp->VK->Prop} (hR:∀ x y H1 Q1,(∃ dx dy M Q',Rep X.K H1 dx x/\Rep X.K H1 dy y/\cH X.K M H1/\r' dx dy M Q'/\∀ v H',LQ X.K H1 Q' v H'->Q1 v H')->R x y H1 Q1)
  (h:low X.K (dOp r' ta tb) σ H Q):low X.K ta σ H fun x H1=>low X.K tb σ H1 fun y H2=>R x y H2 Q:=by
 obtain ⟨ρ,M,Q',re,hm,q,k⟩:=h
 refine ⟨ρ,M,_,re,hm,q,fun x H1 ⟨dx,M1,rx,hm1,e1,q1⟩=>⟨ρ,M1,_,re.ext e1,hm1,q1,fun y H2 ⟨dy,M2,ry,hm2,e2,q2⟩=>?_⟩⟩
 exact hR x y H2 Q ⟨dx,dy,M2,Q',rx.ext e2,ry,hm2,q2,fun v H' z=>k v H' (z.back (e1.trans e2))⟩
theorem aOF {op:Operator} {r:D2} (ho:OpD X (binaryOp op) r) (ha:PDE X a ta) (hb:PDE X b tb):PDE X (.BinOp a op b pos) (dOp r ta tb) :=
 cO (aNm ho ha hb) fun σ H Q h=>aBk (fun _ _ _ _ z=>z) h
theorem aLW {op:CmpOp} {r:D2} (ho:OpD X (compareOp op) r) (ha:PDE X a ta) (hb:PDE X b tb) (hm:behindInMarks op b = false:=by exact aAT _):PDE X (.Compare a [op] [b] pos) (dOp r ta tb) :=
 cO (aHZ ho ha hb hm) fun σ H Q h=>aBk (fun _ _ _ _ z=>z) h
def vK (t:DE):DT:=fun ρ M Q=>t ρ M fun d M'=>match d with
 | .bl k=>Q k M'
 | _=>False
theorem wU {σ:L2.St} {H:Hp} {Q:Bool->Hp->Prop} (h:aKm X.K (vK te) σ H Q):low X.K te σ H fun x H'=>∃ k,x = .bl k/\Q k H':=by
 obtain ⟨ρ,M,Q',re,hm,q,k⟩:=h
 refine ⟨ρ,M,_,re,hm,q,fun x H1 ⟨d,M1,rd,hm1,e1,q1⟩=>?_⟩
 cases d with
 | bl c=>exact ⟨c,cL rd,k c H1 ⟨M1,hm1,e1,q1⟩⟩
 | _=>exact q1.elim
theorem aMf {op:CmpOp} {r:D2} (ho:OpD X (compareOp op) r) (ha:PDE X a ta) (hb:PDE X b tb) (hm:behindInMarks op b = false:=by exact aAT _):PDT X (.Compare a [op] [b] pos) (vK (dOp r ta tb)) :=
 aBd (aH4 ho ha hb hm) fun σ H Q h=>aBk (R:=fun x y H Q1=>∃ dx dy M Q',Rep X.K H dx x/\Rep X.K H dy y/\cH X.K M H/\r dx dy M Q'/\∀ v H',LQ X.K H Q' v H'->Q1 v H') (fun _ _ _ _ z=>z) (wU h)
theorem aLp (h:PDE X e te) (he:∀ whole,isTrue e X.env whole = (do let v <- whole;standAt e.pos;holding [v] (truthy v)):=by intro _;rfl):PDT X e (vK te) :=
 aBd (aLC h he) fun σ H Q h=>wU h
def aK0 (t u:DT):DT:=fun ρ M Q=>t ρ M fun c M1=>if c = true then u ρ M1 Q else Q false M1
def dOr (t u:DT):DT:=fun ρ M Q=>t ρ M fun c M1=>if c = true then Q true M1 else u ρ M1 Q
def aKi (t:DT):DT:=fun ρ M Q=>t ρ M fun c M1=>Q (!c) M1
variable {cT:List Expr}
theorem aJc (ha:PDT X a tA):PDW X (.BoolOp .And [a] pos) tA:=aHy ha
theorem aLv (ha:PDT X a tA):PDW X (.BoolOp .Or [a] pos) tA:=aLr ha
theorem aLT (ha:PDT X a tA) (hb:PDW X (.BoolOp .And (b :: cT) pos) tB):PDW X (.BoolOp .And (a :: b :: cT) pos) (aK0 tA tB) :=
 aG2 (aLa ha hb) fun σ H Q ⟨ρ,M,Q',re,hm,q,k⟩=>⟨ρ,M,_,re,hm,q,fun c H1 ⟨M1,hm1,e1,q1⟩=>by
  cases c with
  | true=>exact ⟨ρ,M1,_,re.ext e1,hm1,q1,fun v H' z=>k v H' (z.back e1)⟩
  | false=>exact k false H1 ⟨M1,hm1,e1,q1⟩⟩
theorem aNh (ha:PDT X a tA) (hb:PDW X (.BoolOp .Or (b :: cT) pos) tB):PDW X (.BoolOp .Or (a :: b :: cT) pos) (dOr tA tB) :=
 aG2 (aNy ha hb) fun σ H Q ⟨ρ,M,Q',re,hm,q,k⟩=>⟨ρ,M,_,re,hm,q,fun c H1 ⟨M1,hm1,e1,q1⟩=>by
  cases c with
  | false=>exact ⟨ρ,M1,_,re.ext e1,hm1,q1,fun v H' z=>k v H' (z.back e1)⟩
  | true=>exact k true H1 ⟨M1,hm1,e1,q1⟩⟩
theorem aPe (h:PDW X e tA):PDT X e tA:=PW.pt h
theorem aK4 (ha:PDT X a tA):PDT X (.UnaryOp .Not a pos) (aKi tA) :=
 aBd (aL8 ha) fun σ H Q ⟨ρ,M,Q',re,hm,q,k⟩=>⟨ρ,M,_,re,hm,q,fun c H1 ⟨M1,hm1,e1,q1⟩=>k (!c) H1 ⟨M1,hm1,e1,q1⟩⟩
def aHg (ta tb:DE):DE:=fun ρ M Q=>ta ρ M fun x M1=>match x with
 | .bl c=>if c = true then tb ρ M1 Q else Q (.bl false) M1
 | _=>False
def aKH (ta tb:DE):DE:=fun ρ M Q=>ta ρ M fun x M1=>match x with
 | .bl c=>if c = true then Q (.bl true) M1 else tb ρ M1 Q
 | _=>False
def aFI (ta:DE):DE:=fun ρ M Q=>ta ρ M fun x M1=>match x with
 | .bl c=>Q (.bl (!c)) M1
 | _=>False
theorem aMy {op} (h:PDE X a ta):PDE X (.BoolOp op [a] pos) ta:=aMt h
theorem aMA (ha:PDE X a ta) (hb:PDE X (.BoolOp .And (b :: cT) pos) tb):PDE X (.BoolOp .And (a :: b :: cT) pos) (aHg ta tb) :=
 cO (aLA ha hb) fun σ H Q ⟨ρ,M,Q',re,hm,q,k⟩=>⟨ρ,M,_,re,hm,q,fun x H1 ⟨d,M1,rd,hm1,e1,q1⟩=>by
  cases d with
  | bl c =>
   refine ⟨c,cL rd,?_⟩
   cases c with
   | true=>exact ⟨ρ,M1,_,re.ext e1,hm1,q1,fun v H' z=>k v H' (z.back e1)⟩
   | false=>exact k _ H1 ⟨_,M1,eB,hm1,e1,q1⟩
  | _=>exact q1.elim⟩
theorem aOe (ha:PDE X a ta) (hb:PDE X (.BoolOp .Or (b :: cT) pos) tb):PDE X (.BoolOp .Or (a :: b :: cT) pos) (aKH ta tb) :=
 cO (aNF ha hb) fun σ H Q ⟨ρ,M,Q',re,hm,q,k⟩=>⟨ρ,M,_,re,hm,q,fun x H1 ⟨d,M1,rd,hm1,e1,q1⟩=>by
  cases d with
  | bl c =>
   refine ⟨c,cL rd,?_⟩
   cases c with
   | false=>exact ⟨ρ,M1,_,re.ext e1,hm1,q1,fun v H' z=>k v H' (z.back e1)⟩
   | true=>exact k _ H1 ⟨_,M1,eB,hm1,e1,q1⟩
  | _=>exact q1.elim⟩
theorem aJM (ha:PDE X a ta):PDE X (.UnaryOp .Not a pos) (aFI ta) :=
 cO (aKn ha) fun σ H Q ⟨ρ,M,Q',re,hm,q,k⟩=>⟨ρ,M,_,re,hm,q,fun x H1 ⟨d,M1,rd,hm1,e1,q1⟩=>by
  cases d with
  | bl c=>exact ⟨c,cL rd,k _ H1 ⟨_,M1,eB,hm1,e1,q1⟩⟩
  | _=>exact q1.elim⟩
def aKJ (t:DT) (ta tb:DE):DE:=fun ρ M Q=>t ρ M fun c M1=>if c = true then ta ρ M1 Q else tb ρ M1 Q
theorem aGu (hc:PDT X c tA) (ha:PDE X a ta) (hb:PDE X b tb):PDE X (.IfExp c a b pos) (aKJ tA ta tb) :=
 cO (aFG hc ha hb) fun σ H Q ⟨ρ,M,Q',re,hm,q,k⟩=>⟨ρ,M,_,re,hm,q,fun c H1 ⟨M1,hm1,e1,q1⟩=>by
  cases c with
  | true=>exact ⟨ρ,M1,_,re.ext e1,hm1,q1,fun v H' z=>k v H' (z.back e1)⟩
  | false=>exact ⟨ρ,M1,_,re.ext e1,hm1,q1,fun v H' z=>k v H' (z.back e1)⟩⟩
def mK:DA:=fun _ M Q=>Q [] M
def jB (ta:DE) (tr:DA):DA:=fun ρ M Q=>ta ρ M fun x M1=>tr ρ M1 fun xs M2=>Q (x :: xs) M2
theorem oZ:PDA X [] mK:=aGx aF3 fun σ H Q ⟨ρ,M,Q',re,hm,q,k⟩=>k [] H ⟨[],M,cP,hm,.refl H,q⟩
theorem kS (ha:PDE X e te) (hr:PDA X es t) (hs:starEach (e :: es) X.env = (false,eval e X.env) :: starEach es X.env:=by rfl):PDA X (e :: es) (jB te t) :=
 aGx (aA3 ha hr hs) fun σ H Q ⟨ρ,M,Q',re,hm,q,k⟩=>⟨ρ,M,_,re,hm,q,fun x H1 ⟨dx,M1,rx,hm1,e1,q1⟩=>⟨ρ,M1,_,re.ext e1,hm1,q1,fun xs H2 ⟨dxs,M2,rxs,hm2,e2,q2⟩ =>
  k _ H2 ⟨dx :: dxs,M2,bJ (rx.ext e2) rxs,hm2,e1.trans e2,q2⟩⟩⟩
def aKg (t:DA):DE:=fun ρ M Q=>t ρ M fun xs M1=>xs.length<=1000/\Q (.tup xs) M1
def aKA (t:DA):DE:=fun ρ M Q=>t ρ M fun xs M1=>xs.length<=1000/\∀ p:Addr,M1 p = none->Q (.ref p) (bH M1 p xs)
theorem aJ0 {x1} (h:PDA X es t):PDE X (.Tuple es x1 pos) (aKg t) :=
 cO (aMb h) fun σ H Q ⟨ρ,M,Q',re,hm,q,k⟩=>⟨ρ,M,_,re,hm,q,fun xs H1 ⟨ds,M1,rs,hm1,e1,q1,q2⟩=>⟨by rw [<- rs.length];exact Nat.le_of_lt (fA q1),fun p hp =>
  k _ _ ⟨.tup ds,M1,cI (.of dN) (rs.ext (Ext.new hp _)),hm1.new hp _,e1.trans (Ext.new hp _),q2⟩⟩⟩
theorem aMc (h:PDA X es t):PDE X (.List es pos) (aKA t) :=
 cO (aLR h) fun σ H Q ⟨ρ,M,Q',re,hm,q,k⟩=>⟨ρ,M,_,re,hm,q,fun xs H1 ⟨ds,M1,rs,hm1,e1,q1,q2⟩=>⟨by rw [<- rs.length];exact Nat.le_of_lt (fA q1),fun p hp =>
  k _ _ ⟨.ref p,_,gP,hm1.lnew hp rs,e1.trans (Ext.new hp _),q2 p (hm1.fresh hp)⟩⟩⟩
end
section
variable {X:Cx} {st:Stmt} {cT:List Stmt} {t u:DS} {e:Expr} {te:DE} {pos:Pos}
def aHm:DS:=fun E ρ M=>E.nx ρ M
def aLb (t u:DS):DS:=fun E ρ M=>t { E with nx:=u E } ρ M
theorem aI3:kM X [] aHm:=aAB aHz fun E σ H ⟨ρ,M,D,re,hm,q,k⟩=>k.nx σ H ⟨ρ,M,re,hm,.refl H,q⟩
theorem aFK (h1:PDS X st t) (h2:kM X cT u):kM X (st :: cT) (aLb t u) :=
 aAB (aBV h1 h2) fun E σ H ⟨ρ,M,D,re,hm,q,k⟩=>⟨ρ,M,{ D with nx:=u D },re,hm,q,
  ⟨fun σ' H' ⟨ρ',M',re',hm',ex,q'⟩=>⟨ρ',M',D,re',hm',q',k.at ex⟩,k.rt,k.bk,k.ct⟩⟩
theorem aHE (h1:PDS X st t):kM X [st] t:=aEl h1
def aHi (te:DE):DS:=fun E ρ M=>te ρ M fun _ M1=>E.nx ρ M1
theorem aIB (he:PDE X e te) (hs:swapsWith e none pos.line X.env = pure false:=by rfl):PDS X (.Expr e pos) (aHi te) :=
 iL (aIf he hs) fun E σ H ⟨ρ,M,D,re,hm,q,k⟩=>⟨ρ,M,_,re,hm,q,fun v H1 ⟨d,M1,rd,hm1,ex,q1⟩=>k.nx σ H1 ⟨ρ,M1,re.ext ex,hm1,ex,q1⟩⟩
def aK9 (te:DE):DS:=fun E ρ M=>te ρ M E.rt
theorem aKY (he:PDE X e te):PDS X (.Return (some e) pos) (aK9 te) :=
 iL (aMj he) fun E σ H ⟨ρ,M,D,re,hm,q,k⟩=>⟨ρ,M,_,re,hm,q,k.rt⟩
def aKD (c:DT) (t u:DS):DS:=fun E ρ M=>c ρ M fun b M1=>if b = true then t E ρ M1 else u E ρ M1
theorem aOf {c:Expr} {a b:List Stmt} {tc:DT} (hc:PDT X c tc) (ha:kM X a t) (hb:kM X b u):PDS X (.If c a b pos) (aKD tc t u) :=
 iL (aN1 hc ha hb) fun E σ H ⟨ρ,M,D,re,hm,q,k⟩=>⟨ρ,M,_,re,hm,q,fun b H1 ⟨M1,hm1,ex,q1⟩=>by
  cases b with
  | true=>exact ⟨ρ,M1,D,re.ext ex,hm1,q1,k.at ex⟩
  | false=>exact ⟨ρ,M1,D,re.ext ex,hm1,q1,k.at ex⟩⟩
def aC0:DS:=fun _ _ _=>False
theorem aGC:PDS X st aC0:=fun _ _ _ _ _ _ ⟨_,_,_,_,_,q,_⟩=>q.elim
end
section
variable {X:Cx} {pos:Pos} {e tg:Expr} {es:List Expr} {te:DE}
def gN (i:Nat):DG:=fun d ρ M Q=>Q (ρ.set i (some d)) M
theorem aHC {i:Nat} {x:Str} (hN:X.N.Nodup) (hi:X.N[i]? = some x:=by rfl) (hx:Loc X.env.scope x:=by first | exact Or.inl rfl | exact Or.inr rfl) (hf:X.fn x = true ∨ X.env.scope.names.lookup x = some .local:=by first | exact .inl rfl | exact .inr rfl | assumption):PDG X (.Name x pos) (gN i) :=
 aFX (aHF (i:=i) hN hi hx hf) fun v σ H Q ⟨d,ρ,M,Q',rd,re,hm,q,k⟩=>k _ H ⟨_,M,re.set rd i,hm,.refl H,q⟩
def gNl:DGs:=fun ds ρ M Q=>match ds with
 | []=>Q ρ M
 | _=>False
def gCn (t:DG) (u:DGs):DGs:=fun ds ρ M Q=>match ds with
 | d :: r=>t d ρ M fun ρ' M'=>u r ρ' M' Q
 | []=>False
theorem aIJ:aAU X [] gNl:=aDA aHR fun v σ H Q ⟨ds,ρ,M,Q',rd,re,hm,q,k⟩=>by
 cases ds with
 | nil=>exact ⟨bV rd,k σ H ⟨ρ,M,re,hm,.refl H,q⟩⟩
 | cons _ _=>exact q.elim
theorem aFP {t:DG} {u:DGs} (h1:PDG X e t) (h2:aAU X es u) (hs:(assignEach (e :: es) X.env).map (·.2) = assign e X.env :: (assignEach es X.env).map (·.2):=by rfl):aAU X (e :: es) (gCn t u) :=
 aDA (aFU h1 h2 hs) fun v σ H Q ⟨ds,ρ,M,Q',rd,re,hm,q,k⟩=>by
  cases ds with
  | nil=>exact q.elim
  | cons d r =>
   obtain ⟨x,xs,rfl,rx,rxs⟩:=aW rd
   exact ⟨x,xs,rfl,d,ρ,M,_,rx,re,hm,q,fun σ' H' ⟨ρ',M',re',hm',ex,q'⟩=>⟨r,ρ',M',Q',rxs.ext ex,re',hm',q',fun σ2 H2 z=>k σ2 H2 (z.back ex)⟩⟩
def gT (n:Nat) (t:DGs):DG:=fun d ρ M Q=>match d with
 | .tup ds=>ds.length = n/\t ds ρ M Q
 | _=>False
theorem aJV {k:Nat} {t:DGs} {n:Nat} (hc:X.calm = true) (h:aAU X es t) (hn:(assignEach es X.env).length = n:=by rfl) (hst:(assignEach es X.env).findIdx? (·.1) = none:=by rfl):PDG X (.Tuple es k pos) (gT n t) :=
 aFX (aKy hc h hn hst) fun v σ H Q ⟨d,ρ,M,Q',rd,re,hm,q,k⟩=>by
  cases d with
  | tup ds =>
   obtain ⟨a,xs,rfl,sq,rs⟩:=cM rd
   exact ⟨a,xs,rfl,sq,by rw [<- rs.length];exact q.1,ds,ρ,M,Q',rs,re,hm,q.2,k⟩
  | _=>exact q.elim
def aEL (te:DE) (g:DG):DS:=fun E ρ M=>te ρ M fun x M1=>g x ρ M1 E.nx
theorem aIv {g:DG} {σ:L2.St} {H:Hp} {E:pY} (h:aEv X.K (aEL te g) E σ H):low X.K te σ H fun x H1=>aCH X.K g x σ H1 E.nx:=by
 obtain ⟨ρ,M,D,re,hm,q,k⟩:=h
 exact ⟨ρ,M,_,re,hm,q,fun v H1 ⟨d,M1,rd,hm1,ex,q1⟩=>⟨d,ρ,M1,_,rd,re.ext ex,hm1,q1,fun σ' H' z=>k.nx σ' H' (z.back ex)⟩⟩
theorem aL2 {g:DG} (he:PDE X e te) (hg:PDG X tg g) (hs:swapsWithSole [tg] e pos.line X.env = pure false:=by rfl) (hw:swappedStores [tg] e X.env = pure none:=by rfl)
  (h1:(assignEach [tg] X.env).map (·.2) = [assign tg X.env]:=by rfl):PDS X (.Assign [tg] e pos) (aEL te g) :=
 iL (aLN he hg hs hw h1) fun E σ H h=>aIv h
theorem aLZ {i:Nat} {x:Str} {pos':Pos} (hN:X.N.Nodup) (he:PDE X e te) (hi:X.N[i]? = some x:=by rfl) (hx:Loc X.env.scope x:=by first | exact Or.inl rfl | exact Or.inr rfl) (hs:swapsWith e (some (.Name x pos')) pos.line X.env = pure false:=by rfl) (hf:X.fn x = true ∨ X.env.scope.names.lookup x = some .local:=by first | exact .inl rfl | exact .inr rfl | assumption) :
  PDS X (.Assign [.Name x pos'] e pos) (aEL te (gN i)) :=
 iL (aLl (i:=i) hN hi hx he hs hf) fun E σ H ⟨ρ,M,D,re,hm,q,k⟩=>⟨ρ,M,_,re,hm,q,fun v H1 ⟨d,M1,rd,hm1,ex,q1⟩=>k.nx _ H1 ⟨_,M1,(re.ext ex).set rd i,hm1,ex,q1⟩⟩
def aMp (i j:Nat) (ta:DA):DS:=fun E ρ M=>ta ρ M fun ds M1=>match ds with
 | [x,y]=>E.nx ((ρ.set i (some x)).set j (some y)) M1
 | _=>False
theorem aLg {i j:Nat} {x y:Str} {a b:Expr} {ta:DA} {px py pt:Pos} {kt k2 pt2} (hc:X.calm = true) (hN:X.N.Nodup) (ha:PDA X [a,b] ta) (hi:X.N[i]? = some x:=by rfl) (hj:X.N[j]? = some y:=by rfl) (hij:i ≠ j:=by decide)
  (hx:X.env.scope.names.lookup x = some .local:=by rfl) (hy:X.env.scope.names.lookup y = some .local:=by rfl)
  (hw:swappedStores [.Tuple [.Name x px,.Name y py] kt pt] (.Tuple [a,b] k2 pt2) X.env = pure (some [x,y]):=by rfl)
  (hs:swapsWithSole [.Tuple [.Name x px,.Name y py] kt pt] (.Tuple [a,b] k2 pt2) pos.line X.env = pure false:=by rfl) :
  PDS X (.Assign [.Tuple [.Name x px,.Name y py] kt pt] (.Tuple [a,b] k2 pt2) pos) (aMp i j ta) :=
 iL (aKc (i:=i) (j:=j) hc hN hi hj hij hx hy ha hw hs) fun E σ H ⟨ρ,M,D,re,hm,q,k⟩=>⟨ρ,M,_,re,hm,q,fun vs H1 ⟨ds,M1,rs,hm1,ex,q1⟩=>by
  match ds,q1 with
  | [d1,d2],q1 =>
   obtain ⟨v1,r1,rfl,rv1,rr1⟩:=aW rs
   obtain ⟨v2,r2,rfl,rv2,rr2⟩:=aW rr1
   obtain rfl:=bV rr2
   exact ⟨v1,v2,rfl,k.nx _ H1 ⟨_,M1,((re.ext ex).set rv1 i).set rv2 j,hm1,ex,q1⟩⟩
  | [],q1=>exact q1.elim
  | [_],q1=>exact q1.elim
  | _ :: _ :: _ :: _,q1=>exact q1.elim⟩
end
section
variable {X:Cx} {pos:Pos}
def aC8 (c:DT) (tb:DS):DS:=fun E ρ M=>∃ W:Nat->cR->DM->Prop,(∃ m,W m ρ M)/\∀ m ρ M,W m ρ M ->
 c ρ M fun b M1=>if b = true then tb { E with nx:=fun ρ' M'=>∃ m',m' < m/\W m' ρ' M',ct:=fun ρ' M'=>∃ m',m' < m/\W m' ρ' M',bk:=E.nx } ρ M1 else E.nx ρ M1
theorem aGS {c:Expr} {body:List Stmt} {tc:DT} {tb:DS} (hp:PassesOwn (model X.prog X.w) X.A X.env X.xe) (hc:PDT X c tc) (hb:kM X body tb):PDS X (.While c body [] pos) (aC8 tc tb) :=
 iL (aFm hp hc hb) fun E σ H ⟨ρ,M,D,re,hm,⟨W,⟨m0,w0⟩,turn⟩,k⟩=>by
  refine ⟨fun m σ' H'=>∃ ρ' M',fP X.K H' ρ' σ'/\cH X.K M' H'/\Ext H H'/\W m ρ' M',⟨m0,ρ,M,re,hm,.refl H,w0⟩,?_⟩
  rintro m σ1 H1 ⟨ρ1,M1,re1,hm1,e1,w1⟩
  refine ⟨ρ1,M1,_,re1,hm1,turn m ρ1 M1 w1,fun b H2 ⟨M2,hm2,e2,q2⟩=>?_⟩
  cases b with
  | false=>exact k.nx σ1 H2 ⟨ρ1,M2,re1.ext e2,hm2,e1.trans e2,q2⟩
  | true =>
   refine ⟨fun σ' H'=>∃ m',m' < m/\∃ ρ' M',fP X.K H' ρ' σ'/\cH X.K M' H'/\Ext H H'/\W m' ρ' M',fun σ' H' z=>z,?_⟩
   refine ⟨ρ1,M2,_,re1.ext e2,hm2,q2,?_⟩
   have ex:=e1.trans e2
   exact ⟨fun σ' H' ⟨ρ',M',a,b,c,m',l,d⟩=>⟨m',l,ρ',M',a,b,ex.trans c,d⟩,fun v H' z=>k.rt v H' (z.back ex),fun σ' H' z=>k.nx σ' H' (z.back ex),fun σ' H' ⟨ρ',M',a,b,c,m',l,d⟩=>⟨m',l,ρ',M',a,b,ex.trans c,d⟩⟩
theorem pO {c:DT} {tb:DS} {E:fY} {ρ:cR} {M:DM} (Pv:Nat->cR->DM->Prop) (m0:Nat) (h0:Pv m0 ρ M)
  (hs:∀ m ρ M,Pv m ρ M->c ρ M fun b M1=>if b = true then tb { E with nx:=fun ρ' M'=>∃ m',m' < m/\Pv m' ρ' M',ct:=fun ρ' M'=>∃ m',m' < m/\Pv m' ρ' M',bk:=E.nx } ρ M1 else E.nx ρ M1):aC8 c tb E ρ M:=⟨Pv,⟨m0,h0⟩,hs⟩
def dIt (at':Option Addr) (ds:List D) (g:DG) (tb:DS):DS:=fun E ρ M=>∃ Pv:Nat->cR->DM->Prop,Pv 0 ρ M /\
 (∀ i ρ M,i<=ds.length->Pv i ρ M->∀ a,at' = some a->M a = some ds) /\
 (∀ i d ρ M,ds[i]? = some d->Pv i ρ M->g d ρ M fun ρ2 M2=>tb { E with nx:=Pv (i + 1),ct:=Pv (i + 1),bk:=E.nx } ρ2 M2)/\∀ ρ M,Pv ds.length ρ M->E.nx ρ M
def aGh (tl:DE) (g:DG) (tb:DS):DS:=fun E ρ M=>tl ρ M fun d M1=>match d with
 | .tup ds=>dIt none ds g tb E ρ M1
 | _=>False
def aGb (tl:DE) (g:DG) (tb:DS):DS:=fun E ρ M=>tl ρ M fun d M1=>match d with
 | .fz ds=>dIt none ds g tb E ρ M1
 | .ref a=>∃ ds,M1 a = some ds/\dIt (some a) ds g tb E ρ M1
 | _=>False
variable {iter tg:Expr} {body:List Stmt} {tl:DE} {g:DG} {tb:DS}
theorem aGn {K:Frag} {a':Option Addr} {ds:List D} {E:pY} {Dn:fY} {σ:L2.St} {ρ:cR} {M:DM} {H0 H:Hp} {J:It} (ex0:Ext H0 H) (re:fP K H ρ σ) (hm:cH K M H) (k:jF K H0 Dn E) (h:dIt a' ds g tb Dn ρ M)
  (seq:∀ H',Ext H H'->(∀ M',cH K M' H'->(∀ a,a' = some a->M' a = some ds)->∃ xs,bZ K H' ds xs/\(∀ i,xs.length<=i->J.stop i H')/\(∀ i,i < xs.length->J.go i H')/\∀ i x H2,J.yld i H' x H2->H2 = H'/\xs[i]? = some x)) :
  ∃ W:Nat->Nat->L2.St->Hp->Prop,(∃ m,W 0 m σ H)/\∀ i m σ H,W i m σ H ->
   (J.stop i H/\E.nx σ H) ∨ (J.go i H/\∃ N:L2.St->Hp->Prop,(∀ σ' H',N σ' H'->∃ m',m' < m/\W (i + 1) m' σ' H')/\∀ x H',J.yld i H x H'->aCH K g x σ H' fun σ2 H2=>aEv K tb { E with nx:=N,ct:=N,bk:=E.nx } σ2 H2):=by
 obtain ⟨Pv,p0,hat,step,done⟩:=h
 refine ⟨fun i m σ' H'=>∃ ρ' M',fP K H' ρ' σ'/\cH K M' H'/\Ext H H'/\m = ds.length - i/\i<=ds.length/\Pv i ρ' M',⟨ds.length,ρ,M,re,hm,.refl H,rfl,Nat.zero_le _,p0⟩,?_⟩
 rintro i m σ1 H1 ⟨ρ1,M1,re1,hm1,e1,rfl,hi,w1⟩
 obtain ⟨xs,rs,hst,hgo,hy⟩:=seq H1 e1 M1 hm1 (hat i ρ1 M1 hi w1)
 have hl:=rs.length
 by_cases hlt:i < ds.length
 ·refine .inr ⟨hgo i (by omega),fun σ' H'=>∃ ρ' M',fP K H' ρ' σ'/\cH K M' H'/\Ext H H'/\Pv (i + 1) ρ' M',fun σ' H' ⟨ρ',M',a,b,c,d⟩=>⟨ds.length - (i + 1),by omega,ρ',M',a,b,c,rfl,hlt,d⟩,fun x H' y=>?_⟩
  obtain ⟨rfl,hx⟩:=hy i x H' y
  obtain ⟨d,hd,rd⟩:=rs.getV hx
  refine ⟨d,ρ1,M1,_,rd,re1,hm1,step i d ρ1 M1 hd w1,fun σ2 H2 ⟨ρ2,M2,re2,hm2,e2,q2⟩=>⟨ρ2,M2,_,re2,hm2,q2,?_⟩⟩
  have ex:=e1.trans e2
  exact ⟨fun σ' H' ⟨ρ',M',a,b,c,d⟩=>⟨ρ',M',a,b,ex.trans c,d⟩,fun v H' z=>k.rt v H' (z.back (ex0.trans ex)),fun σ' H' z=>k.nx σ' H' (z.back (ex0.trans ex)),fun σ' H' ⟨ρ',M',a,b,c,d⟩=>⟨ρ',M',a,b,ex.trans c,d⟩⟩
 ·have e:i = ds.length:=by omega
  subst e
  exact .inl ⟨hst _ (by omega),k.nx σ1 H1 ⟨ρ1,M1,re1,hm1,ex0.trans e1,done ρ1 M1 w1⟩⟩
def aM1 (lo:Int) (n:Nat) (g:DG) (tb:DS):DS:=fun E ρ M=>∃ Pv:Nat->cR->DM->Prop,Pv 0 ρ M /\
 (∀ i ρ M,i < n->Pv i ρ M->g (.int (lo + i)) ρ M fun ρ2 M2=>tb { E with nx:=Pv (i + 1),ct:=Pv (i + 1),bk:=E.nx } ρ2 M2)/\∀ ρ M,Pv n ρ M->E.nx ρ M
def aHo (ta:DA) (g:DG) (tb:DS):DS:=fun E ρ M=>ta ρ M fun ds M1=>match ds with
 | [.int j]=>(-(2 ^ 62)<=j/\j < 2 ^ 62)/\aM1 0 j.toNat g tb E ρ M1
 | _=>False
theorem aK2 {K:Frag} {lo:Int} {n:Nat} {E:pY} {Dn:fY} {σ:L2.St} {ρ:cR} {M:DM} {H0 H:Hp} (ex0:Ext H0 H) (re:fP K H ρ σ) (hm:cH K M H) (k:jF K H0 Dn E) (h:aM1 lo n g tb Dn ρ M) :
  ∃ W:Nat->Nat->L2.St->Hp->Prop,(∃ m,W 0 m σ H)/\∀ i m σ H,W i m σ H ->
   ((Itr lo n).stop i H/\E.nx σ H) ∨ ((Itr lo n).go i H/\∃ N:L2.St->Hp->Prop,(∀ σ' H',N σ' H'->∃ m',m' < m/\W (i + 1) m' σ' H')/\∀ x H',(Itr lo n).yld i H x H'->aCH K g x σ H' fun σ2 H2=>aEv K tb { E with nx:=N,ct:=N,bk:=E.nx } σ2 H2):=by
 obtain ⟨Pv,p0,step,done⟩:=h
 refine ⟨fun i m σ' H'=>∃ ρ' M',fP K H' ρ' σ'/\cH K M' H'/\Ext H H'/\m = n - i/\i<=n/\Pv i ρ' M',⟨n,ρ,M,re,hm,.refl H,rfl,Nat.zero_le _,p0⟩,?_⟩
 rintro i m σ1 H1 ⟨ρ1,M1,re1,hm1,e1,rfl,hi,w1⟩
 by_cases hlt:i < n
 ·refine .inr ⟨hlt,fun σ' H'=>∃ ρ' M',fP K H' ρ' σ'/\cH K M' H'/\Ext H H'/\Pv (i + 1) ρ' M',fun σ' H' ⟨ρ',M',a,b,c,d⟩=>⟨n - (i + 1),by omega,ρ',M',a,b,c,rfl,hlt,d⟩,fun x H' y=>?_⟩
  obtain ⟨rfl,rfl⟩:=y
  refine ⟨_,ρ1,M1,_,bU,re1,hm1,step i ρ1 M1 hlt w1,fun σ2 H2 ⟨ρ2,M2,re2,hm2,e2,q2⟩=>⟨ρ2,M2,_,re2,hm2,q2,?_⟩⟩
  have ex:=e1.trans e2
  exact ⟨fun σ' H' ⟨ρ',M',a,b,c,d⟩=>⟨ρ',M',a,b,ex.trans c,d⟩,fun v H' z=>k.rt v H' (z.back (ex0.trans ex)),fun σ' H' z=>k.nx σ' H' (z.back (ex0.trans ex)),fun σ' H' ⟨ρ',M',a,b,c,d⟩=>⟨ρ',M',a,b,ex.trans c,d⟩⟩
 ·have e:i = n:=by omega
  subst e
  exact .inl ⟨Nat.le_refl _,k.nx σ1 H1 ⟨ρ1,M1,re1,hm1,ex0.trans e1,done ρ1 M1 w1⟩⟩
end
section
variable {X:Cx} {pos:Pos} {iter tg:Expr} {body:List Stmt} {tl:DE} {g:DG} {tb:DS} {ta:DA}
theorem aJb (hp:PassesOwn (model X.prog X.w) X.A X.env X.xe) (hc:X.calm = true) (hi:PDE X iter tl) (hg:PDG X tg g) (hb:kM X body tb) (hs:∀ x,foldedSetIterable iter X.env x = pure x:=by intro _;rfl):PDS X (.For tg iter body [] pos) (aGh tl g tb) :=
 iL (aA1 hp hc (aGw hi) hg hb hs) fun E σ H ⟨ρ,M,Dn,re,hm,q,k⟩=>⟨ρ,M,_,re,hm,q,fun v H1 ⟨d,M1,rd,hm1,ex,q1⟩=>by
  cases d with
  | tup ds =>
   obtain ⟨a,xs,rfl,sq,rs⟩:=cM rd
   refine ⟨a,rfl,⟨xs,sq⟩,aGn ex (re.ext ex) hm1 k q1 fun H' e' M' hm' _=>⟨xs,rs.ext e',fun i hi=>⟨xs,mH e' sq,hi⟩,fun i hi=>⟨xs,xs[i],mH e' sq,by simp [hi]⟩,fun i x H2 y=>⟨y.1,y.2 xs (mH e' sq)⟩⟩⟩
  | _=>exact q1.elim⟩
theorem aIi (hp:PassesOwn (model X.prog X.w) X.A X.env X.xe) (hc:X.calm = true) (hi:PDE X iter tl) (hg:PDG X tg g) (hb:kM X body tb) (hs:∀ x,foldedSetIterable iter X.env x = pure x:=by intro _;rfl):PDS X (.For tg iter body [] pos) (aGb tl g tb) :=
 iL (aA1 hp hc (aEj hi) hg hb hs) fun E σ H ⟨ρ,M,Dn,re,hm,q,k⟩=>⟨ρ,M,_,re,hm,q,fun v H1 ⟨d,M1,rd,hm1,ex,q1⟩=>by
  cases d with
  | fz ds =>
   obtain ⟨a,xs,rfl,sq,rs⟩:=nW rd
   exact ⟨a,rfl,⟨xs,sq.sq⟩,aGn ex (re.ext ex) hm1 k q1 fun H' e' M' hm' _=>⟨xs,rs.ext e',fun i hi=>⟨xs,(nF e' sq).sq,hi⟩,fun i hi=>⟨xs,xs[i],(nF e' sq).sq,by simp [hi]⟩,fun i x H2 y=>⟨y.1,y.2 xs (nF e' sq).sq⟩⟩⟩
  | ref a =>
   obtain ⟨ds,ha,q1⟩:=q1
   obtain rfl:=bE rd
   obtain ⟨xs,hx,rs⟩:=hm1.l a ds ha
   refine ⟨a,rfl,⟨xs,.of hx⟩,aGn ex (re.ext ex) hm1 k q1 fun H' e' M' hm' hat=>?_⟩
   obtain ⟨ys,hy,rs'⟩:=hm'.l a ds (hat a rfl)
   exact ⟨ys,rs',fun i hi=>⟨ys,.of hy,hi⟩,fun i hi=>⟨ys,ys[i],.of hy,by simp [hi]⟩,fun i x H2 y=>⟨y.1,y.2 ys (.of hy)⟩⟩
  | _=>exact q1.elim⟩
theorem aIG {a:Expr} {p pos':Pos} (hp:PassesOwn (model X.prog X.w) X.A X.env X.xe) (hc:X.calm = true) (hmg:X.mg "range" = none) (ha:PDA X [a] ta) (hg:PDG X tg g) (hb:kM X body tb) (hgl:Gl X "range":=by rfl) (hse:starEach [a] X.env = [(false,eval a X.env)]:=by rfl)
  (hs:∀ x,foldedSetIterable (.Call (.Name "range" p) [a] [] pos') X.env x = pure x:=by intro _;rfl):PDS X (.For tg (.Call (.Name "range" p) [a] [] pos') body [] pos) (aHo ta g tb) :=
 iL (aA1 hp hc (aE2 hgl hmg ha hse) hg hb hs) fun E σ H ⟨ρ,M,Dn,re,hm,q,k⟩=>⟨ρ,M,_,re,hm,q,fun vs H1 ⟨ds,M1,rs,hm1,ex,q1⟩=>by
  rcases ds with _ | ⟨d,_ | ⟨d2,r⟩⟩
  ·exact q1.elim
  ·cases d with
   | int j =>
    obtain ⟨⟨j1,j2⟩,q1⟩:=q1
    obtain ⟨v1,r1,rfl,rv1,rr1⟩:=aW rs
    obtain rfl:=bV rr1
    obtain rfl:=aT rv1
    exact ⟨j,rfl,j1,j2,aK2 ex (re.ext ex) hm1 k q1⟩
   | _=>exact q1.elim
  ·cases d<;>exact q1.elim⟩
end
mutual
noncomputable def eqD:D->D->Bool
 | .tup xs,.tup ys=>mU xs ys
 | .non,.non=>true
 | .bl a,.bl b=>a == b
 | .bl a,.int b=>(if a then 1 else 0) == b
 | .int a,.bl b=>a == (if b then 1 else 0)
 | .int a,.int b=>a == b
 | .str a,.str b=>a == b
 | _,_=>false
noncomputable def mU:List D->List D->Bool
 | [],[]=>true
 | x :: xs,y :: ys=>eqD x y && mU xs ys
 | _,_=>false
end
noncomputable def bR:Nat->D->Bool
 | _,.ref _=>false
 | _,.fz _=>false
 | 0,.tup _=>false
 | n + 1,.tup ds=>ds.all (bR n)
 | _,_=>true
noncomputable def vG:List D->List D->Nat->Bool
 | x :: _,y :: _,0=>eqD x y
 | _ :: xs,_ :: ys,j + 1=>vG xs ys j
 | _,_,_=>true
theorem wQ (n:Nat) (e:Nat->Bool):(range (n + 1)).all e = (e 0 && (range n).all fun j=>e (j + 1)):=by
 rw [List.range_succ_eq_map,all_cons,List.all_map]
 rfl
theorem kE:∀ (xs ys:List D),mU xs ys = ((range (min xs.length ys.length)).all (vG xs ys) && xs.length == ys.length)
 | [],[]=>by simp [mU]
 | [],_ :: _=>by simp [mU]
 | _ :: _,[]=>by simp [mU]
 | x :: xs,y :: ys=>by
  have ih:=kE xs ys
  have e1:min (x :: xs).length (y :: ys).length = min xs.length ys.length + 1:=by simp only [length_cons];omega
  have e2:((x :: xs).length == (y :: ys).length) = (xs.length == ys.length):=by simp
  rw [e1,e2,wQ]
  show (eqD x y && mU xs ys) = ((eqD x y && (range (min xs.length ys.length)).all fun j=>vG xs ys j) && xs.length == ys.length)
  rw [ih,Bool.and_assoc]
section
variable {X:Cx} {pins:List (Addr × Obj)} {σ:L2.St} {H:Hp} {s:Shared}
theorem aAp {n:Nat} {d:D} (p:bR n d = true) (h:∀ xs,d ≠ .tup xs):bR 0 d = true:=by
 cases d with
 | tup xs=>exact absurd rfl (h xs)
 | ref b=>cases n<;>exact absurd p Bool.false_ne_true
 | fz b=>cases n<;>exact absurd p Bool.false_ne_true
 | _=>rfl
theorem aBI {d d':D} {v:V} (p:bR 0 d = true) (p':bR 0 d' = true) (r:Rep X.K H d v) (r':Rep X.K H d' v):eqD d d' = true:=by
 cases d<;>cases d'<;>first
  | (exact absurd p Bool.false_ne_true)
  | (exact absurd p' Bool.false_ne_true)
  | (unfold Rep at r r';subst r;cases r'<;>simp [eqD])
theorem aBN {d:D} {a:Addr} (p:bR 0 d = true) (r:Rep X.K H d (.ref a)):False:=by
 cases d<;>first
  | (exact absurd p Bool.false_ne_true)
  | (unfold Rep at r;cases r)
theorem aCi {n:Nat} (ih:∀ {d d':D} {v:V},bR n d = true->bR n d' = true->Rep X.K H d v->Rep X.K H d' v->eqD d d' = true) :
  ∀ {xs ys:List D} {us:List V},xs.all (bR n) = true->ys.all (bR n) = true->bZ X.K H xs us->bZ X.K H ys us->mU xs ys = true
 | [],[],_,_,_,_,_=>by simp [mU]
 | [],_ :: _,_,_,_,r,r'=>by
  rw [bV r] at r'
  obtain ⟨_,_,z,_⟩:=aW r'
  cases z
 | _ :: _,[],_,_,_,r,r'=>by
  rw [bV r'] at r
  obtain ⟨_,_,z,_⟩:=aW r
  cases z
 | x :: xs,y :: ys,_,p1,p2,r,r'=>by
  obtain ⟨v0,r0,rfl,h1,h2⟩:=aW r
  obtain ⟨v0',r0',e0,h1',h2'⟩:=aW r'
  cases e0
  rw [all_cons,Bool.and_eq_true] at p1 p2
  show (eqD x y && mU xs ys) = true
  rw [ih p1.1 p2.1 h1 h1',aCi ih p1.2 p2.2 h2 h2']
  rfl
theorem aIM (I:Inv X pins σ H s):∀ (n:Nat) {d d':D} {v:V},bR n d = true->bR n d' = true->Rep X.K H d v->Rep X.K H d' v->eqD d d' = true:=by
 intro n
 induction n with
 | zero=>intro d d' v p p' r r';exact aBI p p' r r'
 | succ n ih =>
  intro d d' v p p' r r'
  by_cases h1:∃ xs,d = .tup xs
  ·obtain ⟨xs,rfl⟩:=h1
   obtain ⟨a,us,rfl,sq,rs⟩:=cM r
   by_cases h2:∃ ys,d' = .tup ys
   ·obtain ⟨ys,rfl⟩:=h2
    obtain ⟨a',us',e1',sq',rs'⟩:=cM r'
    cases e1'
    obtain rfl:=I.tuple_inj sq sq'
    exact aCi ih p p' rs rs'
   ·exact (aBN (aAp p' fun xs e=>h2 ⟨xs,e⟩) r').elim
  ·have p0:=aAp p fun xs e=>h1 ⟨xs,e⟩
   by_cases h2:∃ ys,d' = .tup ys
   ·obtain ⟨ys,rfl⟩:=h2
    obtain ⟨a',us',rfl,sq',rs'⟩:=cM r'
    exact (aBN p0 r).elim
   ·exact aBI p0 (aAp p' fun xs e=>h2 ⟨xs,e⟩) r r'
theorem kJ (I:Inv X pins σ H s) {a:Addr} {xs:List V} (sq:SqT X.K H a xs):∃ its:List Value,cG xs its/\s.heap.IsTuple a its.toArray:=let ⟨its,r,p,_⟩:=I.tuple sq;⟨its,r,p⟩
theorem wF {d:D} {v:V} {n:Nat} (h:Rep X.K H d v) (p:bR 0 d = true):aFd v = true:=by
 cases d with
 | non=>unfold Rep at h;subst h;rfl
 | bl b=>unfold Rep at h;subst h;rfl
 | int b=>unfold Rep at h;subst h;rfl
 | str b=>unfold Rep at h;subst h;rfl
 | tup b=>exact absurd p Bool.false_ne_true
 | ref b=>exact absurd p Bool.false_ne_true
 | fz b=>exact absurd p Bool.false_ne_true
theorem sI {A:Around} {n:Nat} (ih:∀ {d d':D} {v v':V} {u u':Value},bR n d = true->bR n d' = true->Rep X.K H d v->Rep X.K H d' v'->cS v u->cS v' u'->SeqAt.EqAt A s u u' (eqD d d')) :
  ∀ {xs ys:List D} {us us':List V} {its its':List Value},xs.all (bR n) = true->ys.all (bR n) = true->bZ X.K H xs us->bZ X.K H ys us'->cG us its->cG us' its'->∀ j (h1:j < its.length) (h2:j < its'.length),SeqAt.EqAt A s its[j] its'[j] (vG xs ys j)
 | [],ys,us,us',its,its',_,_,r1,_,v1,_,j,h1,_=>by rw [bV r1] at v1;cases v1;exact absurd h1 (Nat.not_lt_zero _)
 | _ :: _,[],us,us',its,its',_,_,_,r2,_,v2,j,_,h2=>by rw [bV r2] at v2;cases v2;exact absurd h2 (Nat.not_lt_zero _)
 | x :: xs,y :: ys,us,us',its,its',p1,p2,r1,r2,v1,v2,j,h1,h2=>by
  obtain ⟨a,ra,rfl,ha,hra⟩:=aW r1
  obtain ⟨b,rb,rfl,hb,hrb⟩:=aW r2
  rw [all_cons,Bool.and_eq_true] at p1 p2
  cases v1 with
  | cons q1 w1 =>
   cases v2 with
   | cons q2 w2 =>
    cases j with
    | zero=>exact ih p1.1 p2.1 ha hb q1 q2
    | succ j=>exact sI ih p1.2 p2.2 hra hrb w1 w2 j (Nat.lt_of_succ_lt_succ h1) (Nat.lt_of_succ_lt_succ h2)
theorem aFS {d d':D} {v v':V} (p:bR 0 d = true) (p':bR 0 d' = true) (r:Rep X.K H d v) (r':Rep X.K H d' v'):eqV v v' = eqD d d':=by
 cases d<;>cases d'<;>first
  | (exact absurd p Bool.false_ne_true)
  | (exact absurd p' Bool.false_ne_true)
  | (unfold Rep at r r';subst r;subst r';simp [eqD,eqV])
theorem aGV (I:Inv X pins σ H s):∀ (n:Nat) {A:Around} {d d':D} {v v':V} {u u':Value},A.units + n < cLine->bR n d = true->bR n d' = true->Rep X.K H d v->Rep X.K H d' v'->cS v u->cS v' u'->SeqAt.EqAt A s u u' (eqD d d'):=by
 intro n
 induction n with
 | zero =>
  intro A d d' v v' u u' hu p p' r r' q q'
  have:=aFw (A:=A) (s:=s) q q' (wF (n:=0) r p) (wF (n:=0) r' p')
  rw [aFS p p' r r'] at this
  exact this
 | succ n ih =>
  intro A d d' v v' u u' hu p p' r r' q q'
  by_cases h1:∃ xs,d = .tup xs
  ·obtain ⟨xs,rfl⟩:=h1
   obtain ⟨a,us,rfl,sq,rs⟩:=cM r
   obtain ⟨its,rv,ht⟩:=kJ I sq
   cases q
   by_cases h2:∃ ys,d' = .tup ys
   ·obtain ⟨ys,rfl⟩:=h2
    obtain ⟨a',us',rfl,sq',rs'⟩:=cM r'
    obtain ⟨its',rv',ht'⟩:=kJ I sq'
    cases q'
    by_cases hll:a = a'
    ·subst hll
     rw [aIM I (n + 1) p p' r r']
     exact SeqAt.EqAt.same _
    ·have e1:=rs.length
     have e2:=rv.length
     have e3:=rs'.length
     have e4:=rv'.length
     show SeqAt.EqAt A s (.ref a) (.ref a') (mU xs ys)
     rw [kE,show xs.length = its.toArray.size by rw [size_toArray];omega,show ys.length = its'.toArray.size by rw [size_toArray];omega]
     refine SeqAt.EqAt.of_refs hll (SeqAt.RcAt.tuples ht ht' (by omega) fun j j1 j2=>?_)
     have hu':A.in1.units + n < cLine:=by show A.units + 1 + n < cLine;omega
     have:=sI (A:=A.in1) (s:=s) (fun {d d' v v' u u'} p p' r r' q q'=>ih hu' p p' r r' q q') p p' rs rs' rv rv' j (by simpa using j1) (by simpa using j2)
     simpa using this
   ·have p0:=aAp p' (fun xs e=>h2 ⟨xs,e⟩)
    cases d' with
    | non=>rw [dI r'] at q';cases q';exact SeqAt.EqAt.tuple_none ht (by omega)
    | bl b=>rw [cL r'] at q';cases q';exact SeqAt.EqAt.tuple_bool b ht (by omega)
    | int b=>rw [aT r'] at q';obtain ⟨t,rfl⟩:=q';exact SeqAt.EqAt.tuple_int b t ht (by omega)
    | str b=>rw [bC r'] at q';obtain ⟨t,rfl⟩:=q';exact SeqAt.EqAt.tuple_str b t ht (by omega)
    | tup b=>exact absurd p0 Bool.false_ne_true
    | ref b=>exact absurd p0 Bool.false_ne_true
    | fz b=>exact absurd p0 Bool.false_ne_true
  ·have p0:=aAp p (fun xs e=>h1 ⟨xs,e⟩)
   by_cases h2:∃ ys,d' = .tup ys
   ·obtain ⟨ys,rfl⟩:=h2
    obtain ⟨a',us',rfl,sq',rs'⟩:=cM r'
    obtain ⟨its',rv',ht'⟩:=kJ I sq'
    cases q'
    cases d with
    | non=>rw [dI r] at q;cases q;exact SeqAt.EqAt.none_tuple ht' (by omega)
    | bl b=>rw [cL r] at q;cases q;exact SeqAt.EqAt.bool_tuple b ht' (by omega)
    | int b=>rw [aT r] at q;obtain ⟨t,rfl⟩:=q;exact SeqAt.EqAt.int_tuple b t ht' (by omega)
    | str b=>rw [bC r] at q;obtain ⟨t,rfl⟩:=q;exact SeqAt.EqAt.str_tuple b t ht' (by omega)
    | tup b=>exact absurd p0 Bool.false_ne_true
    | ref b=>exact absurd p0 Bool.false_ne_true
    | fz b=>exact absurd p0 Bool.false_ne_true
   ·have p0':=aAp p' (fun xs e=>h2 ⟨xs,e⟩)
    have:=aFw (A:=A) (s:=s) q q' (wF (n:=0) r p0) (wF (n:=0) r' p0')
    rw [aFS p0 p0' r r'] at this
    exact this
theorem aNj (I:Inv X pins σ H s) {A:Around} (hu:A.units + 60 < cLine) {d d':D} {v v':V} {u u':Value} (p:bR 60 d = true) (p':bR 60 d' = true) (r:Rep X.K H d v) (r':Rep X.K H d' v') (q:cS v u) (q':cS v' u') :
  SeqAt.RcAt A s u u' (eqD d d')/\SeqAt.RcNeAt A s u u' (!eqD d d'):=by
 have hu0:A.units < cLine:=by omega
 cases d with
 | ref b=>exact absurd p Bool.false_ne_true
 | fz b=>exact absurd p Bool.false_ne_true
 | tup xs =>
  obtain ⟨a,us,rfl,sq,rs⟩:=cM r
  obtain ⟨its,rv,ht⟩:=kJ I sq
  cases q
  cases d' with
  | ref b=>exact absurd p' Bool.false_ne_true
  | fz b=>exact absurd p' Bool.false_ne_true
  | non=>rw [dI r'] at q';cases q';exact ⟨SeqAt.RcAt.tuple_none ht hu0,SeqAt.RcNeAt.tuple_none ht hu0⟩
  | bl b=>rw [cL r'] at q';cases q';exact ⟨SeqAt.RcAt.tuple_bool b ht hu0,SeqAt.RcNeAt.tuple_bool b ht hu0⟩
  | int b=>rw [aT r'] at q';obtain ⟨t,rfl⟩:=q';exact ⟨SeqAt.RcAt.tuple_int b t ht hu0,SeqAt.RcNeAt.tuple_int b t ht hu0⟩
  | str b=>rw [bC r'] at q';obtain ⟨t,rfl⟩:=q';exact ⟨SeqAt.RcAt.tuple_str b t ht hu0,SeqAt.RcNeAt.tuple_str b t ht hu0⟩
  | tup ys =>
   obtain ⟨a',us',rfl,sq',rs'⟩:=cM r'
   obtain ⟨its',rv',ht'⟩:=kJ I sq'
   cases q'
   have e1:=rs.length
   have e2:=rv.length
   have e3:=rs'.length
   have e4:=rv'.length
   have hit:∀ j (h1:j < its.toArray.size) (h2:j < its'.toArray.size),SeqAt.EqAt A.in1 s its.toArray[j] its'.toArray[j] (vG xs ys j):=fun j j1 j2=>by
    have hu':A.in1.units + 59 < cLine:=by show A.units + 1 + 59 < cLine;omega
    have:=sI (A:=A.in1) (s:=s) (fun {d d' v v' u u'} p p' r r' q q'=>aGV I 59 hu' p p' r r' q q') p p' rs rs' rv rv' j (by simpa using j1) (by simpa using j2)
    simpa using this
   have hz:eqD (.tup xs) (.tup ys) = ((range (min its.toArray.size its'.toArray.size)).all (vG xs ys) && its.toArray.size == its'.toArray.size):=by
    show mU xs ys = _
    rw [kE,show xs.length = its.toArray.size by rw [size_toArray];omega,show ys.length = its'.toArray.size by rw [size_toArray];omega]
   rw [hz]
   exact ⟨SeqAt.RcAt.tuples ht ht' hu0 hit,SeqAt.RcNeAt.tuples ht ht' hu0 hit⟩
 | non =>
  rw [dI r] at q;cases q
  cases d' with
  | ref b=>exact absurd p' Bool.false_ne_true
  | fz b=>exact absurd p' Bool.false_ne_true
  | non=>rw [dI r'] at q';cases q';exact ⟨SeqAt.RcAt.none_none,SeqAt.RcNeAt.none_none⟩
  | bl b=>rw [cL r'] at q';cases q';exact ⟨SeqAt.RcAt.none_bool b,SeqAt.RcNeAt.none_bool b⟩
  | int b=>rw [aT r'] at q';obtain ⟨t,rfl⟩:=q';exact ⟨SeqAt.RcAt.none_int b t,SeqAt.RcNeAt.none_int b t⟩
  | str b=>rw [bC r'] at q';obtain ⟨t,rfl⟩:=q';exact ⟨SeqAt.RcAt.none_str b t,SeqAt.RcNeAt.none_str b t⟩
  | tup ys =>
   obtain ⟨a',us',rfl,sq',rs'⟩:=cM r'
   obtain ⟨its',rv',ht'⟩:=kJ I sq'
   cases q'
   exact ⟨SeqAt.RcAt.none_tuple ht' hu0,SeqAt.RcNeAt.none_tuple ht' hu0⟩
 | bl z =>
  rw [cL r] at q;cases q
  cases d' with
  | ref b=>exact absurd p' Bool.false_ne_true
  | fz b=>exact absurd p' Bool.false_ne_true
  | non=>rw [dI r'] at q';cases q';exact ⟨SeqAt.RcAt.bool_none z,SeqAt.RcNeAt.bool_none z⟩
  | bl b=>rw [cL r'] at q';cases q';exact ⟨SeqAt.RcAt.bool_bool z b,SeqAt.RcNeAt.bool_bool z b⟩
  | int b=>rw [aT r'] at q';obtain ⟨t,rfl⟩:=q';exact ⟨SeqAt.RcAt.bool_int z b t,SeqAt.RcNeAt.bool_int z b t⟩
  | str b=>rw [bC r'] at q';obtain ⟨t,rfl⟩:=q';exact ⟨SeqAt.RcAt.bool_str z b t,SeqAt.RcNeAt.bool_str z b t⟩
  | tup ys =>
   obtain ⟨a',us',rfl,sq',rs'⟩:=cM r'
   obtain ⟨its',rv',ht'⟩:=kJ I sq'
   cases q'
   exact ⟨SeqAt.RcAt.bool_tuple z ht' hu0,SeqAt.RcNeAt.bool_tuple z ht' hu0⟩
 | int z =>
  rw [aT r] at q;obtain ⟨tz,rfl⟩:=q
  cases d' with
  | ref b=>exact absurd p' Bool.false_ne_true
  | fz b=>exact absurd p' Bool.false_ne_true
  | non=>rw [dI r'] at q';cases q';exact ⟨SeqAt.RcAt.int_none z tz,SeqAt.RcNeAt.int_none z tz⟩
  | bl b=>rw [cL r'] at q';cases q';exact ⟨SeqAt.RcAt.int_bool z tz b,SeqAt.RcNeAt.int_bool z tz b⟩
  | int b=>rw [aT r'] at q';obtain ⟨t,rfl⟩:=q';exact ⟨SeqAt.RcAt.int_int z tz b t,SeqAt.RcNeAt.int_int z tz b t⟩
  | str b=>rw [bC r'] at q';obtain ⟨t,rfl⟩:=q';exact ⟨SeqAt.RcAt.int_str z tz b t,SeqAt.RcNeAt.int_str z tz b t⟩
  | tup ys =>
   obtain ⟨a',us',rfl,sq',rs'⟩:=cM r'
   obtain ⟨its',rv',ht'⟩:=kJ I sq'
   cases q'
   exact ⟨SeqAt.RcAt.int_tuple z tz ht' hu0,SeqAt.RcNeAt.int_tuple z tz ht' hu0⟩
 | str z =>
  rw [bC r] at q;obtain ⟨tz,rfl⟩:=q
  cases d' with
  | ref b=>exact absurd p' Bool.false_ne_true
  | fz b=>exact absurd p' Bool.false_ne_true
  | non=>rw [dI r'] at q';cases q';exact ⟨SeqAt.RcAt.str_none z tz,SeqAt.RcNeAt.str_none z tz⟩
  | bl b=>rw [cL r'] at q';cases q';exact ⟨SeqAt.RcAt.str_bool z tz b,SeqAt.RcNeAt.str_bool z tz b⟩
  | int b=>rw [aT r'] at q';obtain ⟨t,rfl⟩:=q';exact ⟨SeqAt.RcAt.str_int z tz b t,SeqAt.RcNeAt.str_int z tz b t⟩
  | str b=>rw [bC r'] at q';obtain ⟨t,rfl⟩:=q';exact ⟨SeqAt.RcAt.str_str z tz b t,SeqAt.RcNeAt.str_str z tz b t⟩
  | tup ys =>
   obtain ⟨a',us',rfl,sq',rs'⟩:=cM r'
   obtain ⟨its',rv',ht'⟩:=kJ I sq'
   cases q'
   exact ⟨SeqAt.RcAt.str_tuple z tz ht' hu0,SeqAt.RcNeAt.str_tuple z tz ht' hu0⟩
end
section
variable {X:Cx} {a b e o:Expr} {es:List Expr} {ta tb te to:DE} {t:DA} {pos:Pos}
def d2I (C:Int->Int->Prop) (g:Int->Int->D):D2:=fun x y M Q=>match x,y with
 | .int i,.int j=>C i j/\Q (g i j) M
 | _,_=>False
def d2J (g:Int->Int->D):D2:=fun x y M Q=>match x,y with
 | .int i,.int j=>Q (g i j) M
 | _,_=>False
theorem aIt {f:Value->Value->Sem Value} {C:Int->Int->Prop} {g:Int->Int->D} {g':Int->Int->V} (h:OpR X f (rI C g')) (hg:∀ H i j,Rep X.K H (g i j) (g' i j)):OpD X f (d2I C g) :=
 OpD.of h fun x y H M dx dy Q rx ry hm q=>by
  cases dx with
  | int i =>
   cases dy with
   | int j=>exact ⟨i,j,aT rx,aT ry,q.1,_,M,hg H i j,hm,.refl H,q.2⟩
   | _=>exact q.elim
  | _=>exact q.elim
theorem aHc {f:Value->Value->Sem Value} {g:Int->Int->D} {g':Int->Int->V} (h:OpR X f (rI0 g')) (hg:∀ H i j,Rep X.K H (g i j) (g' i j)):OpD X f (d2J g) :=
 OpD.of h fun x y H M dx dy Q rx ry hm q=>by
  cases dx with
  | int i =>
   cases dy with
   | int j=>exact ⟨i,j,aT rx,aT ry,_,M,hg H i j,hm,.refl H,q⟩
   | _=>exact q.elim
  | _=>exact q.elim
theorem nC:OpD X (binaryOp .Sub) (d2J fun i j=>.int (i - j)):=aHc aKI fun _ _ _=>bU
theorem aHP:OpR X (binaryOp .Mult) (rI IntMulOk fun i j=>.int (i * j)):=opI fun _ _ _ _ _ _ _ hc q=>mul_int q hc
theorem bW:OpD X (binaryOp .Mult) (d2I IntMulOk fun i j=>.int (i * j)):=aIt aHP fun _ _ _=>bU
def CFd (i j:Int):Prop:=j ≠ 0/\j.natAbs.log2 < 9000
theorem aKP:OpR X (binaryOp .FloorDiv) (rI CFd fun i j=>.int (i.fdiv j)):=opI fun _ _ _ _ _ _ _ hc q=>floordiv_int hc.1 q (.inl (PyProof.noPylong_of_log2 hc.2))
theorem dS:OpD X (binaryOp .FloorDiv) (d2I CFd fun i j=>.int (i.fdiv j)):=aIt aKP fun _ _ _=>bU
theorem dO:OpD X (binaryOp .Mod) (d2I (fun _ j=>j ≠ 0) fun i j=>.int (i.fmod j)):=aIt aIq fun _ _ _=>bU
theorem xH:OpD X (binaryOp .Pow) (d2I aNO fun i j=>.int (i ^ j.toNat)):=aIt aLk fun _ _ _=>bU
theorem qK:OpD X (compareOp .Lt) (d2J fun i j=>.bl (decide (i < j))):=aHc aNC fun _ _ _=>eB
theorem uX:OpD X (compareOp .LtE) (d2J fun i j=>.bl (decide (i<=j))):=aHc aOB fun _ _ _=>eB
theorem kT:OpD X (compareOp .Gt) (d2J fun i j=>.bl (decide (j < i))):=aHc aOA fun _ _ _=>eB
theorem aNL:OpD X (compareOp .GtE) (d2J fun i j=>.bl (decide (j<=i))):=aHc aOs fun _ _ _=>eB
def aNc:D2:=fun x y M Q=>match x,y with
 | .int i,.int j=>Q (.int (i + j)) M
 | .ref a,.ref b=>∃ xs ys,M a = some xs/\M b = some ys/\xs.length + ys.length<=1000/\∀ p:Addr,M p = none->Q (.ref p) (bH M p (xs ++ ys))
 | .fz xs,.ref b=>∃ ys,M b = some ys/\xs.length + ys.length<=1000/\∀ p:Addr,M p = none->Q (.ref p) (bH M p (xs ++ ys))
 | .tup xs,.tup ys=>xs ≠ []/\ys ≠ []/\xs.length + ys.length<=1000/\Q (.tup (xs ++ ys)) M
 | _,_=>False
theorem aGY {pins:List (Addr × Obj)} {σ:L2.St} {H:Hp} {s:Shared} (I:Inv X pins σ H s) {a:Addr} {xs:List V} (h:SqX X.K H a xs):xs.length<=sizeLine/\∃ (its:List Value) (n:Nat),cG xs its/\s.heap.get? a = some { cls:=.type "list",data:=.seq its.toArray n }:=by
 rcases h with ⟨o,h⟩ | ⟨its,n,hk,hz,r⟩
 ·obtain ⟨_,z,its,n,r,e⟩:=I.hok a _ h
  exact ⟨z,its,n,r,e⟩
 ·have e:=r.length
  simp only [Array.length_toList] at e
  exact ⟨by omega,its.toList,n,r,by simpa using I.kIn a _ hk⟩
theorem dZ:OpD X (binaryOp .Add) aNc:=by
 intro pins s σ H x y v u Q I rx ry ⟨dx,dy,M,Q',r1,r2,hm,q,k⟩
 cases dx with
 | int i =>
  cases dy with
  | int j=>exact aKR pins s σ H x y v u Q I rx ry ⟨i,j,aT r1,aT r2,k _ H ⟨_,M,bU,hm,.refl H,q⟩⟩
  | _=>exact q.elim
 | ref a =>
  cases dy with
  | ref b =>
   obtain ⟨xs,ys,ha,hb,hl,q⟩:=q
   obtain ⟨us,hu,ru⟩:=hm.l a xs ha
   obtain ⟨ws,hw,rw'⟩:=hm.l b ys hb
   refine aLj pins s σ H x y v u Q I rx ry ⟨a,b,us,ws,bE r1,bE r2,hu,hw,?_,fun p hp=>k _ _ ⟨.ref p,_,gP,hm.lnew hp (ru.append rw'),Ext.new hp _,q p (hm.fresh hp)⟩⟩
   rw [<- ru.length,<- rw'.length];exact Nat.le_of_lt (fA hl)
  | _=>exact q.elim
 | fz xs =>
  cases dy with
  | ref b =>
   obtain ⟨ys,hb,hl,q⟩:=q
   obtain ⟨a,us,rfl,sq,ru⟩:=nW r1
   obtain ⟨ws,hw,rw'⟩:=hm.l b ys hb
   obtain rfl:=bE r2
   cases rx
   cases ry
   obtain ⟨z,its,n,r,e⟩:=aGY I sq
   obtain ⟨z2,its2,n2,r3,hl2,e2⟩:=I.lstM hw
   have l1:=r.length
   have l2:=r3.length
   have l3:=ru.length
   have l4:=rw'.length
   have hz:=fA hl
   refine PySem.P.add_list e e2 ?_ (by rw [size_toArray,size_toArray];omega)
   have ea:its.toArray ++ its2.toArray = (its ++ its2).toArray:=by simp
   rw [ea]
   refine ⟨.ref _,_,I.lnew (t':=s.toks) (r.append r3) (by rw [length_append];omega),rfl,k _ _ ⟨.ref _,_,gP,hm.lnew I.fresh (ru.append rw'),Ext.new I.fresh _,q _ (hm.fresh I.fresh)⟩⟩
  | _=>exact q.elim
 | tup xs =>
  cases dy with
  | tup ys =>
   obtain ⟨h1,h2,hl,q⟩:=q
   obtain ⟨a,us,rfl,sq,ru⟩:=cM r1
   obtain ⟨b,ws,rfl,sq2,rw'⟩:=cM r2
   have l3:=ru.length
   have l4:=rw'.length
   refine aD6 pins s σ H _ _ v u Q I rx ry ?_
   have n1:us ≠ []:=fun z=>by rw [z] at l3;exact h1 (List.length_eq_zero_iff.mp l3)
   have n2:ws ≠ []:=fun z=>by rw [z] at l4;exact h2 (List.length_eq_zero_iff.mp l4)
   exact ⟨a,b,us,ws,rfl,rfl,sq,sq2,n1,by rw [<- l3,<- l4];exact Nat.le_of_lt (fA hl),fun z=>absurd z n2,fun _ p hp=>k _ _ ⟨.tup _,M,cI (.of dN) ((ru.append rw').ext (Ext.new hp _)),hm.new hp _,Ext.new hp _,q⟩⟩
  | _=>exact q.elim
 | _=>exact q.elim
def dEq (g:Bool->Bool):D2:=fun x y M Q=>match x,y with
 | .ref a,.ref b=>∃ xs ys,M a = some xs/\M b = some ys/\(a ≠ b)/\xs.all (bR 59) = true/\ys.all (bR 59) = true/\Q (.bl (g (mU xs ys))) M
 | x,y=>bR 60 x = true/\bR 60 y = true/\Q (.bl (g (eqD x y))) M
theorem aHs {pins:List (Addr × Obj)} {σ:L2.St} {H:Hp} {s:Shared} (I:Inv X pins σ H s) {A:Around} (hu:A.units + 60 < cLine) {a b:Addr} {us ws:List V} {xs ys:List D} (ha:H a = some (.lst us)) (hb:H b = some (.lst ws)) (ru:bZ X.K H xs us) (rw':bZ X.K H ys ws)
  (p:xs.all (bR 59) = true) (p':ys.all (bR 59) = true):SeqAt.RcAt A s (.ref a) (.ref b) (mU xs ys)/\SeqAt.RcNeAt A s (.ref a) (.ref b) (!mU xs ys):=by
 obtain ⟨z,its,n,r,hl,e⟩:=I.lstM ha
 obtain ⟨z2,its2,n2,r3,hl2,e2⟩:=I.lstM hb
 have i1:s.heap.IsList a its.toArray:=⟨_,e,rfl,_,rfl⟩
 have i2:s.heap.IsList b its2.toArray:=⟨_,e2,rfl,_,rfl⟩
 have l3:=ru.length
 have l4:=rw'.length
 have hu0:A.units < cLine:=by omega
 by_cases hz:its.toArray.size = its2.toArray.size
 ·have hz':=hz
  rw [size_toArray,size_toArray] at hz'
  have hit:∀ j (h1:j < its.toArray.size) (h2:j < its2.toArray.size),SeqAt.EqAt A.in1 s its.toArray[j] its2.toArray[j] (vG xs ys j):=fun j j1 j2=>by
   have hu':A.in1.units + 59 < cLine:=by show A.units + 1 + 59 < cLine;omega
   have:=sI (A:=A.in1) (s:=s) (fun {d d' v v' u u'} p p' r r' q q'=>aGV I 59 hu' p p' r r' q q') p p' ru rw' r r3 j (by simpa using j1) (by simpa using j2)
   simpa using this
  have hz2:mU xs ys = (range its.toArray.size).all (vG xs ys):=by
   rw [kE,show min xs.length ys.length = its.toArray.size by rw [size_toArray];omega,show (xs.length == ys.length) = true by simp;omega,Bool.and_true]
  rw [hz2]
  exact ⟨SeqAt.RcAt.lists i1 i2 hz hu0 hit,SeqAt.RcNeAt.lists i1 i2 hz hu0 hit⟩
 ·have hz':=hz
  rw [size_toArray,size_toArray] at hz'
  have hz2:mU xs ys = false:=by
   rw [kE,show (xs.length == ys.length) = false by simp;omega,Bool.and_false]
  rw [hz2]
  exact ⟨SeqAt.RcAt.lists_lengths i1 i2 (by simpa using hz) hu0,SeqAt.RcNeAt.lists_lengths i1 i2 (by simpa using hz) hu0⟩
theorem aHa (hu:X.A.units + 60 < cLine):OpD X (compareOp .Eq) (dEq id)/\OpD X (compareOp .NotEq) (dEq not):=by
 have key:∀ {pins:List (Addr × Obj)} {s:Shared} {σ:L2.St} {H:Hp} {x y:V} {v u:Value} {dx dy:D} {M:DM} {Q':DQ} {g:Bool->Bool},Inv X pins σ H s->cS x v->cS y u->Rep X.K H dx x->Rep X.K H dy y->cH X.K M H->dEq g dx dy M Q' ->
   ∃ b,SeqAt.RcAt X.A s v u b/\SeqAt.RcNeAt X.A s v u (!b)/\Q' (.bl (g b)) M:=by
  intro pins s σ H x y v u dx dy M Q' g I rx ry r1 r2 hm q
  have gen:bR 60 dx = true->bR 60 dy = true->Q' (.bl (g (eqD dx dy))) M->∃ b,SeqAt.RcAt X.A s v u b/\SeqAt.RcNeAt X.A s v u (!b)/\Q' (.bl (g b)) M:=fun p p' q=>let ⟨h1,h2⟩:=aNj I hu p p' r1 r2 rx ry;⟨_,h1,h2,q⟩
  cases dx with
  | ref a =>
   cases dy with
   | ref b =>
    obtain ⟨xs,ys,ha,hb,_,p,p',q⟩:=q
    obtain ⟨us,hu',ru⟩:=hm.l a xs ha
    obtain ⟨ws,hw,rw'⟩:=hm.l b ys hb
    obtain rfl:=bE r1
    obtain rfl:=bE r2
    cases rx
    cases ry
    obtain ⟨h1,h2⟩:=aHs I hu hu' hw ru rw' p p'
    exact ⟨_,h1,h2,q⟩
   | _=>exact gen q.1 q.2.1 q.2.2
  | _=>exact gen q.1 q.2.1 q.2.2
 refine ⟨fun pins s σ H x y v u Q I rx ry ⟨dx,dy,M,Q',r1,r2,hm,q,k⟩=>?_,fun pins s σ H x y v u Q I rx ry ⟨dx,dy,M,Q',r1,r2,hm,q,k⟩=>?_⟩
 ·obtain ⟨b,h1,_,q⟩:=key I rx ry r1 r2 hm q
  exact h1 X.prog X.w X.xe _ ⟨.bl b,H,I,rfl,k _ H ⟨.bl b,M,eB,hm,.refl H,q⟩⟩
 ·obtain ⟨b,_,h2,q⟩:=key I rx ry r1 r2 hm q
  exact h2 X.prog X.w X.xe _ ⟨.bl (!b),H,I,rfl,k _ H ⟨.bl (!b),M,eB,hm,.refl H,q⟩⟩
theorem bO {k:Nat} (hr:eD k X.A):OpD X (compareOp .Eq) (dEq id):=(aHa (by have:=hr.un;omega)).1
theorem fX {k:Nat} (hr:eD k X.A):OpD X (compareOp .NotEq) (dEq not):=(aHa (by have:=hr.un;omega)).2
def aKs (ta:DE):DE:=fun ρ M Q=>ta ρ M fun x M1=>match x with
 | .int i=>Q (.int (-i)) M1
 | _=>False
theorem aLf (ha:PDE X a ta):PDE X (.UnaryOp .USub a pos) (aKs ta) :=
 cO (aMG aK6 ha) fun σ H Q ⟨ρ,M,Q',re,hm,q,k⟩=>⟨ρ,M,_,re,hm,q,fun x H1 ⟨d,M1,rd,hm1,ex,q1⟩=>by
  cases d with
  | int i=>exact ⟨i,aT rd,k _ H1 ⟨_,M1,bU,hm1,ex,q1⟩⟩
  | _=>exact q1.elim⟩
def mB:D2:=fun x y M Q=>match x,y with
 | .tup ds,.int i=>match atI ds i with
  | some d=>Q d M
  | none=>False
 | .fz ds,.int i=>match atI ds i with
  | some d=>Q d M
  | none=>False
 | .ref a,.int i=>∃ ds d,M a = some ds/\atI ds i = some d/\Q d M
 | _,_=>False
theorem xY {K:Frag} {H:Hp} {ds:List D} {xs:List V} {i:Int} {d:D} (r:bZ K H ds xs) (h:atI ds i = some d):∃ v,atI xs i = some v/\Rep K H d v:=by
 unfold atI at h ⊢
 rw [<- r.length]
 cases e:ixN ds.length i with
 | none=>rw [e] at h;cases h
 | some j =>
  rw [e] at h
  exact r.get h
theorem ixd:IxR X fun x y H Q=>∃ dx dy M Q',Rep X.K H dx x/\Rep X.K H dy y/\cH X.K M H/\mB dx dy M Q'/\∀ v H',LQ X.K H Q' v H'->Q v H':=by
 intro value slice pins s σ H x y v u Q I rx ry ⟨dx,dy,M,Q',r1,r2,hm,q,k⟩ hs
 cases dx with
 | tup ds =>
  cases dy with
  | int i =>
   obtain ⟨a,us,rfl,sq,ru⟩:=cM r1
   obtain rfl:=aT r2
   cases e:atI ds i with
   | none=>exact absurd q (by show ¬ (match atI ds i with | some d=>Q' d M | none=>False);rw [e];exact id)
   | some d =>
    have q':Q' d M:=by
     have z:(match atI ds i with | some d=>Q' d M | none=>False):=q
     rw [e] at z;exact z
    obtain ⟨w,hw,rw'⟩:=xY ru e
    exact aLM value slice pins s σ H _ _ v u Q I rx ry ⟨a,us,i,w,rfl,rfl,sq,hw,k _ H ⟨d,M,rw',hm,.refl H,q'⟩⟩ hs
  | _=>exact q.elim
 | fz ds =>
  cases dy with
  | int i =>
   obtain ⟨a,us,rfl,sq,ru⟩:=nW r1
   obtain rfl:=aT r2
   cases e:atI ds i with
   | none=>exact absurd q (by show ¬ (match atI ds i with | some d=>Q' d M | none=>False);rw [e];exact id)
   | some d =>
    have q':Q' d M:=by
     have z:(match atI ds i with | some d=>Q' d M | none=>False):=q
     rw [e] at z;exact z
    obtain ⟨w,hw,rw'⟩:=xY ru e
    exact aDT value slice pins s σ H _ _ v u Q I rx ry ⟨a,us,i,w,rfl,rfl,sq.sq,hw,k _ H ⟨d,M,rw',hm,.refl H,q'⟩⟩ hs
  | _=>exact q.elim
 | ref a =>
  cases dy with
  | int i =>
   obtain ⟨ds,d,ha,e,q'⟩:=q
   obtain rfl:=bE r1
   obtain rfl:=aT r2
   obtain ⟨us,hu,ru⟩:=hm.l a ds ha
   obtain ⟨w,hw,rw'⟩:=xY ru e
   exact aDT value slice pins s σ H _ _ v u Q I rx ry ⟨a,us,i,w,rfl,rfl,.of hu,hw,k _ H ⟨d,M,rw',hm,.refl H,q'⟩⟩ hs
  | _=>exact q.elim
 | _=>exact q.elim
theorem aMN (ha:PDE X a ta) (hb:PDE X b tb) (hs:sV b:=by exact fun _ _=>rfl):PDE X (.Subscript a b pos) (dOp mB ta tb) :=
 cO (aOv ixd ha hb hs) fun σ H Q h=>aBk (fun _ _ _ _ z=>z) h
abbrev DO:=cR->DM->(Option Int->DM->Prop)->Prop
def xQ (K:Frag) (t:DO):TO:=fun σ H Q=>∃ ρ M Q',fP K H ρ σ/\cH K M H/\t ρ M Q'/\∀ i H',(∃ M',cH K M' H'/\Ext H H'/\Q' i M')->Q i H'
noncomputable def aLF:DO:=fun _ M Q=>Q none M
noncomputable def dPt (t:DE):DO:=fun ρ M Q=>t ρ M fun x M1=>match x with
 | .int i=>Q (some i) M1
 | _=>False
theorem aIW:PO X none (xQ X.K aLF):=fun pins s σ H Q I ⟨ρ,M,Q',re,hm,q,k⟩=>aI2 pins s σ H Q I (k none H ⟨M,hm,.refl H,q⟩)
theorem aH2 (h:PDE X e te):PO X (some e) (xQ X.K (dPt te)):=fun pins s σ H Q I ⟨ρ,M,Q',re,hm,q,k⟩=>aHI h pins s σ H Q I ⟨ρ,M,_,re,hm,q,fun v H1 ⟨d,M1,rd,hm1,ex,q1⟩=>by
 cases d with
 | int i=>exact ⟨i,aT rd,k (some i) H1 ⟨M1,hm1,ex,q1⟩⟩
 | _=>exact q1.elim⟩
noncomputable def cutD (xs:List D) (lo hi:Option Int):List D:=(xs.drop (HT.sIx xs.length 0 lo)).take (HT.sIx xs.length xs.length hi - HT.sIx xs.length 0 lo)
theorem yQ {K:Frag} {H:Hp} {ds:List D} {xs:List V} (r:bZ K H ds xs) (lo hi:Option Int):bZ K H (cutD ds lo hi) (aBY xs lo hi):=by
 unfold cutD aBY
 rw [r.length]
 exact (r.drop _).take _
def aNk (x:D) (lo hi:Option Int) (M:DM) (Q:DQ):Prop:=match x with
 | .fz ds=>∀ p:Addr,M p = none->Q (.ref p) (bH M p (cutD ds lo hi))
 | .ref a=>∃ ds,M a = some ds/\∀ p:Addr,M p = none->Q (.ref p) (bH M p (cutD ds lo hi))
 | _=>False
def dSl (te:DE) (tl th:DO):DE:=fun ρ M Q=>te ρ M fun x M1=>tl ρ M1 fun l M2=>th ρ M2 fun h M3=>aNk x l h M3 Q
variable {lo hi:Option Expr} {tl th:DO} {p2:Pos}
theorem aHl (he:PDE X e te) (hl:PO X lo (xQ X.K tl)) (hu:PO X hi (xQ X.K th)):PDE X (.Subscript e (.Slice lo hi none p2) pos) (dSl te tl th) :=
 cO (yN aIn he hl hu) fun σ H Q ⟨ρ,M,Q',re,hm,q,k⟩=>⟨ρ,M,_,re,hm,q,fun v H1 ⟨d,M1,rd,hm1,e1,q1⟩=>⟨ρ,M1,_,re.ext e1,hm1,q1,fun l H2 ⟨M2,hm2,e2,q2⟩=>⟨ρ,M2,_,(re.ext e1).ext e2,hm2,q2,fun h H3 ⟨M3,hm3,e3,q3⟩=>by
  have rd3:=(rd.ext e2).ext e3
  have ex:=(e1.trans e2).trans e3
  cases d with
  | fz ds =>
   obtain ⟨a,us,rfl,sq,ru⟩:=nW rd3
   exact ⟨a,us,rfl,sq.sq,fun p hp=>k _ _ ⟨.ref p,_,gP,hm3.lnew hp (yQ ru l h),ex.trans (Ext.new hp _),q3 p (hm3.fresh hp)⟩⟩
  | ref a =>
   obtain ⟨ds,ha,q3⟩:=q3
   obtain rfl:=bE rd
   obtain ⟨us,hu,ru⟩:=hm3.l a ds ha
   exact ⟨a,us,rfl,.of hu,fun p hp=>k _ _ ⟨.ref p,_,gP,hm3.lnew hp (yQ ru l h),ex.trans (Ext.new hp _),q3 p (hm3.fresh hp)⟩⟩
  | _=>exact q3.elim⟩⟩⟩
abbrev DSp:=List D->DM->DQ->Prop
def oI (K:Frag) (sp:DSp):Sp:=fun vs H Q _=>∃ ds M Q',bZ K H ds vs/\cH K M H/\sp ds M Q'/\∀ v H',LQ K H Q' v H'->Q v H'
def nI (sp:DSp) (t:DA):DE:=fun ρ M Q=>t ρ M fun ds M1=>sp ds M1 Q
variable {CX:CXT} {k:Nat} {f:Addr} {fd:FuncData} {ps:List Str} {sp:DSp} {E:XK} {x:Str} {p:Pos}
theorem aII (F:jE X.prog X.w X.K X.mg X.base CX k f fd ps (oI X.K sp)) (hr:eD k X.A) (hm:X.mg x = some (.ref f)) (hk:keepIn X.K (.ref f) = true) (hb:lT X.K fd ps []) (hx:uP CX X E) (ha:PDA X (e :: es) t) (hg:Gl X x:=by rfl)
  (hdb:(x == ("__debug__":Str)) = false:=by decide) (he:starEach (e :: es) X.env = (false,eval e X.env) :: starEach es X.env:=by rfl) (hpl:(backTo pos (starEach es X.env)).any (·.1) = false:=by rfl) :
  PDE X (.Call (.Name x p) (e :: es) [] pos) (nI sp t) :=
 cO (aI7 F hr hg hm hk hb .nil hx ha hdb he hpl) fun σ H Q ⟨ρ,M,Q',re,hm,q,k⟩=>⟨ρ,M,_,re,hm,q,fun vs H1 ⟨ds,M1,rs,hm1,ex,q1⟩=>⟨ds,M1,Q',by rw [append_nil];exact rs,hm1,q1,fun v H' z=>k v H' (z.back ex)⟩⟩
theorem aGO (F:jE X.prog X.w X.K X.mg X.base CX k f fd ps (oI X.K sp)) (hr:eD k X.A) (hm:X.mg x = some (.ref f)) (hk:keepIn X.K (.ref f) = true) (hb:lT X.K fd ps []) (hx:uP CX X E) (hg:Gl X x:=by rfl)
  (hdb:(x == ("__debug__":Str)) = false:=by decide):PDE X (.Call (.Name x p) [] [] pos) (nI sp mK) :=
 cO (aFF F hr hg hm hk hb .nil hx hdb) fun σ H Q ⟨ρ,M,Q',re,hm,q,k⟩=>⟨[],M,Q',cP,hm,q,k⟩
def gK (X:Cx) (fv:Value) (r:DSp):Prop:=lK X fv fun vs H Q=>∃ ds M Q',bZ X.K H ds vs/\cH X.K M H/\r ds M Q'/\∀ v H',LQ X.K H Q' v H'->Q v H'
theorem gK.of {fv:Value} {r:List V->Hp->VK->Prop} {r':DSp} (h:lK X fv r) (l:∀ vs H M ds Q,bZ X.K H ds vs->cH X.K M H->r' ds M Q->r vs H (LQ X.K H Q)):gK X fv r':=fun pins s σ H xs us Q I rs ⟨ds,M,Q',r1,hm,q,k⟩ =>
 thn (h pins s σ H xs us _ I rs (l xs H M ds Q' r1 hm q)) fun v s h=>aEi h k
theorem aFZ {r:DSp} {σ:L2.St} {H:Hp} {Q:VK} (h:low X.K (nI r t) σ H Q):aNz X.K t σ H fun vs H1=>∃ ds M Q',bZ X.K H1 ds vs/\cH X.K M H1/\r ds M Q'/\∀ v H',LQ X.K H1 Q' v H'->Q v H':=by
 obtain ⟨ρ,M,Q',re,hm,q,k⟩:=h
 exact ⟨ρ,M,_,re,hm,q,fun vs H1 ⟨ds,M1,rs,hm1,ex,q1⟩=>⟨ds,M1,Q',rs,hm1,q1,fun v H' z=>k v H' (z.back ex)⟩⟩
theorem aF7 {id:String} {r:DSp} (hc:gK X (.builtin id) r) (hm:X.mg x = none) (ha:PDA X (e :: es) t) (hv:bootBuiltins x = some (.builtin id):=by rfl) (hg:Gl X x:=by rfl) (hn:x ≠ "__name__":=by decide) (hdb:(x == ("__debug__":Str)) = false:=by decide)
  (he:starEach (e :: es) X.env = (false,eval e X.env) :: starEach es X.env:=by rfl) (hpl:(backTo pos (starEach es X.env)).any (·.1) = false:=by rfl):PDE X (.Call (.Name x p) (e :: es) [] pos) (nI r t) :=
 cO (aCb hc hg hm hv ha hn hdb he hpl) fun σ H Q h=>aFZ h
theorem aEE {T:String} {r:DSp} (hc:gK X (.type T) r) (hm:X.mg x = none) (ha:PDA X (e :: es) t) (hv:bootBuiltins x = some (.type T):=by rfl) (hg:Gl X x:=by rfl) (hn:x ≠ "__name__":=by decide) (hdb:(x == ("__debug__":Str)) = false:=by decide)
  (he:starEach (e :: es) X.env = (false,eval e X.env) :: starEach es X.env:=by rfl) (hpl:(backTo pos (starEach es X.env)).any (·.1) = false:=by rfl):PDE X (.Call (.Name x p) (e :: es) [] pos) (nI r t) :=
 cO (aE9 hc hg hm hv ha hn hdb he hpl) fun σ H Q h=>aFZ h
end
section
variable {X:Cx} {a b e o:Expr} {es:List Expr} {ta tb te to:DE} {t:DA} {pos:Pos}
def aNs:DSp:=fun ds M Q=>match ds with
 | [.int i]=>Q (.int (if i < 0 then -i else i)) M
 | _=>False
theorem fD {K:Frag} {H:Hp} {d:D} {vs:List V} (h:bZ K H [d] vs):∃ v,vs = [v]/\Rep K H d v:=by
 obtain ⟨v,r,rfl,rv,rr⟩:=aW h
 obtain rfl:=bV rr
 exact ⟨v,rfl,rv⟩
theorem aMq {K:Frag} {H:Hp} {d d2:D} {vs:List V} (h:bZ K H [d,d2] vs):∃ v v2,vs = [v,v2]/\Rep K H d v/\Rep K H d2 v2:=by
 obtain ⟨v,r,rfl,rv,rr⟩:=aW h
 obtain ⟨v2,rfl,rv2⟩:=fD rr
 exact ⟨v,v2,rfl,rv,rv2⟩
theorem wY:gK X (.builtin "abs") aNs:=gK.of aHq fun vs H M ds Q rs hm q=>by
 rcases ds with _ | ⟨d,_ | ⟨d2,r⟩⟩
 ·exact q.elim
 ·cases d with
  | int i =>
   obtain ⟨v,rfl,rv⟩:=fD rs
   obtain rfl:=aT rv
   exact ⟨i,rfl,_,M,bU,hm,.refl H,q⟩
  | _=>exact q.elim
 ·cases d<;>exact q.elim
def aMI:DSp:=fun ds M Q=>match ds with
 | [.int i]=>Q (.int i) M
 | [.bl k]=>Q (.int (if k then 1 else 0)) M
 | _=>False
theorem aFB:gK X (.type "int") aMI:=gK.of aEJ fun vs H M ds Q rs hm q=>by
 rcases ds with _ | ⟨d,_ | ⟨d2,r⟩⟩
 ·exact q.elim
 ·cases d with
  | int i =>
   obtain ⟨v,rfl,rv⟩:=fD rs
   obtain rfl:=aT rv
   exact .inl ⟨i,rfl,_,M,bU,hm,.refl H,q⟩
  | bl i =>
   obtain ⟨v,rfl,rv⟩:=fD rs
   obtain rfl:=cL rv
   exact .inr ⟨i,rfl,_,M,bU,hm,.refl H,q⟩
  | _=>exact q.elim
 ·cases d<;>exact q.elim
def sO:DSp:=fun ds M Q=>match ds with
 | [.tup xs]=>Q (.int xs.length) M
 | [.fz xs]=>Q (.int xs.length) M
 | [.ref a]=>∃ xs,M a = some xs/\Q (.int xs.length) M
 | _=>False
theorem fV:gK X (.builtin "len") sO:=gK.of aBe fun vs H M ds Q rs hm q=>by
 rcases ds with _ | ⟨d,_ | ⟨d2,r⟩⟩
 ·exact q.elim
 ·cases d with
  | tup xs =>
   obtain ⟨v,rfl,rv⟩:=fD rs
   obtain ⟨a,us,rfl,sq,ru⟩:=cM rv
   exact ⟨a,us,rfl,.inr sq,_,M,by rw [<- ru.length];exact bU,hm,.refl H,q⟩
  | fz xs =>
   obtain ⟨v,rfl,rv⟩:=fD rs
   obtain ⟨a,us,rfl,sq,ru⟩:=nW rv
   exact ⟨a,us,rfl,.inl sq.sq,_,M,by rw [<- ru.length];exact bU,hm,.refl H,q⟩
  | ref a =>
   obtain ⟨v,rfl,rv⟩:=fD rs
   obtain rfl:=bE rv
   obtain ⟨xs,ha,q⟩:=q
   obtain ⟨us,hu,ru⟩:=hm.l a xs ha
   exact ⟨a,us,rfl,.inl (.of hu),_,M,by rw [<- ru.length];exact bU,hm,.refl H,q⟩
  | _=>exact q.elim
 ·cases d<;>exact q.elim
def aKz:DSp:=fun ds M Q=>match ds with
 | [.tup xs]=>Q (.tup xs) M
 | [.ref a]=>∃ xs,M a = some xs/\Q (.tup xs) M
 | _=>False
theorem jA:gK X (.type "tuple") aKz:=gK.of zE fun vs H M ds Q rs hm q=>by
 rcases ds with _ | ⟨d,_ | ⟨d2,r⟩⟩
 ·exact q.elim
 ·cases d with
  | tup xs =>
   obtain ⟨v,rfl,rv⟩:=fD rs
   obtain ⟨a,us,rfl,sq,ru⟩:=cM rv
   exact ⟨a,us,rfl,.inr ⟨sq,_,M,cI sq ru,hm,.refl H,q⟩⟩
  | ref a =>
   obtain ⟨v,rfl,rv⟩:=fD rs
   obtain rfl:=bE rv
   obtain ⟨xs,ha,q⟩:=q
   obtain ⟨us,hu,ru⟩:=hm.l a xs ha
   exact ⟨a,us,rfl,.inl ⟨.of hu,fun p hp=>⟨.tup xs,M,cI (.of dN) (ru.ext (Ext.new hp _)),hm.new hp _,Ext.new hp _,q⟩⟩⟩
  | _=>exact q.elim
 ·cases d<;>exact q.elim
def aAE (to te:DE):DE:=fun ρ M Q=>to ρ M fun x M1=>match x with
 | .ref p=>(∃ ds,M1 p = some ds)/\jB te mK ρ M1 fun ys M2=>∃ ds y,ys = [y]/\M2 p = some ds/\ds.length < 1000/\Q .non (bH M2 p (ds ++ [y]))
 | _=>False
theorem aE3 {apos cpos:Pos} (ho:PDE X o to) (he:PDE X e te) (hse:starEach [e] X.env = (false,eval e X.env) :: starEach [] X.env:=by rfl)
  (hbase:attributeBase o "append" X.env (eval o X.env) = eval o X.env:=by rfl)
  (hfew:((backTo cpos (starEach [e] X.env)).all (fun x=>!x.1) && (backToKw cpos (keywordEach [] X.env)).all (fun x=>x.1.isSome)
   && decide ([e].length + ([]:List Keyword).length + (if ([]:List Keyword).isEmpty then 0 else 1) < 30)) = true:=by rfl)
  (hline:(apos.endLine == cpos.line) = true:=by rfl) (hplain:(backTo cpos (starEach [] X.env)).any (·.1) = false:=by rfl) :
  PDE X (.Call (.Attribute o "append" apos) [e] [] cpos) (aAE to te) :=
 cO (aB1 PySem.F.plainAttrs_list PySem.F.slot_list_append PySem.F.type_list_append aEX ho (kS he oZ hse) hbase hfew hline hse hplain) fun σ H Q ⟨ρ,M,Q',re,hm,q,k⟩=>⟨ρ,M,_,re,hm,q,fun v H1 ⟨d,M1,rd,hm1,e1,q1⟩=>by
  cases d with
  | ref p =>
   obtain rfl:=bE rd
   obtain ⟨⟨ds0,h0⟩,q1⟩:=q1
   obtain ⟨us0,hu0,_⟩:=hm1.l p ds0 h0
   refine ⟨.inl ⟨rfl,us0,.of hu0⟩,ρ,M1,_,re.ext e1,hm1,q1,fun vs H2 ⟨dvs,M2,rs,hm2,e2,ds,y,ey,hp,hl,q2⟩=>?_⟩
   subst ey
   obtain ⟨w,rfl,rw'⟩:=fD rs
   obtain ⟨us,hu,ru⟩:=hm2.l p ds hp
   exact ⟨p,us,w,rfl,rfl,hu,by rw [<- ru.length];exact fA (Nat.le_of_lt hl),k _ _ ⟨.non,_,sS,hm2.put hu (ru.append (bJ rw' cP)),(e1.trans e2).trans (Ext.put hu _),q2⟩⟩
  | _=>exact q1.elim⟩
noncomputable def tyD:D->Option String
 | .non=>some "NoneType"
 | .bl _=>some "bool"
 | .int _=>some "int"
 | .str _=>some "str"
 | .tup _=>some "tuple"
 | .fz _=>some "list"
 | .ref _=>none
theorem tyT {K:Frag} {H:Hp} {s:Shared} {pins:List (Addr × Obj)} {σ:L2.St} (I:Inv X pins σ H s) {a:Addr} {xs:List V} (sq:SqT X.K H a xs):∃ o,s.heap.get? a = some o/\o.cls = .type "tuple":=by
 obtain ⟨its,_,⟨o,h1,h2,_⟩,_⟩:=I.tuple sq
 exact ⟨o,h1,h2⟩
theorem aN7 {K:Frag} {H:Hp} {s:Shared} {pins:List (Addr × Obj)} {σ:L2.St} {A:Around} {E:Value->Shared->Prop} {Q:Value->Shared->Prop} {c:Value} {d:D} {v:V} {u:Value} {T:String} {k:Bool} (I:Inv X pins σ H s) (rd:Rep X.K H d v) (rv:cS v u) (ty:tyD d = some T)
  (e:kitOne X.K (.type T) c = some k) (h:∀ tk,Q (.bool k) { s with toks:=tk }):wpAny (model X.prog X.w) A (call (.builtin "isinstance") [u,c]) Q E s:=by
 cases d with
 | non=>cases ty;rw [dI rd] at rv;exact lU I rv (.non) e h
 | bl b=>cases ty;rw [cL rd] at rv;exact lU I rv (.bl b) e h
 | int b=>cases ty;rw [aT rd] at rv;exact lU I rv (.int b) e h
 | str b=>cases ty;rw [bC rd] at rv;exact lU I rv (.str b) e h
 | ref b=>cases ty
 | tup b =>
  cases ty
  obtain ⟨a,us,rfl,sq,ru⟩:=cM rd
  cases rv
  obtain ⟨o,h1,h2⟩:=tyT (K:=K) I sq
  exact kia_one PySem.W.kitx_tuple I.kIn ⟨o,h1,h2⟩ e (fun z=>nomatch z) h
 | fz b =>
  cases ty
  obtain ⟨a,us,rfl,sq,ru⟩:=nW rd
  cases rv
  obtain ⟨z,its,n,r,e1⟩:=aGY I sq
  exact kia_one kitx_list I.kIn ⟨_,e1,rfl⟩ e (fun z=>nomatch z) h
def dIs (K:Frag) (c:Value) (te:DE):DE:=fun ρ M Q=>te ρ M fun d M1=>(∃ T k,tyD d = some T/\kitOne K (.type T) c = some k/\Q (.bl k) M1) ∨ (∃ (p:Addr) (xs:List D) (k:Bool),d = .ref p/\M1 p = some xs/\kitOne K (.type "list") c = some k/\Q (.bl k) M1)
theorem aI8 {T:String} {x:Str} {p p2:Pos} (he:PDE X e te) (hm:X.mg "isinstance" = none) (hmx:X.mg x = none) (hv:bootBuiltins x = some (.type T):=by rfl) (hg:Gl X "isinstance":=by rfl) (hgx:Gl X x:=by rfl) (hn:x ≠ "__name__":=by decide) (hdb:(x == ("__debug__":Str)) = false:=by decide)
  (hse:starEach [e,.Name x p2] X.env = (false,eval e X.env) :: starEach [.Name x p2] X.env:=by rfl) (hse2:starEach [.Name x p2] X.env = (false,eval (.Name x p2) X.env) :: starEach [] X.env:=by rfl) (hpl:(backTo pos (starEach [.Name x p2] X.env)).any (·.1) = false:=by rfl) :
  PDE X (.Call (.Name "isinstance" p) [e,.Name x p2] [] pos) (dIs X.K (.type T) te):=by
 have hc:lK X (.builtin "isinstance") fun vs H Q=>∃ d M Q' v,vs = [v,.ty T]/\Rep X.K H d v/\cH X.K M H/\((∃ T' k,tyD d = some T'/\kitOne X.K (.type T') (.type T) = some k/\Q' (.bl k) M) ∨ (∃ (p:Addr) (xs:List D) (k:Bool),d = .ref p/\M p = some xs/\kitOne X.K (.type "list") (.type T) = some k/\Q' (.bl k) M))/\∀ v H',LQ X.K H Q' v H'->Q v H':=by
  intro pins s σ H xs us Q I rs ⟨d,M,Q',v,e1,rd,hm,q,k⟩
  subst e1
  obtain ⟨u1,u2,rfl,rv,rt⟩:=rs.two
  cases rt
  rcases q with ⟨T',b,ty,e2,q⟩ | ⟨p,ys,b,rfl,hp,e2,q⟩
  ·exact aN7 (K:=X.K) I rd rv ty e2 fun tk=>⟨.bl b,H,I.tok tk,rfl,k _ H ⟨_,M,eB,hm,.refl H,q⟩⟩
  ·obtain rfl:=bE rd
   obtain ⟨us,hu,ru⟩:=hm.l p ys hp
   exact lU I rv (.lst hu) e2 fun tk=>⟨.bl b,H,I.tok tk,rfl,k _ H ⟨_,M,eB,hm,.refl H,q⟩⟩
 refine cO (aCb hc hg hm rfl (aA3 he (aA3 (aIy hgx hmx hv (v:=.ty T) rfl hn hdb) aF3 hse2) hse) (by decide) (by decide) hse hpl) fun σ H Q ⟨ρ,M,Q',re,hm,q,k⟩=>?_
 exact ⟨ρ,M,_,re,hm,q,fun v H1 ⟨d,M1,rd,hm1,ex,q1⟩=>⟨d,M1,Q',v,rfl,rd,hm1,q1,fun v H' z=>k v H' (z.back ex)⟩⟩
end
noncomputable def iA (N:List Str) (ds:List D):cR:=ds.map some ++ replicate (N.length - ds.length) none
noncomputable def Dn (Q:DQ):DQ:=fun d M=>∃ M',aZ M' M/\Q d M'
section
variable {P:Program} {w:World} {K:Frag} {mg:Str->Option Value} {base:Heap}
theorem qX {H:Hp} {ds:List D} {vs:List V} (r:bZ K H ds vs) (N:List Str):fP K H (iA N ds) (L2.start N vs):=by
 have hl:=r.length
 refine ⟨by unfold iA L2.start;simp only [length_append,length_map,List.length_replicate,hl],fun i d q=>?_⟩
 unfold iA at q
 unfold L2.start
 by_cases hi:i < ds.length
 ·rw [getElem?_append_left (by simpa using hi),getElem?_map] at q
  rw [getElem?_append_left (by simpa [<- hl] using hi),getElem?_map]
  cases e:ds[i]? with
  | none=>rw [e] at q;cases q
  | some d' =>
   rw [e] at q
   cases q
   obtain ⟨v,e2,rv⟩:=r.get e
   exact ⟨v,by rw [e2];rfl,rv⟩
 ·rw [getElem?_append_right (by simpa using hi),List.getElem?_replicate] at q
  split at q<;>cases q
theorem Fun.okD {x qual:Str} {st:Stmt} {f:Addr} {fd:FuncData} {N ps:List Str} {k:Nat} {sp:DSp} (F:L2.Fun K x qual st f fd) (S:aR N ps (aH st)) (len:∀ ds M Q,sp ds M Q->ds.length = ps.length)
  (hbody:∀ (cdv:Value) (A:Around) (outer:List Env) (s:Shared) (H:Hp) (ds:List D) (M:DM) (Q:DQ) (E:XK),eD k (A.deeper (envOfC qual (aH st) s.heap.objs.size f cdv))->sp ds M Q ->
   ∃ t,kM (jR CX0 P w K mg base N qual (aH st) f cdv A outer s H E).nox (eY st) t/\t { nx:=fun _ M'=>Dn Q .non M',rt:=Dn Q } (iA N ds) M):jE P w K mg base CX0 (k + 1) f fd ps (oI K sp):=by
 refine F.ok S (fun vs H Q E ⟨ds,M,Q',rs,hm,q,_⟩=>by rw [<- rs.length];exact len ds M Q' q) fun cdv A outer s H vs Q E hr ⟨ds,M,Q',rs,hm,q,k'⟩=>?_
 obtain ⟨t,h1,h2⟩:=hbody cdv A outer s H ds M Q' E hr q
 have fin:∀ v H',LQ K H (Dn Q') v H'->Q v H':=fun v H' ⟨d,M1,rd,hm1,ex,M2,sub,q2⟩=>k' v H' ⟨d,M2,rd,hm1.sub sub,ex,q2⟩
 refine ⟨_,h1,iA N ds,M,_,qX rs N,hm,h2,⟨fun σ' H' ⟨ρ',M',_,hm',ex,q'⟩=>fin _ H' ⟨.non,M',sS,hm',ex,q'⟩,fin,fun σ' H' ⟨_,_,_,_,_,z⟩=>z.elim,fun σ' H' ⟨_,_,_,_,_,z⟩=>z.elim⟩⟩
end
theorem aEz {P:Program} {w:World} {K:Frag} {mg mb:Str->Option Value} {CX:CXT} {k:Nat} {fa a:Addr} {fd:FuncData} {x:Str} {sp:Sp} {s₁:Shared} {vs:List Value} {ns:List Int}
  (KX:K.In s₁.heap) (hns:s₁.heap.Ns mainGlobals mg) (hb:s₁.heap.Ns builtinsNs mb) (hbb:∀ x:Str,x ≠ "__name__"->mb x = bootBuiltins x) (hlim:s₁.heap.NoLimit) (hg:s₁.gens = #[])
  (ha:s₁.heap.get? a = some { cls:=.type "list",data:=.seq vs.toArray }) (hi:IntsAre vs ns) (hl:ns.length<=sizeLine) (hr:eD k callerA)
  (F:∀ base:Heap,K.In base->base.Ns mainGlobals mg->jE P w K mg base CX k fa fd [x] sp) (hbind:∀ (s:Shared) (u:Value),BindsTo s fd ⟨[u],[]⟩ [(x,u)])
  (hsp:∀ H:Hp,aMh H->SqX K H a (ns.map V.int)->sp [.ref a] H (fun v _=>v = .bl true) fun _ _ _=>False)
  (hCX:∀ H e s',CX [] H s₁ (fun _ _ _=>False) e s'->False) :
  codeAny (model P w) callerA (.call (.ref fa) ⟨[.ref a],[]⟩) (fun r s'=>r = .ok (.ret (.bool true))/\OldK s₁.heap s'.heap/\s'.os = s₁.os/\AllBare s'.gens) s₁:=by
 have rv:=uE hi
 have lenV:=hi.length
 refine aFy (ns:=ns) (sp:=fun vs H Q E=>SqX K H a (ns.map V.int)/\sp vs H Q E) KX hns hb hbb hlim hg ha hi hl hr (fun base h1 h2=>(F base h1 h2).imp fun _ _ _ _ z=>z.2) hbind (fun H hO hS=>?_) hCX
 have sx:SqX K H a (ns.map V.int):=by
  rcases hS with (h | h) | ⟨o,its,n,hk,hc,hd,hs,hz,r⟩
  ·rcases hO a with z | ⟨o,xs,z⟩
   ·rw [h] at z;cases z
   ·rw [h] at z;cases z
  ·exact .inl h
  ·have e:=KX a o hk
   rw [ha] at e
   cases e
   cases hs
   exact .inr ⟨_,_,hk,hz,r⟩
 exact ⟨sx,hsp H hO sx⟩
theorem walk_ofD {l:PySem.W.OpenLaw} {n k:Nat} {q:Program} {loose:List Str} {XP:(Str->Option Value)->Heap->Prop} {YP:World->Heap->Prop} {d:DefRec} {K:Params->Frag} {sp:DSp} {x:Str}
  (hn:l.most = some n) (hn2:n<=sizeLine) (hdf:d.params.defaults = []) (hr:eD k callerA)
  (hY:∀ (w:World) (h:Heap),YP w h->(K w.params).In h)
  (F:∀ (w:World) (mg:Str->Option Value) (fa:Addr) (h:Heap),(K w.params).In h->h.Ns mainGlobals mg->mg d.name = some (.ref fa) ->
   ∃ fd:FuncData,(∀ (s:Shared) (u:Value),BindsTo s fd ⟨[u],[]⟩ [(x,u)]) /\
    ∀ base:Heap,(K w.params).In base->base.Ns mainGlobals mg->jE l.prog w (K w.params) mg base CX0 k fa fd [x] (oI (K w.params) sp))
  (hsp:∀ (ns:List Int),ns.length<=n->∀ M,sp [.fz (ns.map D.int)] M fun d _=>d = .bl true) :
  PySem.W.WalkO q loose XP YP l.row.toRowW d [] (fun f vs=>PySem.call f vs):=by
 refine Att.attach_call hn hdf fun w s₀ s₁ mg mb fa o pm cd doc a vs ns G Y ho hd hcd hmg hobj hints hlen hg=>?_
 have KX:=hY w _ Y
 obtain ⟨fd,hb,hF⟩:=F w mg fa _ KX G.T.g hmg
 refine aEz KX G.T.g G.T.b G.T.builtins G.T.nolimit hg hobj hints (Nat.le_trans hlen hn2) hr hF hb (fun H hO hS=>?_) fun H e s' h=>h
 refine ⟨[.fz (ns.map D.int)],fun _=>none,_,bJ (by unfold Rep;exact ⟨a,_,rfl,hS,aAg ns⟩) cP,⟨(fun _ _ z=>by cases z),(fun _ _ z=>by cases z)⟩,hsp ns hlen _,fun v H' z=>?_⟩
 obtain ⟨d,M',rd,_,_,e⟩:=z
 have e':d = .bl true:=e
 subst e'
 exact cL rd
def cE (K:Frag) (mg:Str->Option Value) (x:Str) (st:Stmt) (ps:List Str):Prop:=∃ f fd,L2.Fun K x x st f fd/\mg x = some (.ref f)/\lT K fd ps []
def Has (P:Program) (w:World) (K:Frag) (mg:Str->Option Value) (base:Heap) (k:Nat) (x:Str) (ps:List Str) (sp:DSp):Prop :=
 ∃ f fd,jE P w K mg base CX0 k f fd ps (oI K sp)/\mg x = some (.ref f)/\keepIn K (.ref f) = true/\lT K fd ps []
def fG (K:Frag) (mg:Str->Option Value) (x:Str) (d:D):Prop:=∃ u v,mg x = some u/\cS v u/\∀ H,Rep K H d v
section
variable {P:Program} {w:World} {K:Frag} {mg:Str->Option Value} {base:Heap}
theorem Has.mk {x:Str} {st:Stmt} {N ps:List Str} {k:Nat} {sp:DSp} (h:cE K mg x st ps) (S:aR N ps (aH st)) (len:∀ ds M Q,sp ds M Q->ds.length = ps.length)
  (hbody:∀ (f:Addr) (cdv:Value) (A:Around) (outer:List Env) (s:Shared) (H:Hp) (ds:List D) (M:DM) (Q:DQ) (E:XK),eD k (A.deeper (envOfC x (aH st) s.heap.objs.size f cdv))->sp ds M Q ->
   ∃ t,kM (jR CX0 P w K mg base N x (aH st) f cdv A outer s H E).nox (eY st) t/\t { nx:=fun _ M'=>Dn Q .non M',rt:=Dn Q } (iA N ds) M):Has P w K mg base (k + 1) x ps sp:=by
 obtain ⟨f,fd,F,hm,hb⟩:=h
 exact ⟨f,fd,Fun.okD F S len fun cdv A outer s H ds M Q E hr q=>hbody f cdv A outer s H ds M Q E hr q,hm,F.kp,hb⟩
theorem Has.imp {x:Str} {ps:List Str} {k:Nat} {sp sp':DSp} (h:Has P w K mg base k x ps sp) (i:∀ ds M Q,sp' ds M Q->sp ds M Q):Has P w K mg base k x ps sp':=by
 obtain ⟨f,fd,F,hm,hk,hb⟩:=h
 exact ⟨f,fd,F.imp fun vs H Q E ⟨ds,M,Q',a,b,c,d⟩=>⟨ds,M,Q',a,b,i _ _ _ c,d⟩,hm,hk,hb⟩
end
section
variable {X:Cx} {a b c e:Expr} {es:List Expr} {ta tb te:DE} {t:DA} {pos p:Pos} {x:Str} {ps:List Str} {sp:DSp} {k j:Nat}
theorem aHf (h:Has X.prog X.w X.K X.mg X.base k x ps sp) (hr:eD j X.A) (hkj:k<=j) (ha:PDA X (e :: es) t) (hg:Gl X x:=by rfl)
  (hdb:(x == ("__debug__":Str)) = false:=by decide) (he:starEach (e :: es) X.env = (false,eval e X.env) :: starEach es X.env:=by rfl) (hpl:(backTo pos (starEach es X.env)).any (·.1) = false:=by rfl) :
  PDE X (.Call (.Name x p) (e :: es) [] pos) (nI sp t):=by
 obtain ⟨f,fd,F,hm,hk,hb⟩:=h
 exact aII F (hr.mono hkj) hm hk hb aFn ha hg hdb he hpl
theorem aEs (h:Has X.prog X.w X.K X.mg X.base k x ps sp) (hr:eD j X.A) (hkj:k<=j) (hg:Gl X x:=by rfl) (hdb:(x == ("__debug__":Str)) = false:=by decide):PDE X (.Call (.Name x p) [] [] pos) (nI sp mK):=by
 obtain ⟨f,fd,F,hm,hk,hb⟩:=h
 exact aGO F (hr.mono hkj) hm hk hb aFn hg hdb
theorem aGg {d:D} (h:fG X.K X.mg x d) (hg:Gl X x:=by rfl) (hd:(x == ("__debug__":Str)) = false:=by decide):PDE X (.Name x pos) (dC d):=by
 obtain ⟨u,v,hm,rv,hr⟩:=h
 exact aHY hg hm rv hr hd
def aHB (i:Nat) (te:DE) (g:Int->Int->Int):DS:=fun E ρ M=>match ρ[i]? with
 | some (some (.int z))=>te ρ M fun y M1=>match y with
  | .int j=>E.nx (ρ.set i (some (.int (g z j)))) M1
  | _=>False
 | _=>False
theorem aH3 {i:Nat} {op:Operator} {g:Int->Int->Int} {pos':Pos} (ho:PIp X op (ipI g)) (hN:X.N.Nodup) (he:PDE X e te) (hi:X.N[i]? = some x:=by rfl) (hx:Loc X.env.scope x:=by first | exact Or.inl rfl | exact Or.inr rfl) (hf:X.fn x = true ∨ X.env.scope.names.lookup x = some .local:=by first | exact .inl rfl | exact .inr rfl | assumption) :
  PDS X (.AugAssign (.Name x pos') op e pos) (aHB i te g) :=
 iL (aGD (i:=i) hN hi hx he ho hf) fun E σ H ⟨ρ,M,Dn,re,hm,q,k⟩=>by
  unfold aHB at q
  split at q
  ·rename_i z e1
   obtain ⟨v,e2,rv⟩:=re.get i _ e1
   obtain rfl:=aT rv
   refine ⟨_,e2,ρ,M,_,re,hm,q,fun w H1 ⟨d,M1,rd,hm1,ex,q1⟩=>?_⟩
   cases d with
   | int j=>exact ⟨z,j,rfl,aT rd,k.nx _ H1 ⟨_,M1,(re.ext ex).set bU i,hm1,ex,q1⟩⟩
   | _=>exact q1.elim
  ·exact q.elim
end
theorem dif {c A B:Prop} [Decidable c] (h1:c->A) (h2:¬ c->B):if decide c = true then A else B:=by
 by_cases h:c
 ·rw [decide_eq_true h];exact h1 h
 ·rw [decide_eq_false h];exact h2 h
theorem aOb {b:Bool} {A B:Prop} (h1:b = true->A) (h2:b = false->B):if b = true then A else B:=by
 cases b
 ·exact h2 rfl
 ·exact h1 rfl
section
variable {prog:Program} {w:World} {A:Around} {E:Value->Shared->Prop} {s:Shared}
theorem qW {h h':Heap} {it t:Addr} {items:Array Value} (ht:h.IsList t items) (hs:Heap.SameBut it h h') (hne:t ≠ it):h'.IsList t items:=by
 obtain ⟨o,e,r⟩:=ht
 exact ⟨o,(hs.2 t hne).trans e,r⟩
theorem kY {h:Heap} {t:Addr} {items:Array Value} (ht:h.IsList t items) (o:Obj):(h.push o).IsList t items:=by
 obtain ⟨o',e,r⟩:=ht
 exact ⟨o',Heap.get?_push_of_some _ e,r⟩
theorem uT {it t:Addr} {items:Array Value} (hne:t ≠ it):∀ (n i:Nat) (s:Shared) (Q:List Value->Shared->Prop),s.heap.IsListIter it t i->s.heap.IsList t items->i + n<=items.size ->
  (∀ h',h'.IsListIter it t (i + n)->Heap.SameBut it s.heap h'->Q ((items.toList.drop i).take n) { s with heap:=h' })->wpAny (model prog w) A (draw (.ref it) n) Q E s
 | 0,i,s,Q,hit,_,_,hQ=>by
  show wpAny _ _ (pure []) Q E s
  exact wpAny_pure (by simpa using hQ s.heap hit (Heap.SameBut.refl ..))
 | n + 1,i,s,Q,hit,ht,hle,hQ=>by
  have hlt:i < items.size:=by omega
  show wpAny _ _ (pyNext (.ref it) >>= _) Q E s
  refine wpAny_bind (wpAny_pyNext_list_item hit ht (x:=items[i]) (by simp [hlt]) fun h₁ hit₁ hs₁=>?_)
  refine wpAny_bind (wpAny_holding (uT hne n (i + 1) _ _ hit₁ (qW ht hs₁ hne) (by omega) fun h₂ hit₂ hs₂=>wpAny_pure ?_))
  have hd:items.toList.drop i = items[i] :: items.toList.drop (i + 1):=by simp [List.drop_eq_getElem_cons,hlt]
  have:=hQ h₂ (by rw [show i + (n + 1) = i + 1 + n by omega];exact hit₂) (hs₁.trans hs₂)
  rw [hd,List.take_succ_cons] at this
  exact this
theorem uS {t:Addr} {items:Array Value} {Q:List Value->Shared->Prop} (hh:A.handled = none) (ht:s.heap.IsList t items)
  (hQ:∀ h',Heap.ExtBut s.heap.objs.size s.heap h'->Q items.toList { s with heap:=h' }):wpAny (model prog w) A (unpackItems (.ref t) items.size none) Q E s:=by
 have hlt:t ≠ s.heap.objs.size:=by obtain ⟨o,ho,_⟩:=ht;exact Nat.ne_of_lt (Heap.lt_size ho)
 unfold unpackItems
 refine wpAny_bind ?_
 ·unfold notIterableAtAll
  refine wpAny_bind (wpAny_specialOf ht.typeIs slot_list_iter.lookup ?_)
  refine wpAny_pure ?_
  simp only [Bool.false_eq_true,if_false]
  refine wpAny_bind (wpAny_holding (wpAny_pyIter_list ht ?_))
  refine wpAny_bind (wpAny_holding (uT hlt items.size 0 _ _ ⟨_,Heap.get?_push_size _ rfl,rfl,rfl⟩ (kY ht _) (by omega) fun h₁ hit₁ hs₁=>?_))
  have hall:List.take items.size (List.drop 0 items.toList) = items.toList:=by
   rw [drop_zero];exact take_of_length_le (by simp)
  rw [hall]
  rw [if_neg (by simp)]
  have ht₁:h₁.IsList t items:=qW (kY ht _) hs₁ hlt
  refine wpAny_bind (wpAny_holding (wpAny_pyNext_list_end hh hit₁ ht₁ (by simp) fun h₂ he₂=>?_))
  simp only [Option.isSome_none,Bool.false_eq_true,if_false]
  refine wpAny_pure (hQ h₂ fun b o hb e=>he₂ b o hb (hs₁.extBut b o hb (Heap.get?_push_of_some _ e)))
theorem rR {env:Env} {elts:List Expr} {x1} {pos:Pos} {t:Addr} {items:Array Value} {Q:Unit->Shared->Prop} (hh:A.handled = none) (ht:s.heap.IsList t items)
  (hn:(assignEach elts env).length = items.size) (hstar:(assignEach elts env).findIdx? (·.1) = none)
  (h:∀ h',Heap.ExtBut s.heap.objs.size s.heap h'->wpAny (model prog w) A (assignInOrder ((assignEach elts env).map (·.2)) items.toList) Q E { s with heap:=h' }) :
  wpAny (model prog w) A (assign (.Tuple elts x1 pos) env (.ref t)) Q E s:=by
 rw [assign_Tuple]
 refine wpAny_bind (wpAny_standAt ?_)
 unfold unpack
 rw [hn,hstar]
 exact wpAny_bind (wpAny_holding (uS hh ht h))
end
section
variable {X:Cx} {pos:Pos} {e a b:Expr} {es:List Expr} {te ta tb:DE}
def gU (n:Nat) (t:DGs):DG:=fun d ρ M Q=>match d with
 | .tup ds=>ds.length = n/\t ds ρ M Q
 | .ref a=>∃ ds,M a = some ds/\ds.length = n/\t ds ρ M Q
 | _=>False
theorem aMm {k:Nat} {t:DGs} {n:Nat} (hc:X.calm = true) (h:aAU X es t) (hn:(assignEach es X.env).length = n:=by rfl) (hst:(assignEach es X.env).findIdx? (·.1) = none:=by rfl):PDG X (.Tuple es k pos) (gU n t):=by
 intro pins s σ H v u Q I r ⟨d,ρ,M,Q',rd,re,hm,q,k'⟩
 cases d with
 | tup ds=>exact aJV hc h hn hst pins s σ H v u Q I r ⟨.tup ds,ρ,M,Q',rd,re,hm,q,k'⟩
 | ref p =>
  obtain ⟨ds,hp,hl,q⟩:=q
  obtain rfl:=bE rd
  cases r
  obtain ⟨us,hu,ru⟩:=hm.l p ds hp
  obtain ⟨z,its,nn,rv,hlen,e1⟩:=I.lstM hu
  have l1:=ru.length
  refine rR (I.ok.hd hc) ⟨_,e1,rfl,_,rfl⟩ (by rw [hn,size_toArray];omega) hst fun h' hx=>?_
  have I1:Inv X pins σ H { s with heap:=h' }:=I.kept (t':=s.toks) fun b o e=>hx b o (Nat.ne_of_lt (Heap.lt_size e)) e
  exact h pins _ σ H us _ Q I1 (by simpa using rv) ⟨ds,ρ,M,Q',ru,re,hm,q,k'⟩
 | _=>exact q.elim
noncomputable def isV:D->D->Option Bool
 | .non,.non=>some true
 | .bl a,.bl b=>some (a == b)
 | .non,.bl _=>some false
 | .bl _,.non=>some false
 | .int _,.non=>some false
 | .str _,.non=>some false
 | .tup _,.non=>some false
 | .ref _,.non=>some false
 | .fz _,.non=>some false
 | .tup _,.bl _=>some false
 | _,_=>none
def aGJ (g:Bool->Bool):D2:=fun x y M Q=>match isV x y with
 | some k=>Q (.bl (g k)) M
 | none=>False
theorem aFR {K:Frag} {H:Hp} {x y:V} {v u:Value} {dx dy:D} {k:Bool} (rx:cS x v) (ry:cS y u) (r1:Rep K H dx x) (r2:Rep K H dy y) (h:isV dx dy = some k):plainIs v u = true/\(v == u) = k:=by
 cases dx<;>cases dy<;>first
  | (cases (show (none:Option Bool) = some k from h))
  | (
    first
    | (rw [dI r1] at rx;cases rx)
    | (rw [cL r1] at rx;cases rx)
    | (rw [aT r1] at rx;obtain ⟨t,rfl⟩:=rx)
    | (rw [bC r1] at rx;obtain ⟨t,rfl⟩:=rx)
    | (rw [bE r1] at rx;cases rx)
    | (obtain ⟨a,us,rfl,_,_⟩:=cM r1;cases rx)
    | (obtain ⟨a,us,rfl,_,_⟩:=nW r1;cases rx)
    first
    | (rw [dI r2] at ry;cases ry)
    | (rw [cL r2] at ry;cases ry)
    simp only [isV,Option.some.injEq] at h
    subst h
    constructor<;>first | rfl | (rename_i b1 b2;cases b1<;>cases b2<;>rfl))
theorem lS:OpD X (compareOp .Is) (aGJ id):=fun pins s σ H x y v u Q I rx ry ⟨dx,dy,M,Q',r1,r2,hm,q,k⟩=>by
 unfold aGJ at q
 split at q
 ·rename_i b e
  obtain ⟨h1,h2⟩:=aFR rx ry r1 r2 e
  exact wpAny_is_plain h1 (by rw [h2];exact ⟨.bl b,H,I,rfl,k _ H ⟨_,M,eB,hm,.refl H,q⟩⟩)
 ·exact q.elim
theorem aCq:OpD X (compareOp .IsNot) (aGJ not):=fun pins s σ H x y v u Q I rx ry ⟨dx,dy,M,Q',r1,r2,hm,q,k⟩=>by
 unfold aGJ at q
 split at q
 ·rename_i b e
  obtain ⟨h1,h2⟩:=aFR rx ry r1 r2 e
  exact wpAny_isNot_plain h1 (by rw [h2];exact ⟨.bl (!b),H,I,rfl,k _ H ⟨_,M,eB,hm,.refl H,q⟩⟩)
 ·exact q.elim
end
section
variable {M:DM} {Q:DQ} {g:Bool->Bool} {ds:List D} {i:Int} {a:Addr} {α:Type} {x0 x1 x2 x3 x4 x5:α} {l:List α}
theorem ixT:mB (.tup ds) (.int i) M Q = (match atI ds i with | some d=>Q d M | none=>False):=rfl
theorem ixF:mB (.fz ds) (.int i) M Q = (match atI ds i with | some d=>Q d M | none=>False):=rfl
theorem aO0:mB (.ref a) (.int i) M Q = (∃ ds d,M a = some ds/\atI ds i = some d/\Q d M):=rfl
theorem aJR:atI [x0] 0 = some x0:=rfl
theorem aL6:atI [x0] (-1) = some x0:=rfl
theorem aMF:atI [x0,x1] 0 = some x0:=rfl
theorem aKt:atI [x0,x1] 1 = some x1:=rfl
theorem aKd:atI [x0,x1] (-1) = some x1:=rfl
theorem aLx:atI [x0,x1,x2] 0 = some x0:=rfl
theorem aJ1:atI [x0,x1,x2] 1 = some x1:=rfl
theorem aME:atI [x0,x1,x2] 2 = some x2:=rfl
theorem aMn:atI [x0,x1,x2] (-1) = some x2:=rfl
theorem aKb:atI [x0,x1,x2,x3] 0 = some x0:=rfl
theorem aKu:atI [x0,x1,x2,x3] 1 = some x1:=rfl
theorem aKL:atI [x0,x1,x2,x3] 2 = some x2:=rfl
theorem aKh:atI [x0,x1,x2,x3] 3 = some x3:=rfl
theorem aJX:atI [x0,x1,x2,x3] (-1) = some x3:=rfl
theorem aJ8:atI [x0,x1,x2,x3,x4] 0 = some x0:=rfl
theorem aL5:atI [x0,x1,x2,x3,x4] 1 = some x1:=rfl
theorem aK7:atI [x0,x1,x2,x3,x4] 2 = some x2:=rfl
theorem aKO:atI [x0,x1,x2,x3,x4] 3 = some x3:=rfl
theorem aLw:atI [x0,x1,x2,x3,x4] 4 = some x4:=rfl
theorem aL4:atI [x0,x1,x2,x3,x4] (-1) = some x4:=rfl
theorem aJQ:atI [x0,x1,x2,x3,x4,x5] 0 = some x0:=rfl
theorem aJW:atI [x0,x1,x2,x3,x4,x5] 1 = some x1:=rfl
theorem aLe:atI [x0,x1,x2,x3,x4,x5] 2 = some x2:=rfl
theorem aLq:atI [x0,x1,x2,x3,x4,x5] 3 = some x3:=rfl
theorem aKq:atI [x0,x1,x2,x3,x4,x5] 4 = some x4:=rfl
theorem aKB:atI [x0,x1,x2,x3,x4,x5] 5 = some x5:=rfl
theorem aMa:atI [x0,x1,x2,x3,x4,x5] (-1) = some x5:=rfl
theorem aKo {n:Nat} {t:DGs} {ρ:cR} {R:cR->DM->Prop}:gU n t (.tup ds) ρ M R = (ds.length = n/\t ds ρ M R):=rfl
theorem aKS {n:Nat} {t:DGs} {ρ:cR} {R:cR->DM->Prop}:gU n t (.ref a) ρ M R = (∃ ds,M a = some ds/\ds.length = n/\t ds ρ M R):=rfl
theorem cB {i j:Int}:dEq g (.int i) (.int j) M Q = Q (.bl (g (decide (i = j)))) M:=by
 show (bR 60 (.int i) = true/\bR 60 (.int j) = true/\Q (.bl (g (eqD (.int i) (.int j)))) M) = _
 have e:eqD (.int i) (.int j) = decide (i = j):=by show (i == j) = _;by_cases h:i = j<;>simp [h]
 rw [e]
 exact propext ⟨fun h=>h.2.2,fun h=>⟨rfl,rfl,h⟩⟩
theorem aK {x y:Str}:dEq g (.str x) (.str y) M Q = Q (.bl (g (decide (x = y)))) M:=by
 show (bR 60 (.str x) = true/\bR 60 (.str y) = true/\Q (.bl (g (eqD (.str x) (.str y)))) M) = _
 have e:eqD (.str x) (.str y) = decide (x = y):=by show (x == y) = _;by_cases h:x = y<;>simp [h]
 rw [e]
 exact propext ⟨fun h=>h.2.2,fun h=>⟨rfl,rfl,h⟩⟩
def isK (K:Frag) (c:Value) (d:D) (M:DM) (Q:DQ):Prop:=(∃ T k,tyD d = some T/\kitOne K (.type T) c = some k/\Q (.bl k) M) ∨ (∃ (p:Addr) (xs:List D) (k:Bool),d = .ref p/\M p = some xs/\kitOne K (.type "list") c = some k/\Q (.bl k) M)
theorem aJ6 {K:Frag} {c:Value} {te:DE} {ρ:cR}:dIs K c te ρ M Q = te ρ M fun d M1=>isK K c d M1 Q:=rfl
end
end Dd
namespace L2
open PySem PySem.Spec PyProof.Rows
noncomputable def clo (cells:List (Str × Addr)):List (Str × NameKind)->List (Str × Addr)->List (Str × Addr)
 | [],cs=>cs
 | (n,k) :: r,cs=>clo cells r (if k == .free then (n,(cells.lookup n).getD 0) :: cs else cs)
noncomputable def aCe (env:Env) (x:Str × NameKind) (r:List (Str × Addr)):Sem (ForInStep (List (Str × Addr))) :=
 if (x.2 == NameKind.free) = true then do let a <- cellOf env x.1;pure (ForInStep.yield ((x.1,a) :: r)) else pure (ForInStep.yield r)
theorem aCv {env:Env}:∀ (names:List (Str × NameKind)) (cs:List (Str × Addr)),(∀ y ∈ names,y.2 = .free->∃ c,env.cells.lookup y.1 = some c)->(forIn names cs (aCe env):Sem (List (Str × Addr))) = pure (clo env.cells names cs)
 | [],cs,_=>rfl
 | (n,k) :: r,cs,hh=>by
  rw [List.forIn_cons]
  have ih:=fun cs=>aCv (env:=env) r cs fun z hz=>hh z (mem_cons_of_mem _ hz)
  cases hk:k == NameKind.free with
  | true =>
   have hf:k = .free:=by simpa using hk
   obtain ⟨c,hc⟩:=hh (n,k) mem_cons_self hf
   have hc:env.cells.lookup n = some c:=hc
   have e:aCe env (n,k) cs = pure (ForInStep.yield ((n,c) :: cs)):=by
    unfold aCe
    rw [if_pos hk]
    show (cellOf env n >>= _) = _
    unfold cellOf
    rw [hc]
    rfl
   rw [e]
   refine Eq.trans (b:=(forIn r ((n,c) :: cs) (aCe env):Sem (List (Str × Addr)))) rfl ?_
   rw [ih]
   show _ = pure (clo env.cells r (if k == .free then (n,(env.cells.lookup n).getD 0) :: cs else cs))
   rw [hk,if_pos rfl,hc]
   rfl
  | false =>
   have e:aCe env (n,k) cs = pure (ForInStep.yield cs):=by
    unfold aCe
    rw [if_neg (by rw [hk];decide)]
   rw [e]
   refine Eq.trans (b:=(forIn r cs (aCe env):Sem (List (Str × Addr)))) rfl ?_
   rw [ih]
   show _ = pure (clo env.cells r (if k == .free then (n,(env.cells.lookup n).getD 0) :: cs else cs))
   rw [hk,if_neg (by decide)]
theorem aBS {scope:Scope} {env:Env} (h:∀ y ∈ scope.names,y.2 = .free->∃ c,env.cells.lookup y.1 = some c):closureFor scope env = pure (clo env.cells scope.names []):=by
 have e:closureFor scope env = ((forIn scope.names [] (aCe env):Sem (List (Str × Addr))) >>= fun cs=>pure cs):=rfl
 rw [e,aCv _ _ h]
 rfl
theorem aD3 {cells:List (Str × Addr)} {x:Str} {c:Addr}:∀ {names:List (Str × NameKind)} {cs:List (Str × Addr)},(∀ y ∈ names,y.2 = .free->∃ c,cells.lookup y.1 = some c)->(cs.lookup x = some c->cells.lookup x = some c)->(clo cells names cs).lookup x = some c->cells.lookup x = some c
 | [],cs,_,h,e=>h e
 | (n,k) :: r,cs,hh,h,e=>by
  unfold clo at e
  refine aD3 (fun y hy=>hh y (mem_cons_of_mem _ hy)) (fun e2=>?_) e
  cases hk:k == NameKind.free with
  | false=>rw [hk,if_neg (by decide)] at e2;exact h e2
  | true =>
   rw [hk,if_pos rfl] at e2
   have hk':k = .free:=by simpa using hk
   obtain ⟨c',hc'⟩:=hh (n,k) mem_cons_self hk'
   have hc':cells.lookup n = some c':=hc'
   rw [lookup_cons] at e2
   cases hx:x == n with
   | true =>
    rw [hx] at e2
    have:x = n:=by simpa using hx
    subst this
    rw [hc'] at e2 ⊢
    exact e2
   | false=>rw [hx] at e2;exact h e2
theorem aAK {cells:List (Str × Addr)} {x:Str}:∀ {names:List (Str × NameKind)} {cs:List (Str × Addr)},((x,NameKind.free) ∈ names ∨ ∃ c,cs.lookup x = some c)->∃ c,(clo cells names cs).lookup x = some c
 | [],cs,h=>by
  rcases h with h | h
  ·exact nomatch h
  ·exact h
 | (n,k) :: r,cs,h=>by
  unfold clo
  refine aAK ?_
  have ins:∀ {v:Addr},(∃ c,cs.lookup x = some c)->∃ c,((n,v) :: cs).lookup x = some c:=fun {v} ⟨c,e⟩=>by
   rw [lookup_cons]
   cases x == n with
   | true=>exact ⟨_,rfl⟩
   | false=>exact ⟨c,e⟩
  rcases h with h | h
  ·rcases List.mem_cons.mp h with e | e
   ·cases e
    refine .inr ⟨_,by rw [if_pos (by rfl),lookup_cons,beq_self_eq_true]⟩
   ·exact .inl e
  ·cases hk:k == NameKind.free with
   | true=>rw [if_pos rfl];exact .inr (ins h)
   | false=>rw [if_neg (by decide)];exact .inr h
theorem vE {g:Str->NameKind->NameKind} {x:Str}:∀ {names:List (Str × NameKind)},(names.map fun p=>(p.1,g p.1 p.2)).lookup x = (names.lookup x).map (g x)
 | []=>rfl
 | (n,k) :: r=>by
  rw [map_cons,lookup_cons,lookup_cons]
  cases hx:x == n with
  | true =>
   have:x = n:=by simpa using hx
   subst this
   rfl
  | false=>exact vE
theorem oC {scope:Scope} {env:Env} {x:Str}:(relabel scope env).names.lookup x = (scope.names.lookup x).map fun k=>if (k == NameKind.free && env.scope.kind == .function && env.kindOf x == some .cell) = true then .cell else k:=by
 rw [<- vE (g:=fun x k=>if (k == NameKind.free && env.scope.kind == .function && env.kindOf x == some .cell) = true then .cell else k)]
 unfold relabel
 dsimp only
 congr 1
 refine List.map_congr_left fun p _=>?_
 obtain ⟨n,k⟩:=p
 dsimp only
 split<;>rfl
noncomputable abbrev Cx.blk (X:Cx) (N':List Str) (scope:Scope) (C:Addr) (s:Shared) (H:Hp) (fp:List Addr) (pins:List (Addr × Obj)):Cx :=
 { X with N:=N',s₀:=s,H₀:=H,env:=compEnvC scope (clo X.env.cells scope.names []) C X.env,outer:=X.stack,ex:=fp,fn:=fun _=>false,pn:=X.pn ++ pins,xe:=fun _ _=>False }
structure fW (X:Cx) (N':List Str) (fr:List (Option Nat)) (scope:Scope):Prop where
 kind:scope.kind = .function
 nocell:∀ y ∈ scope.names,y.2 ≠ .cell
 names:∀ y ∈ scope.names,y.2 = .local->scope.names.lookup y.1 = some .local
 free:∀ y ∈ scope.names,y.2 = .free->X.env.scope.names.lookup y.1 = some .cell
 len:fr.length = N'.length
 at':∀ (i j:Nat) (x:Str),N'[i]? = some x->fr[i]? = some (some j)->X.N[j]? = some x/\scope.names.lookup x = some .free
structure oW (oN:List Str) (osc:Scope) (N':List Str) (fr:List (Option Nat)) (scope:Scope):Prop where
 kind:scope.kind = .function
 nocell:∀ y ∈ scope.names,y.2 ≠ .cell
 names:∀ y ∈ scope.names,y.2 = .local->scope.names.lookup y.1 = some .local
 free:∀ y ∈ scope.names,y.2 = .free->osc.names.lookup y.1 = some .cell
 len:fr.length = N'.length
 at':∀ p ∈ N'.zip fr,∀ j ∈ p.2,oN[j]? = some p.1/\scope.names.lookup p.1 = some .free
theorem oW.scope {X:Cx} {oN:List Str} {osc:Scope} {N':List Str} {fr:List (Option Nat)} {scope:Scope} (B:oW oN osc N' fr scope) (hN:X.N = oN) (ho:X.env.scope = osc):fW X N' fr scope:=by
 subst hN ho
 refine ⟨B.kind,B.nocell,B.names,B.free,B.len,fun i j x h1 h2=>?_⟩
 have:(x,some j) ∈ N'.zip fr:=by
  refine mem_of_getElem? (i:=i) ?_
  rw [List.getElem?_zip_eq_some]
  exact ⟨h1,h2⟩
 exact B.at' _ this j rfl
noncomputable def uC (fr:List (Option Nat)) (σ:St):St:=fr.map fun o=>match o with
 | some j=>(σ[j]?).join
 | none=>none
section
variable {X:Cx} {pins:List (Addr × Obj)} {σ:St} {H:Hp} {s:Shared} {N':List Str} {fr:List (Option Nat)} {scope:Scope} {C:Addr} {fp:List Addr}
theorem fW.hasC (S:fW X N' fr scope) (ok:X.Ok):∀ y ∈ scope.names,y.2 = .free->∃ c,X.env.cells.lookup y.1 = some c:=fun y hy e=>ok.has y.1 (.inl (S.free y hy e))
theorem fW.sub (S:fW X N' fr scope) (ok:X.Ok) {x:Str} {c:Addr} (h:(clo X.env.cells scope.names []).lookup x = some c):X.env.cells.lookup x = some c:=aD3 (S.hasC ok) (fun z=>by cases z) h
theorem aDC (S:fW X N' fr scope) (I:Inv X pins σ H s) {h':Heap} {m:Str->Option Value} (k:∀ x c v,(clo X.env.cells scope.names []).lookup x = some c->s.heap.IsCell c v->h'.IsCell c v) :
  ∀ (i:Nat) (x:Str) (v:V),N'[i]? = some x->(uC fr σ)[i]? = some (some v)->∃ u,cS v u/\aNN (compEnvC scope (clo X.env.cells scope.names []) C X.env) h' m x u:=by
 intro i x v hx hv
 unfold uC at hv
 rw [getElem?_map] at hv
 cases hf:fr[i]? with
 | none=>rw [hf] at hv;cases hv
 | some o =>
  rw [hf] at hv
  cases o with
  | none=>cases hv
  | some j =>
   have hv:(σ[j]?).join = some v:=Option.some.inj hv
   obtain ⟨hN,hfree⟩:=S.at' i j x hx hf
   have hσ:σ[j]? = some (some v):=by
    cases e:σ[j]? with
    | none=>rw [e] at hv;cases hv
    | some o=>rw [e] at hv;rw [show o = some v from hv]
   have hmem:(x,NameKind.free) ∈ scope.names:=PySem.mem_of_lookup hfree
   have hcell:=S.free _ hmem rfl
   obtain ⟨mm,_,hl⟩:=I.loc
   obtain ⟨u,r,l⟩:=hl j x v hN hσ (.inr (.inl hcell))
   refine ⟨u,r,.inr ⟨.inl ?_,?_⟩⟩
   ·show (relabel scope X.env).names.lookup x = some .cell
    rw [oC,hfree]
    have h1:X.env.scope.kind = .function:=I.ok.kind
    have h2:X.env.kindOf x = some .cell:=hcell
    rw [h1,h2]
    rfl
   ·rcases l with ⟨k1,_⟩ | ⟨_,c,e,z⟩
    ·have:X.env.scope.names.lookup x = some .local:=k1
     rw [hcell] at this;cases this
    ·obtain ⟨c',e'⟩:=aAK (cells:=X.env.cells) (x:=x) (names:=scope.names) (cs:=[]) (.inl hmem)
     have e2:=S.sub I.ok e'
     rw [e] at e2
     cases e2
     exact ⟨c,e',k x c _ e' z⟩
theorem aHO (S:fW X N' fr scope) (I:Inv X pins σ H s) (hf:∀ b ∈ fp,zI X pins H b) (ho:∀ b ∈ fp,∃ o,s.heap.get? b = some o) {s1:Shared} {m:Str->Option Value} (hos:s1.os = s.os) (hg:s1.gens = s.gens) (hC:s.heap.objs.size<=C) (k:∀ b o,s.heap.get? b = some o->s1.heap.get? b = some o) (hn:s1.heap.Ns C m) :
  Inv (X.blk N' scope C s H fp pins) [] (uC fr σ) H s1:=by
 have lt:∀ b o,s.heap.get? b = some o->b ≠ C:=fun b o e=>Nat.ne_of_lt (Nat.lt_of_lt_of_le (Heap.lt_size e) hC)
 have stk:∀ b,b ≠ X.env.locals->b ∉ X.fs->b ∉ frs X.stack:=fun b h1 h2 hb=>(List.mem_cons.mp (I.stkSub b hb)).elim h1 h2
 have cellK:∀ x c v,(clo X.env.cells scope.names []).lookup x = some c->s.heap.IsCell c v->s1.heap.IsCell c v:=fun x c v _ ⟨o,e,d⟩=>⟨o,k c o e,d⟩
 refine ⟨⟨I.ok.mod,S.kind,I.ok.glob,I.ok.blt,hC,fun x y c h1 h2=>I.ok.inj x y c (S.sub I.ok h1) (S.sub I.ok h2),fun x hx=>?_,(fun x c z=>by cases z),I.ok.hd,I.ok.frames,.inl rfl,fun b hb=>?_,I.bs,Nat.le_trans I.ok.bsz I.sz,fun b o e hb=>?_,fun b hb=>?_,I.stack,I.stkFree⟩,
  hos,by rw [hg];exact I.bare,Un.kept k,⟨m,hn,fun i x v h1 h2 _=>aDC S I cellK i x v h1 h2⟩,fun x c e=>?_,I.hok.fresh hC,fun x c e=>I.freeC x c (S.sub I.ok e),fun p hp=>?_,I.hok.kept k,?_⟩
 ·have hx:(relabel scope X.env).names.lookup x = some .cell ∨ (relabel scope X.env).names.lookup x = some .free:=hx
  rw [oC] at hx
  have hfree:(x,NameKind.free) ∈ scope.names:=by
   cases e:scope.names.lookup x with
   | none=>rw [e] at hx;rcases hx with z | z<;>cases z
   | some kk =>
    rw [e] at hx
    have hm:=PySem.mem_of_lookup e
    cases kk with
    | free=>exact hm
    | cell=>exact absurd rfl (S.nocell _ hm)
    | _=>rcases hx with z | z<;>cases z
  exact aAK (.inl hfree)
 ·obtain ⟨o,e⟩:=ho b hb
  obtain ⟨_,_,_,_,f4,_⟩:=hf b hb
  exact ⟨lt b o e,fun x c z=>f4 x c (S.sub I.ok z)⟩
 ·obtain ⟨_,_,_,f3,_⟩:=hf b hb
  rcases f3 with z | z
  ·exact I.ok.noex b o e z
  ·exact absurd (Nat.lt_of_lt_of_le (Heap.lt_size e) (Nat.le_trans I.ok.bsz z)) (Nat.lt_irrefl _)
 ·obtain ⟨_,f1,f2,_⟩:=hf b hb
  exact stk b f1 f2
 ·obtain ⟨v,z⟩:=I.cell x c (S.sub I.ok e)
  exact ⟨v,cellK x c v e z⟩
 ·rw [append_nil] at hp
  obtain ⟨e,n,ne,nf,d⟩:=I.pin p hp
  exact ⟨k p.1 p.2 e,n,lt p.1 p.2 e,stk p.1 ne nf,d⟩
 ·unfold uC
  rw [length_map]
  exact S.len
theorem aEN (S:fW X N' fr scope) {s1:Shared} {H1:Hp} {σ1:St} {pl:List (Addr × Obj)} (I:Inv X pins σ H s) (J:Inv (X.blk N' scope C s H fp pins) pl σ1 H1 s1):Inv (X.blk N' scope C s H fp pins) pl (uC fr σ) H1 s1:=by
 obtain ⟨m,hn,_⟩:=id J.loc
 refine ⟨J.ok,J.os,J.bare,J.base,⟨m,hn,fun i x v h1 h2 _=>aDC S I (fun x c v e z=>?_) i x v h1 h2⟩,J.cell,J.free,J.freeC,J.pin,J.hok,?_⟩
 ·obtain ⟨o,eo,d⟩:=z
  have e':=S.sub I.ok e
  have hfree:=I.freeC x c e'
  have nex:c ∉ fp:=fun hb=>(J.ok.exf c hb).2 x c e rfl
  by_cases hfs:c ∈ frs X.stack
  ·obtain ⟨sl,q⟩:=J.base.slot c o eo hfree hfs nex
   exact ⟨_,q,d⟩
  ·exact ⟨o,J.base.keep c o eo hfree hfs nex,d⟩
 ·unfold uC
  rw [length_map]
  exact S.len
end
section
variable {prog:Program} {w:World} {A:Around} {R:Result->Shared->Prop} {s:Shared}
theorem pG {elt target iter:Expr} {scope:Scope} {pos:Pos} {it acc:Value} {env:Env} (I:Nat->Shared->Prop)
  (turn:∀ n s,I n s->wpAny (model prog w) A (pyNext it) (fun r s₁=>match r with
   | none=>R (.ok .next) s₁
   | some v=>wpAny (model prog w) A (letOwnedTupleGo target it v) (fun _ s₁'=>wpAny (model prog w) A (assign target env v) (fun _ s₂=>wpAny (model prog w) A (eval elt env) (fun x s₃ =>
     wpAny (model prog w) A (call (.builtin "list.append") [acc,x]) (fun _ s₄=>∃ m,m < n/\I m s₄) (fun _ _=>False) s₃)
     (fun _ _=>False) s₂) (fun _ _=>False) s₁') (fun _ _=>False) s₁) (fun _ _=>False) s)
  (n:Nat) (h:I n s):codeAny (model prog w) A (.compLoop (.ListComp elt [⟨target,iter,[],0⟩] scope pos) 0 it acc env) R s:=by
 refine codeAny_loop rfl I (fun n s hI=>?_) n h
 show wpAny _ _ ((compTurn (.ListComp elt [⟨target,iter,[],0⟩] scope pos) 0 it acc env).onRaise (fun x=>do noteFrame x env;theTreesLotGoes x)) _ _ s
 refine wpAny_noted ?_
 rw [compTurn_list1]
 refine wpAny_bind (wpAny_standAt (wpAny_bind (wpAny_mono (turn n s hI) (fun r s₁ h₁=>?_) fun _ _ h'=>h'.elim)))
 cases r with
 | none=>exact wpAny_pure h₁
 | some v =>
  exact wpAny_bind (wpAny_mono h₁ (fun _ s₁' h₁'=>wpAny_bind (wpAny_mono h₁' (fun _ s₂ h₂=>wpAny_bind (wpAny_bind (wpAny_mono h₂ (fun x s₃ h₃=>wpAny_bind (wpAny_mono h₃
   (fun _ s₄ h₄=>wpAny_pure (wpAny_pure ⟨rfl,h₄⟩)) fun _ _ h'=>h'.elim)) fun _ _ h'=>h'.elim))) fun _ _ h'=>h'.elim)) fun _ _ h'=>h'.elim)
end
theorem Inv.track {X:Cx} {pins:List (Addr × Obj)} {σ:St} {H:Hp} {s:Shared} {d:Addr} {ys:List V} (I:Inv X pins σ H s) (hn:H d = none) (hs:X.s₀.heap.objs.size<=d) (hL:d ≠ X.env.locals) (hc:∀ x c,X.env.cells.lookup x = some c->c ≠ d) (hp:∀ p ∈ X.pn ++ pins,p.1 ≠ d) (new:fO X.prog X.w (upd H d (.lst ys)) s.heap d (.lst ys)):Inv X pins σ (upd H d (.lst ys)) s:=by
 have ne0:∀ b o,X.s₀.heap.get? b = some o->b ≠ d:=fun b o e=>Nat.ne_of_lt (Nat.lt_of_lt_of_le (Heap.lt_size e) hs)
 refine ⟨I.ok,I.os,I.bare,⟨I.base.keep,I.base.slot,fun b o e n hx=>?_,I.base.there,fun b xs e=>?_,fun b o u e=>?_,fun b ps e=>?_⟩,I.loc,I.cell,?_,fun x c e=>?_,fun p hpp=>?_,fun b u e=>?_,I.len⟩
 ·rw [bS (ne0 b o e)];exact I.base.free b o e n hx
 ·have:=I.base.tups b xs e
  rw [bS (bX this hn)];exact this
 ·have:=I.base.frzs b o u e
  rw [bS (bX this hn)];exact this
 ·obtain ⟨more,q⟩:=I.base.tbls b ps e
  exact ⟨more,by rw [bS (bX q hn)];exact q⟩
 ·rw [bS (Ne.symm hL)];exact I.free
 ·rw [bS (hc x c e)];exact I.freeC x c e
 ·obtain ⟨e,n,r⟩:=I.pin p hpp
  exact ⟨e,by rw [bS (hp p hpp)];exact n,r⟩
 ·by_cases hb:b = d
  ·subst hb;rw [dN] at e;cases e;exact new
  ·rw [bS hb] at e
   exact (I.hok b u e).stay (fun c v _ q=>q) (fun c q=>by rw [bS (bX q hn)];exact q) fun c xs q=>by rw [bS (bX q hn)];exact q
def tLc (wi:TI) (fr:List (Option Nat)) (g:TG) (te:TE):TE:=fun σ H Q=>wi σ H fun J H1=>∃ W:Nat->Nat->List V->Hp->Prop,(∃ m,W 0 m [] H1)/\∀ i m ys H,W i m ys H ->
 (J.stop i H/\ys.length<=sizeLine/\∀ p,H p = none->Q (.ref p) (upd H p (.lst ys))) ∨
 (J.go i H/\ys.length<=sizeLine/\∀ x H',J.yld i H x H'->g x (uC fr σ) H' fun σ2 H2=>te σ2 H2 fun y H3=>∃ m',m' < m/\W (i + 1) m' (ys ++ [y]) H3)
structure CF (X:Cx) (pins:List (Addr × Obj)) (H:Hp) (C:Addr):Prop where
 none:H C = none
 loc:C ≠ X.env.locals
 sz:X.s₀.heap.objs.size<=C
 cel:∀ x c,X.env.cells.lookup x = some c->c ≠ C
 pin:∀ p ∈ X.pn ++ pins,p.1 ≠ C
theorem aD0 {X:Cx} {elt iter tg:Expr} {scope:Scope} {pos pos2:Pos} {N':List Str} {fr:List (Option Nat)} {wi:TI} {g:TG} {te:TE} (S:fW X N' fr scope) (hc:X.calm = true) (hi:PI X tg iter wi)
  (hg:∀ C s H fp pins,PG (X.blk N' scope C s H fp pins) tg g) (he:∀ C s H fp pins,PE (X.blk N' scope C s H fp pins) elt te) (hs:∀ x,foldedSetIterable iter X.env x = pure x)
  {pins:List (Addr × Obj)} {s:Shared} {σ:St} {H:Hp} {Q:VK} (I:Inv X pins σ H s) (h:tLc wi fr g te σ H Q) (use:Option (Value->Sem Unit)) (Post:Value->Shared->Prop)
  (fin:∀ D C H' s4 m,Inv X pins σ H' s4->s4.heap.Ns C m->CF X pins H' C->Q (.ref D) H'->compPost (model X.prog X.w) X.A X.xe use Post (.ref D) C (.ok .next) s4) :
  wpAny (model X.prog X.w) X.A (comprehension (.ListComp elt [⟨tg,iter,[],0⟩] scope pos) scope X.env pos2 (newList []) false (eval iter X.env) use) Post X.xe s:=by
 refine wpAny_comprehension_free (use:=use) rfl hs (aBS (S.hasC I.ok)) S.kind S.names ?_
 show wpAny _ _ (eval iter X.env) _ _ s
 refine thn (hi pins s σ H _ I h) fun v s1 h1=>thn h1 fun itv s2 h2=>?_
 obtain ⟨it,fp,tn,J,H2,e,I2,T,st2,f2,W,⟨m0,w0⟩,turn⟩:=h2
 subst e
 refine wpAny_newObj_type (wpAny_newFunctionEnv S.nocell (by intro y hy;simp at hy) (fun h₁ hns₁ hsb₁=>?_) S.kind)
 dsimp only at hns₁ hsb₁ ⊢
 generalize hHp:s2.heap.push { cls:=.type "list",dict:=none,data:=.seq ([]:List Value).toArray } = HP at hns₁ hsb₁ ⊢
 have hC:HP.objs.size = s2.heap.objs.size + 1:=by rw [<- hHp,Heap.size_push]
 generalize hCe:HP.objs.size = C at hns₁ hsb₁ ⊢
 generalize hDe:s2.heap.objs.size = D at hC ⊢
 have hDC:D ≠ C:=by omega
 have hCle:s2.heap.objs.size<=C:=by omega
 have old:∀ b o,s2.heap.get? b = some o->h₁.get? b = some o:=fun b o e=>hsb₁.extBut b o (Nat.ne_of_lt (Nat.lt_of_lt_of_le (Heap.lt_size e) hCle)) (Heap.get?_push_of_some _ (hHp ▸ Heap.get?_push_of_some _ e))
 have hD1:h₁.PlainList D #[]:=⟨_,by
  refine hsb₁.extBut _ _ hDC (Heap.get?_push_of_some _ ?_)
  rw [<- hHp,<- hDe]
  exact Heap.get?_push_size _ rfl⟩
 have ltf:∀ b ∈ fp,b < D:=fun b hb=>by
  obtain ⟨o,e,_⟩:=T.obj _ _ st2 b hb
  exact Nat.lt_of_lt_of_eq (Heap.lt_size e) hDe
 have J0:=aHO (s1:={ s2 with heap:=h₁,toks:=s2.toks + ([]:List (Str × Value)).length }) S I2 f2 (fun b hb=>let ⟨o,e,_⟩:=T.obj _ _ st2 b hb;⟨o,e⟩) rfl rfl hCle old hns₁
 have ltC:∀ b,b < D->b ≠ C:=fun b hb=>Nat.ne_of_lt (Nat.lt_of_lt_of_le hb (by rw [<- hDe];exact hCle))
 have old2:∀ b o,s2.heap.get? b = some o->b < D:=fun b o e=>Nat.lt_of_lt_of_eq (Heap.lt_size e) hDe
 have neD:∀ b o,s2.heap.get? b = some o->b ≠ D:=fun b o e=>Nat.ne_of_lt (old2 b o e)
 have hDs:s2.heap.objs.size<=D:=Nat.le_of_eq hDe
 have hDfs:D ∉ frs X.stack:=fun hb=>by
  rcases List.mem_cons.mp (I2.stkSub D hb) with z | z
  ·have:=I2.lt
   rw [<- z] at this
   exact absurd (Nat.lt_of_lt_of_le this hDs) (Nat.lt_irrefl _)
  ·exact I2.nofs hDs z
 have cellD:∀ x c,X.env.cells.lookup x = some c->c ≠ D/\c ≠ C:=fun x c e=>by
  obtain ⟨v,o,ho,_⟩:=I2.cell x c e
  exact ⟨neD c o ho,ltC c (old2 c o ho)⟩
 have pinD:∀ p ∈ X.pn ++ pins,p.1 ≠ D/\p.1 ≠ C:=fun p hp=>by
  have e:=(I2.pin p hp).1
  exact ⟨neD _ _ e,ltC _ (old2 _ _ e)⟩
 have fpok:∀ (pl:List (Addr × Obj)) (H':Hp),(∀ b ∈ fp,H' b = none)->(∀ p ∈ pl,∀ b ∈ fp,p.1 ≠ b)->∀ b ∈ fp,zI (X.blk N' scope C s2 H2 fp pins) pl H' b:=fun pl H' hn hpl b hb=>by
  refine ⟨hn b hb,ltC b (ltf b hb),J0.ok.exfs b hb,.inl hb,(J0.ok.exf b hb).2,fun p hp=>?_⟩
  rcases List.mem_append.mp hp with z | z
  ·exact (f2 b hb).2.2.2.2.2 p z
  ·exact hpl p z b hb
 have loop:codeAny (model X.prog X.w) X.A (.compLoop (.ListComp elt [⟨tg,iter,[],0⟩] scope pos) 0 (.ref it) (.ref D) (compEnvC scope (clo X.env.cells scope.names []) C X.env))
   (compPost (model X.prog X.w) X.A X.xe use Post (.ref D) C) { s2 with heap:=h₁,toks:=s2.toks + ([]:List (Str × Value)).length }:=by
  refine pG (fun n s'=>∃ i H' ys its,Inv (X.blk N' scope C s2 H2 fp pins) [] (uC fr σ) H' s'/\tn i s'.heap/\(∀ b ∈ fp,H' b = none)/\s'.heap.PlainList D its/\H' D = none/\cG ys its.toList/\W i n ys H') ?_ m0
   ⟨0,H2,[],#[],J0,T.keep _ _ _ st2 fun b hb o e=>old b o e,fun b hb=>(f2 b hb).1,hD1,I2.hok.fresh hDs,.nil,w0⟩
  rintro n s3 ⟨i,H3,ys,its,I3,st3,fr3,⟨nn,pl3⟩,hD3,rv3,w3⟩
  have I3p:Inv (X.blk N' scope C s2 H2 fp pins) [(D,{ cls:=.type "list",data:=.seq its nn })] (uC fr σ) H3 s3:=I3.pins_of fun p hp=>by
   have e:=List.mem_singleton.mp hp
   subst e
   exact ⟨pl3,hD3,hDC,hDfs,fun v z=>by cases z⟩
  have pf:∀ p ∈ [((D,{ cls:=.type "list",data:=.seq its nn }):Addr × Obj)],∀ b ∈ fp,p.1 ≠ b:=fun p hp b hb=>by
   have e:=List.mem_singleton.mp hp
   subst e
   exact (Nat.ne_of_lt (ltf b hb)).symm
  rcases turn i n ys H3 w3 with ⟨stop,hz,q⟩ | ⟨go,hz,step⟩
  ·refine thn (T.done (X.blk N' scope C s2 H2 fp pins) rfl rfl rfl hc i _ s3 _ H3 (fun _ _=>False) I3p (fpok _ H3 fr3 pf) st3 stop) fun r s4 ⟨hr,I4⟩=>?_
   subst hr
   obtain ⟨mm,hn4,_⟩:=id I4.loc
   have pD:=(I4.pin _ (mem_append_right _ mem_cons_self)).1
   have IX:Inv X pins σ H3 s4:=I2.call' I4.os I4.base I4.hok I4.bare fun b hb=>⟨(f2 b hb).2.2.2.1,(f2 b hb).2.1,(f2 b hb).2.2.2.2.1,(f2 b hb).2.2.2.2.2⟩
   have CL:C ≠ X.env.locals:=(Nat.ne_of_lt (Nat.lt_of_lt_of_le I2.lt hCle)).symm
   have DL:D ≠ X.env.locals:=(Nat.ne_of_lt (Nat.lt_of_lt_of_le I2.lt hDs)).symm
   refine fin D C (upd H3 D (.lst ys)) s4 mm (IX.track hD3 (Nat.le_trans I2.sz hDs) DL (fun x c e=>(cellD x c e).1) (fun p hp=>(pinD p hp).1) ⟨hz,its.toList,nn,rv3,pD⟩) hn4 ⟨by rw [bS (Ne.symm hDC)];exact I4.free,CL,Nat.le_trans I2.sz hCle,fun x c e=>(cellD x c e).2,fun p hp=>(pinD p hp).2⟩ (q D hD3)
  ·refine thn (T.item (X.blk N' scope C s2 H2 fp pins) rfl rfl rfl hc i _ s3 _ H3 (fun _ _=>False) I3p (fpok _ H3 fr3 pf) st3 go) fun r s4 ⟨u,hr,h4⟩=>?_
   subst hr
   refine thn h4 fun _ s5 ⟨x,H5,I5,r5,y5,st5,fr5⟩=>?_
   have I5':=I5.pinned (fpok _ H5 fr5 pf) (T.obj _ _ st5)
   refine thn (hg C s2 H2 fp pins _ s5 _ H5 x u _ I5' r5 (step x H5 y5)) fun _ s6 ⟨σ6,H6,I6,q6⟩=>?_
   refine thn (he C s2 H2 fp pins _ s6 σ6 H6 _ I6 q6) fun yv s7 ⟨y,H7,I7,ry,m',hm,w7⟩=>?_
   obtain ⟨pD,nD,_⟩:=I7.pin _ (mem_append_right _ (mem_append_left _ mem_cons_self))
   have lz:its.size<=sizeLine:=by
    have e:ys.length = its.size:=by rw [rv3.length];simp
    rw [<- e];exact hz
   refine wpAny_list_append_plain (hsz:=lz) ⟨nn,pD⟩ fun h8 pl8 sb8=>?_
   have I7a:Inv (X.blk N' scope C s2 H2 fp pins) [] σ6 H7 s7:=I7.pins_of fun p hp=>nomatch hp
   have I8:Inv (X.blk N' scope C s2 H2 fp pins) [] σ6 H7 { s7 with heap:=h8,toks:=s7.toks }:=I7a.turned (it:=D) (fun b o hb e=>sb8.extBut b o hb e) nD hDC (.inr hDs) (fun x c e=>(cellD x c (S.sub I2.ok e)).1) fun p hp=>by
    rw [append_nil] at hp
    exact (pinD p hp).1
   refine ⟨m',hm,i + 1,H7,ys ++ [y],its.push yv,aEN S I2 I8,?_,fun b hb=>?_,pl8,nD,?_,w7⟩
   ·refine T.keep _ _ _ st5 fun b hb o e=>sb8.extBut b o (Nat.ne_of_lt (ltf b hb)) (I7.pin (b,o) (mem_append_right _ (mem_append_right _ (nA hb e)))).1
   ·obtain ⟨o,e,d⟩:=T.obj _ _ st5 b hb
    exact (I7.pin (b,o) (mem_append_right _ (mem_append_right _ (nA hb e)))).2.1
   ·rw [Array.toList_push]
    exact rv3.append (.cons ry .nil)
 exact codeAny_compStart_list loop (T.self _ _ _ _ _ (T.keep _ _ _ st2 fun b hb o e=>old b o e) loop)
theorem aN4 {X:Cx} {elt iter tg:Expr} {scope:Scope} {pos:Pos} {N':List Str} {fr:List (Option Nat)} {wi:TI} {g:TG} {te:TE} (S:fW X N' fr scope) (hc:X.calm = true) (hi:PI X tg iter wi)
  (hg:∀ C s H fp pins,PG (X.blk N' scope C s H fp pins) tg g) (he:∀ C s H fp pins,PE (X.blk N' scope C s H fp pins) elt te) (hs:∀ x,foldedSetIterable iter X.env x = pure x:=by intro _;rfl) :
  PE X (.ListComp elt [⟨tg,iter,[],0⟩] scope pos) (tLc wi fr g te):=by
 intro pins s σ H Q I h
 rw [eval_ListComp]
 refine aD0 S hc hi hg he hs I h none (EP X pins σ Q) fun D C H' s4 m J hn F q=>⟨m,hn,fun h' sb=>?_⟩
 exact ⟨.ref D,H',J.turned (t':=s4.toks) (it:=C) (fun b o hb e=>sb.extBut b o hb e) F.none F.loc (.inr F.sz) F.cel F.pin,rfl,q⟩
theorem aGR {X:Cx} {elt iter tg:Expr} {scope:Scope} {pos spos py:Pos} {N':List Str} {fr:List (Option Nat)} {wi:TI} {g:TG} {te:TE} {i:Nat} {y:Str} (S:fW X N' fr scope) (hc:X.calm = true) (hN:X.N.Nodup) (hi:PI X tg iter wi)
  (hg:∀ C s H fp pins,PG (X.blk N' scope C s H fp pins) tg g) (he:∀ C s H fp pins,PE (X.blk N' scope C s H fp pins) elt te) (hy:X.N[i]? = some y) (hx:Loc X.env.scope y)
  (hsw:swapsWith (.ListComp elt [⟨tg,iter,[],0⟩] scope pos) (some (.Name y py)) spos.line X.env = pure true) (hf:X.fn y = true ∨ X.env.scope.names.lookup y = some .local) (hs:∀ x,foldedSetIterable iter X.env x = pure x) :
  PS X (.Assign [.Name y py] (.ListComp elt [⟨tg,iter,[],0⟩] scope pos) spos) (fun D σ H=>tLc wi fr g te σ H fun v H'=>D.nx (σ.set i (some v)) H'):=by
 intro pins s σ H D I h
 rw [exec_Assign_Name_used _ _ _ _ hsw]
 refine wpAny_bind (wpAny_standAt (wpAny_bind ?_))
 show wpAny _ X.A (do let _ <- comprehension (.ListComp elt [⟨tg,iter,[],0⟩] scope pos) scope X.env _ (newList []) false (eval iter X.env) (some (assign (.Name y py) X.env))) _ _ s
 refine wpAny_bind (wpAny_mono (aD0 S hc hi hg he hs I h (some (assign (.Name y py) X.env)) (fun _ s'=>SP X pins D .next s') fun D' C H' s4 m J hn F q=>?_) (fun _ s' hq=>wpAny_pure (wpAny_pure hq)) fun _ _ e=>e)
 show wpAny _ X.A (assign (.Name y py) X.env (.ref D')) _ _ s4
 refine wpAny_assign_Name (tO J hN hy hx (v:=.ref D') rfl (fun s5 I5 ⟨a,sb,ha⟩=>?_) hf)
 have hCa:C ≠ a:=by
  rcases ha with rfl | ha
  ·exact F.loc
  ·exact (F.cel y a ha).symm
 refine ⟨m,hn.sameBut sb hCa,fun h' sb'=>?_⟩
 exact ⟨_,H',I5.turned (t':=s5.toks) (it:=C) (fun b o hb e=>sb'.extBut b o hb e) F.none F.loc (.inr F.sz) F.cel F.pin,q⟩
end L2
namespace Dd
open PySem PySem.Spec PyProof.Rows L2
noncomputable def zM (fr:List (Option Nat)) (ρ:cR):cR:=fr.map fun o=>match o with
 | some j=>(ρ[j]?).join
 | none=>none
section
variable {K:Frag} {H:Hp} {ρ:cR} {σ:L2.St}
theorem aGs (re:fP K H ρ σ) (fr:List (Option Nat)):fP K H (zM fr ρ) (uC fr σ):=by
 refine ⟨by unfold zM uC;rw [length_map,length_map],fun i d e=>?_⟩
 unfold zM at e
 unfold uC
 rw [getElem?_map] at e ⊢
 cases hf:fr[i]? with
 | none=>rw [hf] at e;cases e
 | some o =>
  rw [hf] at e
  cases o with
  | none=>cases e
  | some j =>
   have e:(ρ[j]?).join = some d:=Option.some.inj e
   have e2:ρ[j]? = some (some d):=by
    cases h:ρ[j]? with
    | none=>rw [h] at e;cases e
    | some o=>rw [h] at e;rw [show o = some d from e]
   obtain ⟨v,hv,r⟩:=re.get j d e2
   refine ⟨v,?_,r⟩
   show some (σ[j]?).join = some (some v)
   rw [hv]
   rfl
end
def aBt (at':Option Addr) (ds:List D) (ρ0:cR) (g:DG) (te:DE) (M:DM) (Q:DQ):Prop:=ds.length<=1000/\∃ Pv:Nat->List D->DM->Prop,Pv 0 [] M /\
 (∀ i ys M,i<=ds.length->Pv i ys M->∀ a,at' = some a->M a = some ds) /\
 (∀ i d ys M,ds[i]? = some d->Pv i ys M->g d ρ0 M fun ρ2 M2=>te ρ2 M2 fun y M3=>Pv (i + 1) (ys ++ [y]) M3) /\
 ∀ ys M,ys.length = ds.length->Pv ds.length ys M->∀ p:Addr,M p = none->Q (.ref p) (bH M p ys)
def aKU (tl:DE) (fr:List (Option Nat)) (g:DG) (te:DE):DE:=fun ρ M Q=>tl ρ M fun d M1=>match d with
 | .fz ds=>aBt none ds (zM fr ρ) g te M1 Q
 | .ref a=>∃ ds,M1 a = some ds/\aBt (some a) ds (zM fr ρ) g te M1 Q
 | _=>False
def aLt (tl:DE) (fr:List (Option Nat)) (g:DG) (te:DE):DE:=fun ρ M Q=>tl ρ M fun d M1=>match d with
 | .tup ds=>aBt none ds (zM fr ρ) g te M1 Q
 | _=>False
section
variable {X:Cx} {g:DG} {te:DE}
theorem aDn {K:Frag} {a':Option Addr} {ds:List D} {fr:List (Option Nat)} {σ:L2.St} {ρ:cR} {M:DM} {H0 H:Hp} {J:It} {Q:VK} {Q':DQ} (ex0:Ext H0 H) (re:fP K H ρ σ) (hm:cH K M H) (h:aBt a' ds (zM fr ρ) g te M Q') (kq:∀ v H',LQ K H0 Q' v H'->Q v H')
  (seq:∀ H',Ext H H'->(∀ M',cH K M' H'->(∀ a,a' = some a->M' a = some ds)->∃ xs,bZ K H' ds xs/\(∀ i,xs.length<=i->J.stop i H')/\(∀ i,i < xs.length->J.go i H')/\∀ i x H2,J.yld i H' x H2->H2 = H'/\xs[i]? = some x)) :
  ∃ W:Nat->Nat->List V->Hp->Prop,(∃ m,W 0 m [] H)/\∀ i m ys H,W i m ys H ->
   (J.stop i H/\ys.length<=sizeLine/\∀ p,H p = none->Q (.ref p) (upd H p (.lst ys))) ∨
   (J.go i H/\ys.length<=sizeLine/\∀ x H',J.yld i H x H'->aCH K g x (uC fr σ) H' fun σ2 H2=>low K te σ2 H2 fun y H3=>∃ m',m' < m/\W (i + 1) m' (ys ++ [y]) H3):=by
 obtain ⟨hl,Pv,p0,hat,step,done⟩:=h
 refine ⟨fun i m ysV H'=>∃ ys M',bZ K H' ys ysV/\cH K M' H'/\Ext H H'/\m = ds.length - i/\i<=ds.length/\ys.length = i/\Pv i ys M',⟨ds.length,[],M,cP,hm,.refl H,rfl,Nat.zero_le _,rfl,p0⟩,?_⟩
 rintro i m ysV H1 ⟨ys,M1,ry,hm1,e1,rfl,hi,ly,w1⟩
 obtain ⟨xs,rs,hst,hgo,hy⟩:=seq H1 e1 M1 hm1 (hat i ys M1 hi w1)
 have hll:=rs.length
 have lz:ysV.length<=sizeLine:=by rw [<- ry.length];exact Nat.le_of_lt (fA (by omega))
 by_cases hlt:i < ds.length
 ·refine .inr ⟨hgo i (by omega),lz,fun x H' y=>?_⟩
  obtain ⟨rfl,hx⟩:=hy i x H' y
  obtain ⟨d,hd,rd⟩:=rs.getV hx
  refine ⟨d,zM fr ρ,M1,_,rd,aGs (re.ext e1) fr,hm1,step i d ys M1 hd w1,fun σ2 H2 ⟨ρ2,M2,re2,hm2,e2,q2⟩=>?_⟩
  refine ⟨ρ2,M2,_,re2,hm2,q2,fun v H3 ⟨dy,M3,rdy,hm3,e3,q3⟩=>?_⟩
  exact ⟨ds.length - (i + 1),by omega,ys ++ [dy],M3,(ry.ext (e2.trans e3)).append (bJ rdy cP),hm3,(e1.trans e2).trans e3,rfl,hlt,by rw [length_append,ly];rfl,q3⟩
 ·have e:i = ds.length:=by omega
  subst e
  exact .inl ⟨hst _ (by omega),lz,fun p hp=>kq _ _ ⟨.ref p,_,gP,hm1.lnew hp ry,(ex0.trans e1).trans (Ext.new hp _),done ys M1 ly w1 p (hm1.fresh hp)⟩⟩
variable {elt iter tg:Expr} {scope:Scope} {pos:Pos} {N':List Str} {fr:List (Option Nat)} {tl:DE} {ta:DA} {oN:List Str} {osc:Scope}
theorem aL7 (B:oW oN osc N' fr scope) (hc:X.calm = true) (hi:PDE X iter tl) (hg:∀ C s H fp pins,PG (X.blk N' scope C s H fp pins) tg (aCH X.K g)) (he:∀ C s H fp pins,PE (X.blk N' scope C s H fp pins) elt (low X.K te)) (hN:X.N = oN:=by rfl) (ho:X.env.scope = osc:=by rfl) (hs:∀ x,foldedSetIterable iter X.env x = pure x:=by intro _;rfl) :
  PDE X (.ListComp elt [⟨tg,iter,[],0⟩] scope pos) (aLt tl fr g te) :=
 cO (aN4 (B.scope hN ho) hc (aGw hi) hg he hs) fun σ H Q ⟨ρ,M,Q',re,hm,q,k⟩=>⟨ρ,M,_,re,hm,q,fun v H1 ⟨d,M1,rd,hm1,ex,q1⟩=>by
  cases d with
  | tup ds =>
   obtain ⟨a,xs,rfl,sq,rs⟩:=cM rd
   exact ⟨a,rfl,⟨xs,sq⟩,aDn ex (re.ext ex) hm1 q1 k fun H' e' M' hm' _=>⟨xs,rs.ext e',fun i hi=>⟨xs,mH e' sq,hi⟩,fun i hi=>⟨xs,xs[i],mH e' sq,by simp [hi]⟩,fun i x H2 y=>⟨y.1,y.2 xs (mH e' sq)⟩⟩⟩
  | _=>exact q1.elim⟩
def aDh (i:Nat) (t:DE):DS:=fun E ρ M=>t ρ M fun x M1=>E.nx (ρ.set i (some x)) M1
theorem aEI {i:Nat} {y:Str} {spos py:Pos} (B:oW oN osc N' fr scope) (hc:X.calm = true) (hNd:X.N.Nodup) (hi:PDE X iter tl) (hg:∀ C s H fp pins,PG (X.blk N' scope C s H fp pins) tg (aCH X.K g)) (he:∀ C s H fp pins,PE (X.blk N' scope C s H fp pins) elt (low X.K te)) (hy:X.N[i]? = some y:=by rfl) (hx:Loc X.env.scope y:=by first | exact Or.inl rfl | exact Or.inr rfl)
  (hsw:swapsWith (.ListComp elt [⟨tg,iter,[],0⟩] scope pos) (some (.Name y py)) spos.line X.env = pure true:=by rfl) (hf:X.fn y = true ∨ X.env.scope.names.lookup y = some .local:=by first | exact .inl rfl | exact .inr rfl | assumption) (hN:X.N = oN:=by rfl) (ho:X.env.scope = osc:=by rfl) (hs:∀ x,foldedSetIterable iter X.env x = pure x:=by intro _;rfl) :
  PDS X (.Assign [.Name y py] (.ListComp elt [⟨tg,iter,[],0⟩] scope pos) spos) (aDh i (aKU tl fr g te)) :=
 iL (aGR (i:=i) (B.scope hN ho) hc hNd (aEj hi) hg he hy hx hsw hf hs) fun E σ H ⟨ρ,M,D,re,hm,q,kk⟩=>⟨ρ,M,_,re,hm,q,fun v H1 ⟨d,M1,rd,hm1,ex,q1⟩=>by
  have k:∀ v H',LQ X.K H (fun x M1=>D.nx (ρ.set i (some x)) M1) v H'->E.nx (σ.set i (some v)) H':=fun v H' ⟨d,M',rd',hm',e',q'⟩=>kk.nx _ H' ⟨_,M',(re.ext e').set rd' i,hm',e',q'⟩
  cases d with
  | fz ds =>
   obtain ⟨a,xs,rfl,sq,rs⟩:=nW rd
   exact ⟨a,rfl,⟨xs,sq.sq⟩,aDn ex (re.ext ex) hm1 q1 k fun H' e' M' hm' _=>⟨xs,rs.ext e',fun i hi=>⟨xs,(nF e' sq).sq,hi⟩,fun i hi=>⟨xs,xs[i],(nF e' sq).sq,by simp [hi]⟩,fun i x H2 y=>⟨y.1,y.2 xs (nF e' sq).sq⟩⟩⟩
  | ref a =>
   obtain ⟨ds,ha,q1⟩:=q1
   obtain rfl:=bE rd
   obtain ⟨xs,hx,rs⟩:=hm1.l a ds ha
   refine ⟨a,rfl,⟨xs,.of hx⟩,aDn ex (re.ext ex) hm1 q1 k fun H' e' M' hm' hat=>?_⟩
   obtain ⟨ys,hy,rs'⟩:=hm'.l a ds (hat a rfl)
   exact ⟨ys,rs',fun i hi=>⟨ys,.of hy,hi⟩,fun i hi=>⟨ys,ys[i],.of hy,by simp [hi]⟩,fun i x H2 y=>⟨y.1,y.2 ys (.of hy)⟩⟩
  | _=>exact q1.elim⟩
end
end Dd
namespace L2
open PySem PySem.Spec PyProof.Rows
variable {X:Cx}
theorem xF (hc:X.calm = true):lK X (.builtin "all") (fun xs H Q=>∃ (p:Addr) (bs:List Bool),xs = [.ref p]/\SqL X.K H p (bs.map V.bl)/\Q (.bl (bs.all id)) H):=by
 intro pins s σ H xs us Q I r h
 obtain ⟨p,bs,rfl,hq,q⟩:=h
 obtain ⟨u,rfl,rx⟩:=sR r
 cases rx
 obtain ⟨its,r',pl,hz⟩:=I.list hq
 have hl:=pl.isList
 have hlt:p < s.heap.objs.size:=by obtain ⟨_,e,_⟩:=hl;exact Heap.lt_size e
 have hg:∀ (i:Nat) (v:Value),its.toArray[i]? = some v->∃ b,bs[i]? = some b/\v = Value.bool b:=fun i v e=>by
  obtain ⟨x,hx,rv⟩:∃ x,(bs.map V.bl)[i]? = some x/\cS x v:=by
   have:=r'.length
   have hi:i < its.length:=by
    have:=(Array.getElem?_eq_some_iff.mp e).1
    simpa using this
   have hi':i < (bs.map V.bl).length:=by omega
   obtain ⟨w,hw,rw'⟩:=r'.get (i:=i) (List.getElem?_eq_getElem hi')
   have:w = v:=by
    have e':its[i]? = some v:=by simpa using e
    rw [e'] at hw;exact (Option.some.inj hw).symm
   subst this
   exact ⟨_,List.getElem?_eq_getElem hi',rw'⟩
  rw [getElem?_map] at hx
  cases hb:bs[i]? with
  | none=>rw [hb] at hx;cases hx
  | some b=>rw [hb] at hx;cases hx;cases rv;exact ⟨b,rfl,rfl⟩
 refine call_all_walk (wpAny_pyIter_list hl ?_)
 refine ⟨s.heap.objs.size,[s.heap.objs.size,p],[s.heap.objs.size],its.toArray.size,_,_,fun i=>(bs[i]?).getD true,rfl,Walks.list (A:=X.A.in1) (I.ok.hd hc) _ p (Nat.ne_of_lt hlt) its.toArray,
  ⟨⟨_,Heap.get?_push_size _ rfl,rfl,rfl⟩,hl.push _⟩,fun i v s' Q' E' hP hQ=>?_,fun h' tk hk=>?_⟩
 ·obtain ⟨b,e,rfl⟩:=hg i v hP
  simp only [e,Option.getD_some] at hQ
  exact wpAny_truthy_bool hQ
 ·have e:((range its.toArray.size).all fun i=>(bs[i]?).getD true) = bs.all id:=by
   have l1:=r'.length
   rw [length_map] at l1
   rw [size_toArray,<- l1];exact LSm.range_all bs
  rw [e]
  exact ⟨.bl (bs.all id),H,I.kept (t':=tk) (LSm.kept_iter hk),rfl,q⟩
end L2
namespace Dd
open PySem PySem.Spec PyProof.Rows L2
variable {X:Cx}
def aNB:DSp:=fun ds M Q=>match ds with
 | [.ref a]=>∃ bs:List Bool,M a = some (bs.map D.bl)/\Q (.bl (bs.all id)) M
 | _=>False
theorem aBO {K:Frag} {H:Hp}:∀ {bs:List Bool} {vs:List V},bZ K H (bs.map D.bl) vs->vs = bs.map V.bl
 | [],_,h=>bV h
 | b :: bs,_,h=>by
  obtain ⟨v,r,rfl,hv,hr⟩:=aW h
  rw [cL hv,aBO hr]
  rfl
theorem aKZ (hc:X.calm = true):gK X (.builtin "all") aNB:=gK.of (xF hc) fun vs H M ds Q rs hm q=>by
 rcases ds with _ | ⟨d,_ | ⟨d2,r⟩⟩
 ·exact q.elim
 ·cases d with
  | ref a =>
   obtain ⟨v,rfl,rv⟩:=fD rs
   obtain rfl:=bE rv
   obtain ⟨bs,ha,q⟩:=q
   obtain ⟨us,hu,ru⟩:=hm.l a _ ha
   obtain rfl:=aBO ru
   exact ⟨a,bs,rfl,.of hu,_,M,eB,hm,.refl H,q⟩
  | _=>exact q.elim
 ·cases d<;>exact q.elim
section
variable {g:DG} {te:DE} {tb:DS} {Q:DQ} {ρ0:cR}
def itT (d:D) (ρ0:cR) (g:DG) (te:DE) (M:DM) (Q:DQ):Prop:=match d with
 | .tup ds=>aBt none ds ρ0 g te M Q
 | _=>False
theorem aHH {tl:DE} {fr:List (Option Nat)} {ρ:cR} {M:DM}:aLt tl fr g te ρ M Q = tl ρ M fun d M1=>itT d (zM fr ρ) g te M1 Q:=rfl
theorem aIh {ds:List D} {M:DM}:itT (.tup ds) ρ0 g te M Q = aBt none ds ρ0 g te M Q:=rfl
def foT (d:D) (g:DG) (tb:DS) (E:fY) (ρ:cR) (M:DM):Prop:=match d with
 | .tup ds=>dIt none ds g tb E ρ M
 | _=>False
theorem aGH {tl:DE} {E:fY} {ρ:cR} {M:DM}:aGh tl g tb E ρ M = tl ρ M fun d M1=>foT d g tb E ρ M1:=rfl
theorem aI4 {ds:List D} {E:fY} {ρ:cR} {M:DM}:foT (.tup ds) g tb E ρ M = dIt none ds g tb E ρ M:=rfl
end
section
variable {e:Expr} {te:DE} {pos:Pos}
end
section
variable {X:Cx} {e:Expr} {te:DE} {pos p2:Pos} {lo hi:Option Expr} {tl th:DO}
def aOm (g:Bool->Bool):D2:=fun x y M Q=>match x,y with
 | .int k,.ref a=>∃ ns:List Int,M a = some (ns.map D.int)/\Q (.bl (g (ns.any (· == k)))) M
 | .str k,.ref a=>∃ ns:List Str,M a = some (ns.map D.str)/\Q (.bl (g (ns.any (· == k)))) M
 | _,_=>False
theorem rC {K:Frag} {H:Hp}:∀ {ns:List Int} {vs:List V} {its:List Value},bZ K H (ns.map D.int) vs->cG vs its->IntsAre its ns
 | [],_,_,h,r=>by rw [bV h] at r;cases r;exact .nil
 | n :: ns,_,_,h,r=>by
  obtain ⟨v,rr,rfl,hv,hr⟩:=aW h
  rw [aT hv] at r
  cases r with
  | cons q w =>
   obtain ⟨t,rfl⟩:=q
   exact .cons _ _ (rC hr w)
theorem rK {K:Frag} {H:Hp}:∀ {ns:List Str} {vs:List V} {its:List Value},bZ K H (ns.map D.str) vs->cG vs its->StrsAre its ns
 | [],_,_,h,r=>by rw [bV h] at r;cases r;exact .nil
 | n :: ns,_,_,h,r=>by
  obtain ⟨v,rr,rfl,hv,hr⟩:=aW h
  rw [bC hv] at r
  cases r with
  | cons q w =>
   obtain ⟨t,rfl⟩:=q
   exact .cons _ _ (rK hr w)
theorem aGi:OpD X (compareOp .In) (aOm id):=fun pins s σ H x y v u Q I rx ry ⟨dx,dy,M,Q',r1,r2,hm,q,k⟩=>by
 cases dx with
 | int z =>
  cases dy with
  | ref a =>
   obtain ⟨ns,ha,q⟩:=q
   obtain rfl:=aT r1
   obtain rfl:=bE r2
   obtain ⟨t,rfl⟩:=rx
   cases ry
   obtain ⟨us,hu,ru⟩:=hm.l a _ ha
   obtain ⟨zz,its,nn,rv,hlen,e1⟩:=I.lstM hu
   exact in_list_ints ⟨_,e1,rfl,_,rfl⟩ (rC ru rv) ⟨.bl _,H,I,rfl,k _ H ⟨_,M,eB,hm,.refl H,q⟩⟩
  | _=>exact q.elim
 | str z =>
  cases dy with
  | ref a =>
   obtain ⟨ns,ha,q⟩:=q
   obtain rfl:=bC r1
   obtain rfl:=bE r2
   obtain ⟨t,rfl⟩:=rx
   cases ry
   obtain ⟨us,hu,ru⟩:=hm.l a _ ha
   obtain ⟨zz,its,nn,rv,hlen,e1⟩:=I.lstM hu
   exact in_list_strs ⟨_,e1,rfl,_,rfl⟩ (rK ru rv) ⟨.bl _,H,I,rfl,k _ H ⟨_,M,eB,hm,.refl H,q⟩⟩
  | _=>exact q.elim
 | _=>cases dy<;>exact q.elim
end
end Dd
namespace L2
open PySem PySem.Spec PyProof.Rows
open PySem.AutoSeq1 (wpAny_loadPart')
section
variable {X:Cx} {a n:Expr} {ta:TE} {tn:TA} {pos:Pos}
end
end L2
namespace Dd
open PySem PySem.Spec PyProof.Rows L2
section
variable {X:Cx} {a n:Expr} {ta:DE} {tn:DA} {pos p pos':Pos}
end
section
variable {X:Cx} {a b c e o:Expr} {es:List Expr} {ta tb tc te to:DE} {pos:Pos}
def uO (r r':D2) (ta tb tc:DE):DE:=fun ρ M Q=>ta ρ M fun x M1=>tb ρ M1 fun y M2=>r x y M2 fun z M3=>match z with
 | .bl k=>if k = true then tc ρ M3 fun w M4=>r' y w M4 Q else Q (.bl false) M3
 | _=>False
theorem zZ {r r':D2} {σ:L2.St} {H:Hp} {Q:VK} (h:low X.K (uO r r' ta tb tc) σ H Q) :
  aDw (fun x y H Q=>∃ dx dy M Q',Rep X.K H dx x/\Rep X.K H dy y/\cH X.K M H/\r dx dy M Q'/\∀ v H',LQ X.K H Q' v H'->Q v H') (fun x y H Q=>∃ dx dy M Q',Rep X.K H dx x/\Rep X.K H dy y/\cH X.K M H/\r' dx dy M Q'/\∀ v H',LQ X.K H Q' v H'->Q v H') (low X.K ta) (low X.K tb) (low X.K tc) σ H Q:=by
 obtain ⟨ρ,M,Q',re,hm,q,k⟩:=h
 refine ⟨ρ,M,_,re,hm,q,fun x H1 ⟨dx,M1,rx,hm1,e1,q1⟩=>⟨ρ,M1,_,re.ext e1,hm1,q1,fun y H2 ⟨dy,M2,ry,hm2,e2,q2⟩=>⟨dx,dy,M2,_,rx.ext e2,ry,hm2,q2,fun z H3 ⟨dz,M3,rz,hm3,e3,q3⟩=>?_⟩⟩⟩
 cases dz with
 | bl k' =>
  refine ⟨k',cL rz,?_⟩
  cases k' with
  | false=>exact k _ H3 ⟨.bl false,M3,eB,hm3,(e1.trans e2).trans e3,q3⟩
  | true=>exact ⟨ρ,M3,_,((re.ext e1).ext e2).ext e3,hm3,q3,fun w H4 ⟨dw,M4,rw',hm4,e4,q4⟩=>⟨dy,dw,M4,Q',(ry.ext e3).ext e4,rw',hm4,q4,fun v H' zz=>k v H' (zz.back (((e1.trans e2).trans e3).trans e4))⟩⟩
 | _=>exact q3.elim
theorem aFO {op op':CmpOp} {r r':D2} (ho:OpD X (compareOp op) r) (ho':OpD X (compareOp op') r') (ha:PDE X a ta) (hb:PDE X b tb) (hc:PDE X c tc) (hm:lastMarks [op,op'] [b,c] = false:=by with_unfolding_all rfl):PDE X (.Compare a [op,op'] [b,c] pos) (uO r r' ta tb tc) :=
 cO (aF2 ho ho' ha hb hc hm) fun σ H Q h=>zZ h
theorem aHp {op op':CmpOp} {r r':D2} (ho:OpD X (compareOp op) r) (ho':OpD X (compareOp op') r') (ha:PDE X a ta) (hb:PDE X b tb) (hc:PDE X c tc) (hm:lastMarks [op,op'] [b,c] = false:=by with_unfolding_all rfl):PDT X (.Compare a [op,op'] [b,c] pos) (vK (uO r r' ta tb tc)) :=
 aBd (aFo ho ho' ha hb hc hm) fun σ H Q h=>zZ (wU h)
def aGI (g:Int->Int->Int):DSp:=fun ds M Q=>match ds with
 | [.int i,.int j]=>Q (.int (g i j)) M
 | _=>False
theorem aIm {g:Int->Int->Int} {fv:Value} (h:lK X fv (fun xs H Q=>∃ i j,xs = [.int i,.int j]/\Q (.int (g i j)) H)):gK X fv (aGI g):=gK.of h fun vs H M ds Q rs hm q=>by
 rcases ds with _ | ⟨d,_ | ⟨d2,_ | ⟨d3,r⟩⟩⟩
 ·exact q.elim
 ·cases d<;>exact q.elim
 ·cases d with
  | int i =>
   cases d2 with
   | int j =>
    obtain ⟨v,v2,rfl,rv,rv2⟩:=aMq rs
    obtain rfl:=aT rv
    obtain rfl:=aT rv2
    exact ⟨i,j,rfl,_,M,bU,hm,.refl H,q⟩
   | _=>exact q.elim
  | _=>exact q.elim
 ·cases d<;>first | exact q.elim | (cases d2<;>exact q.elim)
def aOE:DSp:=aGI fun i j=>if j < i then j else i
theorem aJP (hc:X.calm = true):gK X (.builtin "min") aOE:=aIm (aEU hc)
end
mutual
theorem aCo:∀ (n:Nat) (d:D),bR n d = true->eqD d d = true
 | n,.non,_=>rfl
 | n,.bl b,_=>by simp [eqD]
 | n,.int i,_=>by simp [eqD]
 | n,.str x,_=>by simp [eqD]
 | n,.ref a,h=>by cases n<;>exact absurd h Bool.false_ne_true
 | n,.fz a,h=>by cases n<;>exact absurd h Bool.false_ne_true
 | 0,.tup xs,h=>absurd h Bool.false_ne_true
 | n + 1,.tup xs,h=>aAk n xs h
theorem aAk:∀ (n:Nat) (ds:List D),ds.all (bR n) = true->mU ds ds = true
 | n,[],_=>rfl
 | n,d :: ds,h=>by
  rw [all_cons,Bool.and_eq_true] at h
  show (eqD d d && mU ds ds) = true
  rw [aCo n d h.1,aAk n ds h.2]
  rfl
end
theorem aCh {g:Bool->Bool} {d:D} {M:DM} {Q:DQ} (h:bR 60 d = true) (q:Q (.bl (g true)) M):dEq g d d M Q:=by
 cases d with
 | ref a=>exact absurd h Bool.false_ne_true
 | _=>exact ⟨h,h,by rw [aCo 60 _ h];exact q⟩
theorem aNn (n:Nat):HT.sIx (n + 1) 0 (some 1) = 1/\HT.sIx (n + 1) (n + 1) none = n + 1:=by
 constructor
 ·unfold HT.sIx
  simp
 ·rfl
theorem yT {x:D} {xs:List D}:cutD (x :: xs) (some 1) none = xs:=by
 unfold cutD
 rw [length_cons,(aNn _).1,(aNn _).2]
 simp
theorem ifF {b:Bool} {A B:Prop} (h:b = false) (q:B):if b = true then A else B:=by subst h;exact q
theorem ifT {b:Bool} {A B:Prop} (h:b = true) (q:A):if b = true then A else B:=by subst h;exact q
end Dd
set_option maxHeartbeats 400000
namespace L2
open PySem PySem.Spec PyProof.Rows
end L2
namespace Dd
open PySem PySem.Spec PyProof.Rows L2
section
variable {X:Cx} {e k:Expr} {te tk:DE} {pos p2:Pos}
end
end Dd
namespace Zp
open PySem PySem.Spec PyProof.Rows
section
variable {prog:Program} {w:World} {A:Around} {E:Value->Shared->Prop} {s:Shared}
end
end Zp
namespace L2
open PySem PySem.Spec PyProof.Rows
theorem Inv.turnedT {X:Cx} {pins:List (Addr × Obj)} {σ:St} {H:Hp} {s:Shared} {h':Heap} {fp:List Addr} {p:Addr} {xs:List V} {its:List Value} (I:Inv X pins σ H s) (k:∀ b o,b ∉ fp->s.heap.get? b = some o->h'.get? b = some o) (hf:∀ b ∈ fp,zI X pins H b) (hp:s.heap.objs.size<=p) (hz:xs.length<=sizeLine) (hv:cG xs its) (ht:IsTup h' p its.toArray) (th:∀ b ∈ fp,∃ o,h'.get? b = some o) :
  Inv X pins σ (upd H p (.tup xs)) { s with heap:=h' }:=by
 have hn:H p = none:=I.hok.fresh hp
 have nf:∀ b u,H b = some u->b ∉ fp:=fun b u e hb=>by rw [(hf b hb).1] at e;cases e
 have np:∀ b o,s.heap.get? b = some o->b ≠ p:=fun b o e=>Nat.ne_of_lt (Nat.lt_of_lt_of_le (Heap.lt_size e) hp)
 refine I.step (g':=s.gens) (d':=s.drawn) (t':=s.toks) (ch:=fp) (fun b hb=>⟨(hf b hb).2.2.2.1,(hf b hb).2.1,(hf b hb).2.2.2.2.1,(hf b hb).2.2.2.2.2⟩) (fun b o _ _ hc e _=>k b o hc e) (fun b o _ _ hc e _=>⟨o.slots,k b o hc e⟩) (fun b o _ e n=>by rw [bS (np b o e)];exact n)
  (fun b o hc e=>⟨o,k b o hc e⟩) (fun b ys e=>by rw [bS (bX e hn)];exact e) (fun b o u e=>by rw [bS (bX e hn)];exact e) (fun b ps e=>⟨#[],by rw [bS (bX e hn),e];simp⟩) (fun m hm=>?_) (fun b u e=>?_) I.bare
 ·obtain ⟨o,es,ep,ho,r⟩:=hm
  exact ⟨o,es,ep,k _ o (fun hb=>(hf _ hb).2.1 rfl) ho,r⟩
 ·by_cases hb:b = p
  ·subst hb
   rw [dN] at e
   cases e
   exact ⟨hz,its,hv,ht⟩
  ·rw [bS hb] at e
   refine (I.hok b u e).stay (fun c v hc q=>k c v ?_ q) (fun c q=>by rw [bS (bX q hn)];exact q) fun c xs q=>by rw [bS (bX q hn)];exact q
   rcases hc with z | z
   ·rw [z];exact nf b u e
   ·exact nf c _ z
theorem Inv.turnedL {X:Cx} {pins:List (Addr × Obj)} {σ:St} {H:Hp} {s:Shared} {h':Heap} {fp:List Addr} (I:Inv X pins σ H s) (k:∀ b o,b ∉ fp->s.heap.get? b = some o->h'.get? b = some o) (hf:∀ b ∈ fp,zI X pins H b) :
  Inv X pins σ H { s with heap:=h' }:=by
 have nf:∀ b u,H b = some u->b ∉ fp:=fun b u e hb=>by rw [(hf b hb).1] at e;cases e
 refine I.step (g':=s.gens) (d':=s.drawn) (t':=s.toks) (ch:=fp) (fun b hb=>⟨(hf b hb).2.2.2.1,(hf b hb).2.1,(hf b hb).2.2.2.2.1,(hf b hb).2.2.2.2.2⟩) (fun b o _ _ hc e _=>k b o hc e) (fun b o _ _ hc e _=>⟨o.slots,k b o hc e⟩) (fun b o _ e n=>n)
  (fun b o hc e=>⟨o,k b o hc e⟩) (fun b ys e=>e) (fun b o u e=>e) (fun b ps e=>⟨#[],by rw [e];simp⟩) (fun m hm=>?_) (fun b u e=>?_) I.bare
 ·obtain ⟨o,es,ep,ho,r⟩:=hm
  exact ⟨o,es,ep,k _ o (fun hb=>(hf _ hb).2.1 rfl) ho,r⟩
 ·refine (I.hok b u e).stay (fun c v hc q=>k c v ?_ q) (fun c q=>q) fun c xs q=>q
  rcases hc with z | z
  ·rw [z];exact nf b u e
  ·exact nf c _ z
end L2
namespace Dd
open PySem PySem.Spec PyProof.Rows L2
section
variable {X:Cx} {pos:Pos} {iter tg:Expr} {body:List Stmt} {tl:DE} {g:DG} {tb:DS} {ta:DA}
end
end Dd
set_option maxHeartbeats 1000000
namespace Dd
open PySem PySem.Spec PyProof.Rows L2
theorem fO.there {P:Program} {w:World} {H:Hp} {h:Heap} {a:Addr} {o:HO} (x:fO P w H h a o):∃ u,h.get? a = some u:=by
 cases o with
 | lst xs=>obtain ⟨_,_,_,_,e⟩:=x;exact ⟨_,e⟩
 | tup xs=>obtain ⟨_,_,_,ob,e,_⟩:=x;exact ⟨_,e⟩
 | dK kvs=>obtain ⟨_,_,_,_,o,_,_,e,_⟩:=x;exact ⟨_,e⟩
 | dT kvs=>obtain ⟨_,_,_,_,o,_,_,e,_⟩:=x;exact ⟨_,e⟩
 | set S n=>obtain ⟨o,_,_,_,e,_⟩:=x;exact ⟨_,e⟩
 | ins C dx fs=>obtain ⟨_,_,_,e,_⟩:=x;exact ⟨_,e⟩
 | own y=>obtain ⟨_,e⟩:=x;exact ⟨_,e⟩
 | xd fs=>obtain ⟨_,⟨_,_,_,e,_⟩,_⟩:=x;exact ⟨_,e⟩
 | rng lo hi=>obtain ⟨_,_,_,e⟩:=x;exact ⟨_,e⟩
 | frz ob u=>obtain ⟨e,_⟩:=x;exact ⟨_,e⟩
 | tbl ps=>exact ⟨_,(show h.get? a = some _ from x)⟩
 | met f y=>exact ⟨_,(show h.get? a = some _ from x)⟩
 | ext φ=>obtain ⟨_,⟨_,e⟩,_⟩:=x;exact ⟨_,e⟩
def FpN (X:Cx) (pins:List (Addr × Obj)) (H:Hp) (b:Addr):Prop :=
 H b = none/\b ≠ X.env.locals/\X.s₀.heap.get? b = none/\(∀ x c,X.env.cells.lookup x = some c->c ≠ b)/\∀ p ∈ X.pn ++ pins,p.1 ≠ b
section
variable {X:Cx} {pins:List (Addr × Obj)} {σ:L2.St} {H H':Hp} {s:Shared} {h':Heap}
theorem _root_.L2.Inv.fpN (I:Inv X pins σ H s) (hex:X.ex = []) {b:Addr} (h:s.heap.get? b = none) (hn:H' b = none):FpN X pins H' b:=by
 refine ⟨hn,fun z=>?_,?_,fun x c e z=>?_,fun p hp z=>?_⟩
 ·obtain ⟨m,⟨o,_,_,ho,_⟩,_⟩:=I.loc
  rw [<- z,h] at ho;cases ho
 ·cases q:X.s₀.heap.get? b with
  | none=>rfl
  | some o =>
   obtain ⟨o',e⟩:=I.base.there b o q (by rw [hex];simp)
   rw [h] at e;cases e
 ·obtain ⟨v,o,ho,_⟩:=I.cell x c e
  rw [z,h] at ho;cases ho
 ·obtain ⟨e,_⟩:=I.pin p hp
  rw [z,h] at e;cases e
theorem _root_.L2.Inv.untr (I:Inv X pins σ H s) {b:Addr} (h:s.heap.get? b = none):H b = none:=by
 cases q:H b with
 | none=>rfl
 | some o=>obtain ⟨u,e⟩:=fO.there (I.hok b o q);rw [h] at e;cases e
theorem _root_.L2.Inv.mark {ch:List Addr} (I:Inv X pins σ H s) (hch:∀ b ∈ ch,FpN X pins H b) (keep:∀ b o,b ∉ frs X.stack->b ∉ ch->s.heap.get? b = some o->h'.get? b = some o)
  (slot:∀ b o,b ∉ ch->s.heap.get? b = some o->∃ sl,h'.get? b = some { o with slots:=sl }):Inv X pins σ H { s with heap:=h' }:=by
 have neL:∀ b o,X.s₀.heap.get? b = some o->b ≠ X.env.locals:=fun b o e=>Nat.ne_of_lt (Nat.lt_of_lt_of_le (Heap.lt_size e) I.ok.above)
 have neC:∀ b o,X.s₀.heap.get? b = some o->b ∉ ch:=fun b o e hb=>by rw [(hch b hb).2.2.1] at e;cases e
 have stk:∀ b,b ≠ X.env.locals->b ∉ X.fs->b ∉ frs X.stack:=fun b h1 h2 hb=>(List.mem_cons.mp (I.stkSub b hb)).elim h1 h2
 have cellK:∀ x c,X.env.cells.lookup x = some c->∀ v,s.heap.IsCell c v->h'.IsCell c v:=fun x c e v ⟨o,ho,hd⟩=>by
  obtain ⟨sl,q⟩:=slot c o (fun z=>(hch c z).2.2.2.1 x c e rfl) ho
  exact ⟨_,q,hd⟩
 refine ⟨I.ok,I.os,I.bare,⟨fun b o e n hb hx=>?_,fun b o e n hb hx=>?_,I.base.free,fun b o e hx=>?_,I.base.tups,I.base.frzs,I.base.tbls⟩,?_,fun x c e=>?_,I.free,I.freeC,fun p hp=>?_,fun a o e=>?_,I.len⟩
 ·exact keep b o (stk b (neL b o e) hb) (neC b o e) (I.base.keep b o e n hb hx)
 ·obtain ⟨sl,e1⟩:=I.base.slot b o e n hb hx
  obtain ⟨sl',e2⟩:=slot b _ (neC b o e) e1
  exact ⟨sl',e2⟩
 ·obtain ⟨o',e1⟩:=I.base.there b o e hx
  obtain ⟨sl,e2⟩:=slot b o' (neC b o e) e1
  exact ⟨_,e2⟩
 ·obtain ⟨m,⟨o,es,ep,ho,r⟩,hl⟩:=I.loc
  obtain ⟨sl,e2⟩:=slot _ o (fun z=>(hch _ z).2.1 rfl) ho
  refine ⟨m,⟨_,es,ep,e2,r⟩,fun i x v e1 e2 e3=>?_⟩
  obtain ⟨u,r,l⟩:=hl i x v e1 e2 e3
  refine ⟨u,r,?_⟩
  rcases l with l | ⟨k,c,e,z⟩
  ·exact .inl l
  ·exact .inr ⟨k,c,e,cellK x c e _ z⟩
 ·obtain ⟨v,z⟩:=I.cell x c e
  exact ⟨v,cellK x c e v z⟩
 ·obtain ⟨e,n,ne,nf,d⟩:=I.pin p hp
  exact ⟨keep p.1 p.2 (stk _ ne nf) (fun z=>(hch _ z).2.2.2.2 p hp rfl) e,n,ne,nf,d⟩
 ·refine (I.hok a o e).stay (fun b u hb q=>keep b u (fun z=>?_) (fun z=>?_) q) (fun _ q=>q) fun _ _ q=>q
  ·have:=I.stkFree b z
   rcases hb with hb | hb
   ·rw [hb,e] at this;cases this
   ·rw [hb] at this;cases this
  ·have:=(hch b z).1
   rcases hb with hb | hb
   ·rw [hb,e] at this;cases this
   ·rw [hb] at this;cases this
end
theorem oK (f:Array Value->Array Value) (o:Obj):(o.mapFields f).dict = o.dict:=by unfold Obj.mapFields;split<;>rfl
def Nw (h:Heap) (e:Addr) (cls:Value):Prop:=∃ oe vs,h.get? e = some oe/\(oe.cls = cls/\oe.dict = none)/\oe.data = .fields vs/\vs[1]? = some Value.none
def Tr (h:Heap) (e:Addr) (cls:Value) (T:Addr) (fl:Value):Prop :=
 ∃ oe vs oT ts,h.get? e = some oe/\(oe.cls = cls/\oe.dict = none)/\oe.data = .fields vs/\vs[1]? = some (.ref T)/\T ≠ e/\h.get? T = some oT/\oT.data = .fields ts/\ts[3]? = some fl
section
variable {X:Cx} {pins:List (Addr × Obj)} {σ:L2.St} {H:Hp} {s:Shared} {M:Model} {A:Around} {E:Value->Shared->Prop} {e T:Addr} {cls:Value}
theorem aFb {oe:Obj} {vs:Array Value} {head:Value} {hadNext:Bool} {Q:Unit->Shared->Prop} (I:Inv X pins σ H s) (hs:X.stack = X.env :: X.outer) (hf:X.env.frame = some X.env.locals) (hex:X.ex = [])
  (hA:A.frames = some X.stack) (he:s.heap.get? e = some oe) (hdi:oe.dict = none) (hd:oe.data = .fields vs) (hsz:1 < vs.size) (fe:FpN X pins H e)
  (h:∀ s' T,Inv X pins σ H s'->Tr s'.heap e oe.cls T (rawInt X.env.locals)->FpN X pins H T->s.heap.get? T = none->Q () s') :
  wpAny M A (do let a <- frameOf X.env;let pl <- entryPlaceOf X.env.locals hadNext;let b <- EntryCells.newEntry head a .none (rawInt X.env.locals) .none pl;setField (.ref e) 1 b) Q E s:=by
 have hfr:A.frames = some (X.env :: X.outer):=by rw [hA,hs]
 have hl:s.heap.FunFrames X.base (X.env :: X.outer):=hs ▸ I.stack
 have hene:e ∉ (X.env :: X.outer).filterMap (·.frame):=fun hm=>by
  obtain ⟨_,o,ho,hnf⟩:=hl.mem hm
  rw [he] at ho;cases ho;exact hnf vs hd
 have hfs:frs X.stack = (X.env :: X.outer).filterMap (·.frame):=by rw [hs];rfl
 refine wpAny_bind (wpAny_frameOf_fun hfr hl hf fun h₁ hs₁=>?_)
 refine wpAny_bind (wpAny_entryPlaceOf fun pl hpl=>?_)
 unfold EntryCells.newEntry newFields
 refine wpAny_bind (wpAny_newObj_type ?_ (hpl.sizeOk5 _ _ _ _ _))
 have he₁:h₁.get? e = some oe:=(hs₁.2.1 e hene).trans he
 have he₂:=Heap.get?_push_of_some (h:=h₁) { cls:=.type "traceback",dict:=none,data:=.fields ([head,.ref X.env.locals,.none,rawInt X.env.locals,.none] ++ (if pl.isEmpty then replicate 6 Value.none else pl)).toArray } he₁
 refine wpAny_setField he₂ hd hsz ?_
 have hTe:h₁.objs.size ≠ e:=Nat.ne_of_gt (Heap.lt_size he₁)
 have hd₃:=Obj.data_mapFields hd (·.setIfInBounds 1 (Value.ref h₁.objs.size))
 have he₃:=Heap.get?_update_self (Obj.mapFields (·.setIfInBounds 1 (Value.ref h₁.objs.size))) he₂ (Obj.isFreed_of_fields hd₃)
 have hT₃:=(Heap.get?_update_other (h₁.push { cls:=.type "traceback",dict:=none,data:=.fields ([head,.ref X.env.locals,.none,rawInt X.env.locals,.none] ++ (if pl.isEmpty then replicate 6 Value.none else pl)).toArray })
  (Obj.mapFields (·.setIfInBounds 1 (Value.ref h₁.objs.size))) (Ne.symm hTe)).trans (Heap.get?_push_size h₁ rfl)
 have hTn:s.heap.get? h₁.objs.size = none:=Heap.get?_none_of_le (by rw [hs₁.1];exact Nat.le_refl _)
 refine h _ h₁.objs.size (L2.Inv.mark (s:=s) (ch:=[e]) I (fun b hb=>by rw [List.mem_singleton.mp hb];exact fe) (fun b o hb hc q=>?_) fun b o hc q=>?_) ?_ (L2.Inv.fpN (s:=s) I hex hTn (L2.Inv.untr (s:=s) I hTn)) hTn
 ·have hbe:b ≠ e:=fun z=>hc (by simp [z])
  rw [Heap.get?_update_other _ _ (Ne.symm hbe)]
  exact Heap.get?_push_of_some _ ((hs₁.2.1 b (by rw [<- hfs];exact hb)).trans q)
 ·have hbe:b ≠ e:=fun z=>hc (by simp [z])
  obtain ⟨sl,z⟩:=hs₁.2.2 b o q
  exact ⟨sl,by rw [Heap.get?_update_other _ _ (Ne.symm hbe)];exact Heap.get?_push_of_some _ z⟩
 ·exact ⟨_,_,_,_,he₃,⟨Obj.cls_mapFields _ _,(oK _ _).trans hdi⟩,hd₃,by simp [hsz],hTe,hT₃,rfl,by first | (simp;done) | (rcases hpl with rfl | ⟨_,_,_,_,_,_,_,rfl⟩<;>simp)⟩
theorem aGN {Q:Unit->Shared->Prop} (I:Inv X pins σ H s) (hs:X.stack = X.env :: X.outer) (hf:X.env.frame = some X.env.locals) (hex:X.ex = []) (hA:A.frames = some X.stack) (n:Nw s.heap e cls) (fe:FpN X pins H e)
  (h:∀ s' T,Inv X pins σ H s'->Tr s'.heap e cls T (rawInt X.env.locals)->FpN X pins H T->s.heap.get? T = none->Q () s'):wpAny M A (noteFrame (.ref e) X.env) Q E s:=by
 obtain ⟨oe,vs,he,⟨rfl,hdi⟩,hd,h1⟩:=n
 unfold noteFrame
 simp only [hf]
 refine wpAny_bind (wpAny_field he hd h1 ?_)
 rw [if_neg (by decide)]
 exact aFb I hs hf hex hA he hdi hd (Array.getElem?_eq_some_iff.mp h1).1 fe h
theorem aAx {ts:Array Value} {oT:Obj} {f:Array Value->Array Value} (I:Inv X pins σ H s) (fT:FpN X pins H T) (hT:s.heap.get? T = some oT) :
  Inv X pins σ H { s with heap:=s.heap.update T (Obj.mapFields f) }:=by
 refine I.mark (ch:=[T]) (fun b hb=>by rw [List.mem_singleton.mp hb];exact fT) (fun b o _ hc q=>?_) fun b o hc q=>⟨o.slots,?_⟩ <;>
 ·rw [Heap.get?_update_other _ _ (Ne.symm (fun z=>hc (by simp [z])))];exact q
theorem aDq {fl:Value} {Q:Unit->Shared->Prop} (I:Inv X pins σ H s) (t:Tr s.heap e cls T fl) (fT:FpN X pins H T) (h:∀ s',Inv X pins σ H s'->Tr s'.heap e cls T .none->Q () s'):wpAny M A (setFlight (.ref e) none) Q E s:=by
 obtain ⟨oe,vs,oT,ts,he,hcls,hd,h1,hTe,hT,hdT,h3⟩:=t
 have hsz3:3 < ts.size:=(Array.getElem?_eq_some_iff.mp h3).1
 unfold setFlight
 refine wpAny_bind (wpAny_field he hd h1 ?_)
 rw [if_pos (show (Value.ref T != Value.none) = true from by simp)]
 refine wpAny_setField hT hdT hsz3 (h _ (aAx (ts:=ts) I fT hT) ?_)
 exact ⟨oe,vs,_,_,(Heap.get?_update_other _ _ hTe).trans he,hcls,hd,h1,hTe,Heap.get?_update_self _ hT (Obj.isFreed_of_fields (Obj.data_mapFields hdT _)),Obj.data_mapFields hdT _,by simp [hsz3]⟩
theorem aEp {Q:Unit->Shared->Prop} (I:Inv X pins σ H s) (hs:X.stack = X.env :: X.outer) (hf:X.env.frame = some X.env.locals) (hex:X.ex = []) (hA:A.frames = some X.stack) (n:Nw s.heap e cls) (fe:FpN X pins H e)
  (h:∀ s' T,Inv X pins σ H s'->Tr s'.heap e cls T .none->FpN X pins H T->s.heap.get? T = none->Q () s'):wpAny M A (leaving X.env (.ref e)) Q E s:=by
 unfold leaving
 exact wpAny_bind (aGN I hs hf hex hA n fe fun s1 T I1 t1 f1 n1=>aDq I1 t1 f1 fun s2 I2 t2=>h s2 T I2 t2 f1 n1)
end
noncomputable def CXr (P:Program) (w:World):CXT:=fun outer H s E e s'=>∃ (a:Addr) (cls:Value) (T:Addr) (H':Hp),e = Value.ref a/\s'.os = s.os/\AllBare s'.gens/\Un (frs outer) [] H H' s.heap s'.heap/\HOk P w H' s'.heap /\
 Tr s'.heap a cls T .none/\s.heap.get? a = none/\s.heap.get? T = none/\H' a = none/\H' T = none/\E cls none H'
theorem aEa {K:Frag} {h:Heap} {C:Addr} {bmB:List Value} {newId:String} (X:K.In h) (q:excIn K C bmB newId = true) :
  ∃ bm N nm qn bs hdct sn sub ab col dd k0 k1 k2 k3 k5,∃ mN:Str->Option Value,h.get? C = some (excClassObj nm qn C N bs bm hdct sn sub ab col dd k0 k1 k2 k3 k5 newId)/\h.Ns N mN/\mN "__init__" = none/\OwnTail h bmB bm:=by
 unfold excIn at q
 split at q
 ·rename_i dd cd sl ho
  split at q
  ·rename_i C' bm k0 k1 k2 k3 n k5 hm hs
   simp only [Bool.and_eq_true,beq_iff_eq,Bool.not_eq_true'] at q
   obtain ⟨⟨⟨⟨⟨rfl,rfl⟩,hdel⟩,ht⟩,hok⟩,hni⟩:=q
   cases cd
   dsimp only at hm hdel hok hni
   subst hm hdel
   cases sl
   simp only at hs
   subst hs
   exact ⟨_,_,_,_,_,_,_,_,_,_,_,_,_,_,_,_,_,X _ _ ho,.of_isNs (PySem.W.isNs_of_in X hok),PySem.W.nsMap_none_of_in X hok hni,PySem.W.tail_of_in X ht⟩
  ·cases q
 ·cases q
def sN (X:Cx) (x:Str) (V:DM->Prop):Prop:=X.calm = true/\X.ex = []/\∃ C bmB newId B initId,X.mg x = some (.ref C)/\excIn X.K C bmB newId = true/\ExcBaseFacts B newId initId bmB /\
 ∀ pins σ H s a M',Inv X pins σ H s->Nw s.heap a (.ref C)->FpN X pins H a->cH X.K M' H->V M'->X.xe (.ref a) s
def aDv (V:DM->Prop) (t:DA):DS:=fun _ ρ M=>t ρ M fun ds M1=>ds.length<=1000/\V M1
section
variable {X:Cx} {x:Str} {V:DM->Prop} {e:Expr} {es:List Expr} {t:DA} {np cpos pos:Pos}
theorem aGT (R:sN X x V) (ha:PDA X (e :: es) t) (hg:Gl X x:=by rfl) (hd:(x == ("__debug__":Str)) = false:=by decide)
  (he:starEach (e :: es) X.env = (false,eval e X.env) :: starEach es X.env:=by rfl) (hpl:(backTo cpos (starEach es X.env)).any (·.1) = false:=by rfl) :
  PDS X (.Raise (some (.Call (.Name x np) (e :: es) [] cpos)) none pos) (aDv V t):=by
 intro pins s σ H D I ⟨ρ,M,D',re,hm,q,k⟩
 obtain ⟨calm,hex,C,bmB,newId,B,initId,hmg,hq,FB,fly⟩:=R
 obtain ⟨tl,N,nm,qn,bs,hdct,sn,sub,ab,col,dd,k0,k1,k2,k3,k5,mN,hC,hN,hni,T⟩:=aEa I.ok.mod.kin hq
 refine wpAny_Raise_call_subT (C:=C) (nm:=nm) (q:=qn) (N:=N) (bs:=bs) (bm:=tl) (hdct:=hdct) (sn:=sn) (sub:=sub) (ab:=ab) (col:=col) (dd:=dd) (k0:=k0) (k1:=k1) (k2:=k2) (k3:=k3) (k5:=k5)
  FB (mN:=mN) (T.hasType FB.hasBase) (I.ok.hd calm) (by rw [he];show (false || (backTo cpos (starEach es X.env)).any (·.1)) = false;rw [hpl];rfl) hni (iK I hg hmg ⟨rfl,?_⟩ hd)
 have h:=ha cpos pins s σ H (LA X.K H fun ds M1=>ds.length<=1000/\V M1) I ⟨ρ,M,_,re,hm,q,fun vs H' z=>z⟩
 rw [he] at h ⊢
 refine Calls.evalArgs_plain (wpAny_mono h (fun us s₂ ⟨vs,H2,I2,rv,ds,M2,rs,hm2,ex,hl,hV⟩=>⟨rfl,?_,I2.bk _ _ hC,hN.keeps I2.bk,T.keeps I2.bk,fun h' a mk=>?_⟩) fun _ _ y=>y)
 ·show us.length<=sizeLine
  rw [<- rv.length,<- rs.length];exact Nat.le_of_lt (fA hl)
 ·obtain ⟨tt,ht,_⟩:=mk.there
  have I3:Inv X pins σ H2 { s₂ with heap:=h' }:=I2.kept (t':=s₂.toks) mk.keeps
  have hn:=I2.untr mk.new
  exact fly pins σ H2 _ a M2 I3 ⟨_,_,ht,⟨rfl,rfl⟩,rfl,rfl⟩ (I2.fpN hex mk.new hn) hm2 hV
end
def spX (K:Frag) (C:Addr) (cond:List D->DM->Prop):Sp:=fun vs H _ E=>∃ ds M,bZ K H ds vs/\cH K M H/\cond ds M/\∀ M' H',cH K M' H'->aZ M M'->E (.ref C) none H'
noncomputable def bmV:List Value:=[.type "ValueError",.type "Exception",.type "BaseException",.type "object"]
def aE4 (K:Frag) (mg:Str->Option Value) (x:Str) (C:Addr):Prop:=mg x = some (.ref C)/\excIn K C bmV "ValueError.__new__" = true
def rQ (P:Program) (w:World) (K:Frag) (mg:Str->Option Value) (base:Heap) (k:Nat) (x:Str) (ps:List Str) (C:Addr) (cond:List D->DM->Prop):Prop :=
 ∃ f fd,jE P w K mg base (CXr P w) k f fd ps (spX K C cond)/\mg x = some (.ref f)/\keepIn K (.ref f) = true/\lT K fd ps []
section
variable {P:Program} {w:World} {K:Frag} {mg:Str->Option Value} {base:Heap}
theorem rQ.mk {x c:Str} {C:Addr} {st:Stmt} {N ps:List Str} {k:Nat} {cond:List D->DM->Prop} (h:cE K mg x st ps) (hc:aE4 K mg c C) (S:aR N ps (aH st)) (len:∀ ds M,cond ds M->ds.length = ps.length)
  (hbody:∀ (f:Addr) (cdv:Value) (A:Around) (outer:List Env) (s:Shared) (H:Hp) (ds:List D) (M:DM) (E:XK),eD k (A.deeper (envOfC x (aH st) s.heap.objs.size f cdv))->cond ds M ->
   sN (jR (CXr P w) P w K mg base N x (aH st) f cdv A outer s H E) c (aZ M) ->
   ∃ t,kM (jR (CXr P w) P w K mg base N x (aH st) f cdv A outer s H E) (eY st) t/\t { nx:=fun _ _=>False,rt:=fun _ _=>False } (iA N ds) M)  :rQ P w K mg base (k + 1) x ps C cond:=by
 obtain ⟨f,fd,F,hm,hb⟩:=h
 refine ⟨f,fd,?_,hm,F.kp,hb⟩
 obtain ⟨oc,od,kV,doc,pm,an,cdv,ct,osl,rfl,lk,hcd⟩:=F.ex
 refine aF8 lk hcd S (fun vs H Q E ⟨ds,M,rs,hm,q,_⟩=>by rw [<- rs.length];exact len ds M q) fun A outer s H vs Q E hr ⟨ds,M,rs,hm,q,k'⟩=>?_
 have RO:sN (jR (CXr P w) P w K mg base N x (aH st) f cdv A outer s H E) c (aZ M) :=
  ⟨rfl,rfl,C,bmV,_,_,_,hc.1,hc.2,PySem.F.excBase_ValueError,fun pins σ H' s1 a M' I n fe hm' sub =>
   aEp (X:=jR (CXr P w) P w K mg base N x (aH st) f cdv A outer s H E) I rfl rfl rfl I.ok.frames n fe fun s' T I' t' fT _ =>
    ⟨a,.ref C,T,H',rfl,I'.os,I'.bare,I'.base,I'.hok,t',fe.2.2.1,fT.2.2.1,fe.1,fT.1,k' M' H' hm' sub⟩⟩
 obtain ⟨t,h1,h2⟩:=hbody f cdv A outer s H ds M E hr q RO
 exact ⟨_,h1,iA N ds,M,_,qX rs N,hm,h2,⟨fun σ' H' ⟨_,_,_,_,_,z⟩=>z.elim,fun v H' ⟨_,_,_,_,_,z⟩=>z.elim,fun σ' H' ⟨_,_,_,_,_,z⟩=>z.elim,fun σ' H' ⟨_,_,_,_,_,z⟩=>z.elim⟩⟩
abbrev aOZ (P:Program) (w:World) (K:Frag) (mg:Str->Option Value) (base:Heap) (k:Nat) (x:Str) (ps:List Str) (C:Addr) (cond:List D->Prop):Prop:=rQ P w K mg base k x ps C fun ds _=>cond ds
end
noncomputable abbrev Exc (X:Cx) (a:Addr) (o:Obj):Cx:={ X with A:=X.A.mark (some (.ref a)),calm:=false,pn:=(a,o) :: X.pn }
section
variable {X:Cx} {pins:List (Addr × Obj)} {σ:L2.St} {H:Hp} {s:Shared} {a:Addr} {o:Obj}
theorem aKp (I:X.Ok):(Exc X a o).Ok :=
 ⟨I.mod,I.kind,I.glob,I.blt,I.above,I.inj,I.has,I.cab,(fun z=>nomatch z),I.frames,I.stk,I.exf,I.bs,I.bsz,I.noex,I.exfs,I.funs,I.frf⟩
theorem aFN (I:Inv X pins σ H s) (h:s.heap.get? a = some o) (n:H a = none) (nl:a ≠ X.env.locals) (nf:a ∉ X.fs) (nc:∀ v,o.data ≠ .cell v):Inv (Exc X a o) pins σ H s :=
 ⟨aKp I.ok,I.os,I.bare,I.base,I.loc,I.cell,I.free,I.freeC,fun p hp=>by
  rcases List.mem_cons.mp hp with z | z
  ·subst z;exact ⟨h,n,nl,nf,nc⟩
  ·exact I.pin p z,I.hok,I.len⟩
theorem wD (ok:X.Ok) (I:Inv (Exc X a o) pins σ H s):Inv X pins σ H s :=
 ⟨ok,I.os,I.bare,I.base,I.loc,I.cell,I.free,I.freeC,fun p hp=>I.pin p (mem_cons_of_mem _ hp),I.hok,I.len⟩
theorem pV {M:Model} {A:Around} {E:Value->Shared->Prop} {n:Str} {j:Nat} {pos:Pos} {Q:Unit->Shared->Prop} (I:Inv X pins σ H s) (hN:X.N.Nodup) (hj:X.N[j]? = some n) (hl:X.env.scope.names.lookup n = some .local)
  (h:∀ s',Inv X pins (σ.set j none) H s'->Q () s'):wpAny M A (do bindName X.env n .none;unbindBehindTheSuite X.env n pos) Q E s:=by
 obtain ⟨m,hn,hlo⟩:=id I.loc
 have hcls:(X.env.scope.kind == .class || (X.env.scope.kind == .module && X.env.locals != X.env.globals)) = false:=by rw [I.ok.kind];rfl
 have cne:=I.cne
 refine wpAny_nameGoes_keeps hl hn hcls fun h' v hn' hs=>h _ ?_
 obtain ⟨oL,_,_,hoL,_⟩:=id hn
 refine ⟨I.ok,I.os,I.bare,⟨fun b o e n hb hx=>?_,fun b o e n hb hx=>?_,I.base.free,fun b o e hx=>?_,I.base.tups,I.base.frzs,I.base.tbls⟩,⟨_,hn',fun i y v' e1 e2 e3=>?_⟩,fun y c e=>?_,I.free,I.freeC,fun p hp=>?_,fun b ob e=>?_,by simpa using I.len⟩
 ·exact (hs.2 b (Nat.ne_of_lt (Nat.lt_of_lt_of_le (Heap.lt_size e) I.ok.above))).trans (I.base.keep b o e n hb hx)
 ·obtain ⟨sl,e1⟩:=I.base.slot b o e n hb hx
  exact ⟨sl,(hs.2 b (Nat.ne_of_lt (Nat.lt_of_lt_of_le (Heap.lt_size e) I.ok.above))).trans e1⟩
 ·obtain ⟨o',e1⟩:=I.base.there b o e hx
  exact ⟨o',(hs.2 b (Nat.ne_of_lt (Nat.lt_of_lt_of_le (Heap.lt_size e) I.ok.above))).trans e1⟩
 ·have hij:i ≠ j:=fun z=>by
   subst z
   rw [getElem?_set] at e2
   rw [if_pos rfl] at e2
   split at e2<;>cases e2
  rw [List.getElem?_set_ne (Ne.symm hij)] at e2
  obtain ⟨u,r,q⟩:=hlo i y v' e1 e2 e3
  refine ⟨u,r,?_⟩
  rcases q with ⟨k,e⟩ | ⟨k,c,e,z⟩
  ·refine .inl ⟨k,?_⟩
   have:y ≠ n:=fun e=>hij (xP hN e1 (e ▸ hj))
   simp [this,e]
  ·exact .inr ⟨k,c,e,z.sameBut hs (cne y c e)⟩
 ·obtain ⟨w',z⟩:=I.cell y c e
  exact ⟨w',z.sameBut hs (cne y c e)⟩
 ·obtain ⟨e,n,ne,nf,d⟩:=I.pin p hp
  exact ⟨(hs.2 p.1 ne).trans e,n,ne,nf,d⟩
 ·refine (I.hok b ob e).stay (fun c w' hc q=>(hs.2 c ?_).trans q) (fun _ q=>q) fun _ _ q=>q
  rintro rfl
  rcases hc with rfl | hc
  ·rw [I.free] at e;cases e
  ·rw [I.free] at hc;cases hc
end
theorem fP.setN {K:Frag} {H:Hp} {ρ:cR} {σ:L2.St} (h:fP K H ρ σ) (i:Nat):fP K H (ρ.set i none) (σ.set i none):=by
 refine ⟨by rw [length_set,length_set,h.len],fun j d' q=>?_⟩
 rw [getElem?_set] at q
 by_cases hij:i = j
 ·subst hij
  rw [if_pos rfl] at q
  split at q<;>cases q
 ·rw [if_neg hij] at q
  obtain ⟨u,a,b⟩:=h.get j d' q
  exact ⟨u,by rw [getElem?_set,if_neg hij];exact a,b⟩
noncomputable def fY.un (D:fY) (j:Nat):fY:={ nx:=fun ρ M=>D.nx (ρ.set j none) M,rt:=D.rt,bk:=fun ρ M=>D.bk (ρ.set j none) M,ct:=fun ρ M=>D.ct (ρ.set j none) M }
noncomputable def aGa (D:pY) (j:Nat):pY:={ nx:=fun ρ M=>D.nx (ρ.set j none) M,rt:=D.rt,bk:=fun ρ M=>D.bk (ρ.set j none) M,ct:=fun ρ M=>D.ct (ρ.set j none) M }
theorem jF.un {K:Frag} {H:Hp} {D:fY} {E:pY} (k:jF K H D E) (j:Nat):jF K H (D.un j) (aGa E j) :=
 ⟨fun σ' H' ⟨ρ',M',re,hm,ex,q⟩=>k.nx _ H' ⟨_,M',re.setN j,hm,ex,q⟩,k.rt,fun σ' H' ⟨ρ',M',re,hm,ex,q⟩=>k.bk _ H' ⟨_,M',re.setN j,hm,ex,q⟩,fun σ' H' ⟨ρ',M',re,hm,ex,q⟩=>k.ct _ H' ⟨_,M',re.setN j,hm,ex,q⟩⟩
section
variable {X:Cx} {a:Expr} {e:Expr} {es:List Expr} {t:DA} {x f n cm:Str} {ps:List Str} {sp:DSp} {cond:List D->DM->Prop} {C Cm:Addr} {k1 k2 k i j:Nat} {ts:Addr->DS} {b0:Stmt} {suite:List Stmt} {px pf pc pa pcm ph pos:Pos}
theorem aHG {pins:List (Addr × Obj)} {σ:L2.St} {H1:Hp} {s1:Shared} {M1:DM} {ds:List D} {us:List Value} {vs:List V} {Q:Value->Shared->Prop} {E:Value->Shared->Prop} {f':Addr} {Q':DQ}
  (hH:rQ X.prog X.w X.K X.mg X.base k1 f ps C cond) (hh:Has X.prog X.w X.K X.mg X.base k2 f ps sp) (hr:eD k X.A) (hk1:k1<=k) (hk2:k2<=k) (hmf:X.mg f = some (.ref f'))
  (I1:Inv X pins σ H1 s1) (rv:cG vs us) (rs:bZ X.K H1 ds vs) (hm1:cH X.K M1 H1)
  (q:(cond ds M1/\∀ ev s',CXr X.prog X.w X.stack H1 s1 (fun c _ H'=>c = .ref C/\∃ M',cH X.K M' H'/\aZ M1 M') ev s'->E ev s') ∨ sp ds M1 Q')
  (hQ:∀ u s',EP X pins σ (LQ X.K H1 Q') u s'->Q u s'):wpAny (model X.prog X.w) X.A (call (.ref f') us) Q E s1:=by
 rcases q with ⟨q,hE⟩ | q
 ·obtain ⟨f1,fd,F,hm,_,hb⟩:=hH
  have hf:f1 = f':=by have:=hm.symm.trans hmf;cases this;rfl
  subst hf
  have hsp:spX X.K C cond vs H1 (fun _ _=>False) (fun c _ H'=>c = .ref C/\∃ M',cH X.K M' H'/\aZ M1 M'):=⟨ds,M1,rs,hm1,q,fun M' H' a b=>⟨rfl,M',a,b⟩⟩
  have hl:(us ++ []).length = ps.length:=by rw [append_nil,<- rv.length];exact F.len _ _ _ _ hsp
  have hbb:=hb s1 us I1.kIn hl
  rw [append_nil] at hbb
  refine wpAny_call (codeAny_mono (F.run X.A X.stack s1 H1 ⟨us,[]⟩ us vs _ _ (hr.mono hk1) I1.env0 hbb rv hsp) fun r s' hq=>?_)
  cases r with
  | error ev=>exact hE ev s' hq
  | ok fl =>
   cases fl with
   | ret u=>obtain ⟨_,_,_,_,_,_,_,z⟩:=(show CE _ _ _ _ _ _ _ _ from hq);exact z.elim
   | next=>exact False.elim hq
   | brk=>exact False.elim hq
   | cont=>exact False.elim hq
 ·obtain ⟨f1,fd,F,hm,_,hb⟩:=hh
  have hf:f1 = f':=by have:=hm.symm.trans hmf;cases this;rfl
  subst hf
  have hsp:oI X.K sp vs H1 (LQ X.K H1 Q') (fun _ _ _=>False):=⟨ds,M1,Q',rs,hm1,q,fun v H' z=>z⟩
  have hl:(us ++ []).length = ps.length:=by rw [append_nil,<- rv.length];exact F.len _ _ _ _ hsp
  have hbb:=hb s1 us I1.kIn hl
  rw [append_nil] at hbb
  refine wpAny_call (codeAny_mono (F.run X.A X.stack s1 H1 ⟨us,[]⟩ us vs _ _ (hr.mono hk2) I1.env0 hbb rv hsp) fun r s' hq=>?_)
  cases r with
  | error ev=>exact False.elim hq
  | ok fl =>
   cases fl with
   | ret u=>exact hQ u s' (I1.after hq)
   | next=>exact False.elim hq
   | brk=>exact False.elim hq
   | cont=>exact False.elim hq
end
section
open PySem.W PySem.Calls
end
section
variable {X:Cx} {n c:Str} {C Cc a:Addr} {o:Obj} {p p1 p2 pos:Pos} {j:Nat}
end
section
open PySem.W PySem.Calls
variable {prog:Program} {w:World} {A:Around} {E:Value->Shared->Prop} {s:Shared} {K:Frag} {x C D:Addr} {ox:Obj}
structure aAV (K:Frag) (D:Addr):Prop where
 ga:findIn K (.ref D) "__getattribute__" = some (some (.builtin "BaseException.__getattribute__"))
 gn:findIn K (.ref D) "__getattr__" = some none
 cl:findIn K (.ref D) "__class__" = some (some (.builtin "object.__class__"))
 nn:specialIn K (.builtin "object.__class__") "__get__" = some (some (.builtin "getset_descriptor.__get__"))
 tk:takesIn K (.builtin "object.__class__") = some true
 mo:mroIn K D (.type "object") = some true
 mb:mroIn K D (.type "BaseException") = some true
theorem aAV.cd (e:aAV K D):∃ cd,clsIn K D = some cd:=by
 obtain ⟨cd,a,_⟩:=Option.bind_eq_some_iff.mp e.mo
 exact ⟨cd,a⟩
end
section
variable {X:Cx} {a C:Addr} {o:Obj}
end
section
open PySem.SeqAt
open PySem.AutoSeq1 (wpAny_loadPart')
open PySem.MeetsSeq PySem.MeetsSeq2 PySem.MeetsSeq3
end
section
variable {X:Cx} {j:Nat}
theorem aJv {K:Frag} {H:Hp} {a b:Int} {xs:List V} {its:List Value} (r:bZ K H [.int a,.int b] xs) (v:cG xs its):∃ t u,its = [.int a t,.int b u]:=by
 obtain ⟨v1,r1,rfl,h1,r1'⟩:=aW r
 obtain rfl:=aT h1
 obtain ⟨v2,r2,rfl,h2,r2'⟩:=aW r1'
 obtain rfl:=aT h2
 obtain rfl:=bV r2'
 cases v with
 | cons q1 w1 =>
  cases w1 with
  | cons q2 w2 =>
   cases w2
   obtain ⟨t,rfl⟩:=q1
   obtain ⟨u,rfl⟩:=q2
   exact ⟨t,u,rfl⟩
end
def aLy (t u:DS):DS:=fun D ρ M=>∃ R:cR->DM->Prop,t { D with nx:=R } ρ M/\∀ ρ' M',R ρ' M'->u D ρ' M'
section
variable {X:Cx} {st:Stmt} {cT:List Stmt} {t u:DS}
theorem aIO (h1:PDS X st t) (h2:kM X cT u):kM X (st :: cT) (aLy t u) :=
 aAB (aBV h1 h2) fun E σ H ⟨ρ,M,D,re,hm,⟨R,q,k2⟩,k⟩ =>
  ⟨ρ,M,{ D with nx:=R },re,hm,q,⟨fun σ' H' ⟨ρ',M',re',hm',ex,r⟩=>⟨ρ',M',D,re',hm',k2 ρ' M' r,k.at ex⟩,k.rt,k.bk,k.ct⟩⟩
end
section
variable {X:Cx} {e:Expr} {es:List Expr} {t:DA} {x f cm:Str} {ps:List Str} {sp:DSp} {cond:List D->DM->Prop} {C Cm:Addr} {k1 k2 k i:Nat} {ts:DS} {b0:Stmt} {suite:List Stmt} {px pf pc pa pcm ph pos:Pos}
end
@[irreducible] def ZE (X:Cx) (e:Expr) (t:DE):Prop:=PDE X e t
theorem ZE.o {X:Cx} {e:Expr} {t:DE} (h:ZE X e t):PDE X e t:=by unfold ZE at h;exact h
theorem ZE.i {X:Cx} {e:Expr} {t:DE} (h:PDE X e t):ZE X e t:=by unfold ZE;exact h
@[irreducible] def ZT (X:Cx) (e:Expr) (t:DT):Prop:=PDT X e t
theorem ZT.o {X:Cx} {e:Expr} {t:DT} (h:ZT X e t):PDT X e t:=by unfold ZT at h;exact h
theorem ZT.i {X:Cx} {e:Expr} {t:DT} (h:PDT X e t):ZT X e t:=by unfold ZT;exact h
@[irreducible] def ZW (X:Cx) (e:Expr) (t:DT):Prop:=PDW X e t
theorem ZW.o {X:Cx} {e:Expr} {t:DT} (h:ZW X e t):PDW X e t:=by unfold ZW at h;exact h
theorem ZW.i {X:Cx} {e:Expr} {t:DT} (h:PDW X e t):ZW X e t:=by unfold ZW;exact h
@[irreducible] def ZA (X:Cx) (e:List Expr) (t:DA):Prop:=PDA X e t
theorem ZA.o {X:Cx} {e:List Expr} {t:DA} (h:ZA X e t):PDA X e t:=by unfold ZA at h;exact h
theorem ZA.i {X:Cx} {e:List Expr} {t:DA} (h:PDA X e t):ZA X e t:=by unfold ZA;exact h
@[irreducible] def ZS (X:Cx) (e:Stmt) (t:DS):Prop:=PDS X e t
theorem ZS.o {X:Cx} {e:Stmt} {t:DS} (h:ZS X e t):PDS X e t:=by unfold ZS at h;exact h
theorem ZS.i {X:Cx} {e:Stmt} {t:DS} (h:PDS X e t):ZS X e t:=by unfold ZS;exact h
@[irreducible] def ZSs (X:Cx) (e:List Stmt) (t:DS):Prop:=kM X e t
theorem ZSs.o {X:Cx} {e:List Stmt} {t:DS} (h:ZSs X e t):kM X e t:=by unfold ZSs at h;exact h
theorem ZSs.i {X:Cx} {e:List Stmt} {t:DS} (h:kM X e t):ZSs X e t:=by unfold ZSs;exact h
@[irreducible] def ZG (X:Cx) (e:Expr) (t:DG):Prop:=PDG X e t
theorem ZG.o {X:Cx} {e:Expr} {t:DG} (h:ZG X e t):PDG X e t:=by unfold ZG at h;exact h
theorem ZG.i {X:Cx} {e:Expr} {t:DG} (h:PDG X e t):ZG X e t:=by unfold ZG;exact h
@[irreducible] def ZGs (X:Cx) (e:List Expr) (t:DGs):Prop:=aAU X e t
theorem ZGs.o {X:Cx} {e:List Expr} {t:DGs} (h:ZGs X e t):aAU X e t:=by unfold ZGs at h;exact h
theorem ZGs.i {X:Cx} {e:List Expr} {t:DGs} (h:aAU X e t):ZGs X e t:=by unfold ZGs;exact h
@[irreducible] def ZO (X:Cx) (e:Option Expr) (t:DO):Prop:=PO X e (xQ X.K t)
theorem ZO.o {X:Cx} {e:Option Expr} {t:DO} (h:ZO X e t):PO X e (xQ X.K t):=by unfold ZO at h;exact h
theorem ZO.i {X:Cx} {e:Option Expr} {t:DO} (h:PO X e (xQ X.K t)):ZO X e t:=by unfold ZO;exact h
section
variable {K:Frag} {H H':Hp}
end
section
variable {K:Frag} {H H':Hp} {M M':DM}
end
section
variable {K:Frag} {H H':Hp} {ρ:cR} {σ:L2.St}
end
section
variable {K:Frag} {H H1:Hp}
end
section
variable {X:Cx} {e:Expr} {st:Stmt} {sts:List Stmt}
end
section
variable {X:Cx} {a b c e:Expr} {es:List Expr} {ta tb tc te:DE} {tA tB:DT} {t:DA} {pos:Pos}
theorem aA (i:Nat) {x:Str} {pos:Pos} (hN:X.N[i]? = some x:=by rfl) (hv:Vis X.env.scope x:=by first | exact Or.inl rfl | exact Or.inr (Or.inl rfl) | exact Or.inr (Or.inr rfl)) (hd:(x == ("__debug__":Str)) = false:=by decide) (hcd:(x == ("__classdict__":Str)) = false:=by decide):ZE X (.Name x pos) (aIo i):=.i (aLU i hN hv hd hcd)
theorem aC {i j pos}:ZE X (.Constant (.int i) j pos) (dC (.int i)):=.i (aKC (i:=i) (j:=j) (pos:=pos))
theorem lJ {i j pos}:ZE X (.Constant (.bool i) j pos) (dC (.bl i)):=.i (aNe (i:=i) (j:=j) (pos:=pos))
theorem bL {j pos}:ZE X (.Constant .none j pos) (dC .non):=.i (aL0 (j:=j) (pos:=pos))
theorem aL {x j pos}:ZE X (.Constant (.str x) j pos) (dC (.str x)):=.i (aLh)
theorem aO {op:Operator} {r:D2} (ho:OpD X (binaryOp op) r) (ha:ZE X a ta) (hb:ZE X b tb):ZE X (.BinOp a op b pos) (dOp r ta tb):=.i (aOF (op:=op) ho ha.o hb.o)
theorem cQ {op:CmpOp} {r:D2} (ho:OpD X (compareOp op) r) (ha:ZE X a ta) (hb:ZE X b tb) (hm:behindInMarks op b = false:=by exact aAT _):ZE X (.Compare a [op] [b] pos) (dOp r ta tb):=.i (aLW (op:=op) ho ha.o hb.o hm)
theorem aN {op:CmpOp} {r:D2} (ho:OpD X (compareOp op) r) (ha:ZE X a ta) (hb:ZE X b tb) (hm:behindInMarks op b = false:=by exact aAT _):ZT X (.Compare a [op] [b] pos) (vK (dOp r ta tb)):=.i (aMf (op:=op) ho ha.o hb.o hm)
theorem cN (h:ZE X e te) (he:∀ whole,isTrue e X.env whole = (do let v <- whole;standAt e.pos;holding [v] (truthy v)):=by intro _;rfl):ZT X e (vK te):=.i (aLp h.o he)
variable {cT:List Expr}
theorem dA (ha:ZT X a tA):ZW X (.BoolOp .And [a] pos) tA:=.i (aJc ha.o)
theorem eG (ha:ZT X a tA):ZW X (.BoolOp .Or [a] pos) tA:=.i (aLv ha.o)
theorem eI (ha:ZT X a tA) (hb:ZW X (.BoolOp .And (b :: cT) pos) tB):ZW X (.BoolOp .And (a :: b :: cT) pos) (aK0 tA tB):=.i (aLT ha.o hb.o)
theorem eL (ha:ZT X a tA) (hb:ZW X (.BoolOp .Or (b :: cT) pos) tB):ZW X (.BoolOp .Or (a :: b :: cT) pos) (dOr tA tB):=.i (aNh ha.o hb.o)
theorem dE (h:ZW X e tA):ZT X e tA:=.i (aPe h.o)
theorem eV (ha:ZT X a tA):ZT X (.UnaryOp .Not a pos) (aKi tA):=.i (aK4 ha.o)
theorem eW {op} (h:ZE X a ta):ZE X (.BoolOp op [a] pos) ta:=.i (aMy (op:=op) h.o)
theorem eX (ha:ZE X a ta) (hb:ZE X (.BoolOp .And (b :: cT) pos) tb):ZE X (.BoolOp .And (a :: b :: cT) pos) (aHg ta tb):=.i (aMA ha.o hb.o)
theorem aBy (ha:ZE X a ta) (hb:ZE X (.BoolOp .Or (b :: cT) pos) tb):ZE X (.BoolOp .Or (a :: b :: cT) pos) (aKH ta tb):=.i (aOe ha.o hb.o)
theorem aAY (ha:ZE X a ta):ZE X (.UnaryOp .Not a pos) (aFI ta):=.i (aJM ha.o)
theorem cA (hc:ZT X c tA) (ha:ZE X a ta) (hb:ZE X b tb):ZE X (.IfExp c a b pos) (aKJ tA ta tb):=.i (aGu hc.o ha.o hb.o)
theorem aD :ZA X [] mK:=.i (oZ)
theorem aB (ha:ZE X e te) (hr:ZA X es t) (hs:starEach (e :: es) X.env = (false,eval e X.env) :: starEach es X.env:=by rfl):ZA X (e :: es) (jB te t):=.i (kS ha.o hr.o hs)
theorem aQ {x1} (h:ZA X es t):ZE X (.Tuple es x1 pos) (aKg t):=.i (aJ0 h.o)
theorem cK (h:ZA X es t):ZE X (.List es pos) (aKA t):=.i (aMc h.o)
end
section
variable {X:Cx} {st:Stmt} {cT:List Stmt} {t u:DS} {e:Expr} {te:DE} {pos:Pos}
theorem aU :ZSs X [] aHm:=.i (aI3)
theorem aF (h1:ZS X st t) (h2:ZSs X cT u):ZSs X (st :: cT) (aLb t u):=.i (aFK h1.o h2.o)
theorem aE (h1:ZS X st t):ZSs X [st] t:=.i (aHE h1.o)
theorem eC (he:ZE X e te) (hs:swapsWith e none pos.line X.env = pure false:=by rfl):ZS X (.Expr e pos) (aHi te):=.i (aIB he.o hs)
theorem aM (he:ZE X e te):ZS X (.Return (some e) pos) (aK9 te):=.i (aKY he.o)
theorem aV {c:Expr} {a b:List Stmt} {tc:DT} (hc:ZT X c tc) (ha:ZSs X a t) (hb:ZSs X b u):ZS X (.If c a b pos) (aKD tc t u):=.i (aOf hc.o ha.o hb.o)
theorem lN :ZS X st aC0:=.i (aGC)
end
section
variable {X:Cx} {pos:Pos} {e tg:Expr} {es:List Expr} {te:DE}
theorem aS {i:Nat} {x:Str} (hN:X.N.Nodup) (hi:X.N[i]? = some x:=by rfl) (hx:Loc X.env.scope x:=by first | exact Or.inl rfl | exact Or.inr rfl) (hf:X.fn x = true ∨ X.env.scope.names.lookup x = some .local:=by first | exact .inl rfl | exact .inr rfl | assumption):ZG X (.Name x pos) (gN i):=.i (aHC (i:=i) hN hi hx hf)
theorem eE :ZGs X [] gNl:=.i (aIJ)
theorem bA {t:DG} {u:DGs} (h1:ZG X e t) (h2:ZGs X es u) (hs:(assignEach (e :: es) X.env).map (·.2) = assign e X.env :: (assignEach es X.env).map (·.2):=by rfl):ZGs X (e :: es) (gCn t u):=.i (aFP h1.o h2.o hs)
theorem fN {g:DG} (he:ZE X e te) (hg:ZG X tg g) (hs:swapsWithSole [tg] e pos.line X.env = pure false:=by rfl) (hw:swappedStores [tg] e X.env = pure none:=by rfl) (h1:(assignEach [tg] X.env).map (·.2) = [assign tg X.env]:=by rfl):ZS X (.Assign [tg] e pos) (aEL te g):=.i (aL2 he.o hg.o hs hw h1)
theorem aP {i:Nat} {x:Str} {pos':Pos} (hN:X.N.Nodup) (he:ZE X e te) (hi:X.N[i]? = some x:=by rfl) (hx:Loc X.env.scope x:=by first | exact Or.inl rfl | exact Or.inr rfl) (hs:swapsWith e (some (.Name x pos')) pos.line X.env = pure false:=by rfl) (hf:X.fn x = true ∨ X.env.scope.names.lookup x = some .local:=by first | exact .inl rfl | exact .inr rfl | assumption):ZS X (.Assign [.Name x pos'] e pos) (aEL te (gN i)):=.i (aLZ (i:=i) hN he.o hi hx hs hf)
theorem pT {i j:Nat} {x y:Str} {a b:Expr} {ta:DA} {px py pt:Pos} {kt k2 pt2} (hc:X.calm = true) (hN:X.N.Nodup) (ha:ZA X [a,b] ta) (hi:X.N[i]? = some x:=by rfl) (hj:X.N[j]? = some y:=by rfl) (hij:i ≠ j:=by decide) (hx:X.env.scope.names.lookup x = some .local:=by rfl) (hy:X.env.scope.names.lookup y = some .local:=by rfl) (hw:swappedStores [.Tuple [.Name x px,.Name y py] kt pt] (.Tuple [a,b] k2 pt2) X.env = pure (some [x,y]):=by rfl) (hs:swapsWithSole [.Tuple [.Name x px,.Name y py] kt pt] (.Tuple [a,b] k2 pt2) pos.line X.env = pure false:=by rfl):ZS X (.Assign [.Tuple [.Name x px,.Name y py] kt pt] (.Tuple [a,b] k2 pt2) pos) (aMp i j ta):=.i (aLg (i:=i) (j:=j) hc hN ha.o hi hj hij hx hy hw hs)
end
section
variable {X:Cx} {pos:Pos}
theorem pM {c:Expr} {body:List Stmt} {tc:DT} {tb:DS} (hp:PassesOwn (model X.prog X.w) X.A X.env X.xe) (hc:ZT X c tc) (hb:ZSs X body tb):ZS X (.While c body [] pos) (aC8 tc tb):=.i (aGS hp hc.o hb.o)
variable {iter tg:Expr} {body:List Stmt} {tl:DE} {g:DG} {tb:DS}
end
section
variable {X:Cx} {pos:Pos} {iter tg:Expr} {body:List Stmt} {tl:DE} {g:DG} {tb:DS} {ta:DA}
theorem jY (hp:PassesOwn (model X.prog X.w) X.A X.env X.xe) (hc:X.calm = true) (hi:ZE X iter tl) (hg:ZG X tg g) (hb:ZSs X body tb) (hs:∀ x,foldedSetIterable iter X.env x = pure x:=by intro _;rfl):ZS X (.For tg iter body [] pos) (aGh tl g tb):=.i (aJb hp hc hi.o hg.o hb.o hs)
theorem aBU (hp:PassesOwn (model X.prog X.w) X.A X.env X.xe) (hc:X.calm = true) (hi:ZE X iter tl) (hg:ZG X tg g) (hb:ZSs X body tb) (hs:∀ x,foldedSetIterable iter X.env x = pure x:=by intro _;rfl):ZS X (.For tg iter body [] pos) (aGb tl g tb):=.i (aIi hp hc hi.o hg.o hb.o hs)
theorem aFV {a:Expr} {p pos':Pos} (hp:PassesOwn (model X.prog X.w) X.A X.env X.xe) (hc:X.calm = true) (hmg:X.mg "range" = none) (ha:ZA X [a] ta) (hg:ZG X tg g) (hb:ZSs X body tb) (hgl:Gl X "range":=by rfl) (hse:starEach [a] X.env = [(false,eval a X.env)]:=by rfl) (hs:∀ x,foldedSetIterable (.Call (.Name "range" p) [a] [] pos') X.env x = pure x:=by intro _;rfl):ZS X (.For tg (.Call (.Name "range" p) [a] [] pos') body [] pos) (aHo ta g tb):=.i (aIG hp hc hmg ha.o hg.o hb.o hgl hse hs)
end
section
variable {X:Cx} {pins:List (Addr × Obj)} {σ:L2.St} {H:Hp} {s:Shared}
end
section
variable {X:Cx} {a b e o:Expr} {es:List Expr} {ta tb te to:DE} {t:DA} {pos:Pos}
theorem gF (ha:ZE X a ta):ZE X (.UnaryOp .USub a pos) (aKs ta):=.i (aLf ha.o)
theorem aI (ha:ZE X a ta) (hb:ZE X b tb) (hs:sV b:=by exact fun _ _=>rfl):ZE X (.Subscript a b pos) (dOp mB ta tb):=.i (aMN ha.o hb.o hs)
theorem jU :ZO X none aLF:=.i (aIW)
theorem gC (h:ZE X e te):ZO X (some e) (dPt te):=.i (aH2 h.o)
variable {lo hi:Option Expr} {tl th:DO} {p2:Pos}
theorem pQ (he:ZE X e te) (hl:ZO X lo tl) (hu:ZO X hi th):ZE X (.Subscript e (.Slice lo hi none p2) pos) (dSl te tl th):=.i (aHl he.o hl.o hu.o)
variable {CX:CXT} {k:Nat} {f:Addr} {fd:FuncData} {ps:List Str} {sp:DSp} {E:XK} {x:Str} {p:Pos}
theorem cD {id:String} {r:DSp} (hc:gK X (.builtin id) r) (hm:X.mg x = none) (ha:ZA X (e :: es) t) (hv:bootBuiltins x = some (.builtin id):=by rfl) (hg:Gl X x:=by rfl) (hn:x ≠ "__name__":=by decide) (hdb:(x == ("__debug__":Str)) = false:=by decide) (he:starEach (e :: es) X.env = (false,eval e X.env) :: starEach es X.env:=by rfl) (hpl:(backTo pos (starEach es X.env)).any (·.1) = false:=by rfl):ZE X (.Call (.Name x p) (e :: es) [] pos) (nI r t):=.i (aF7 (id:=id) hc hm ha.o hv hg hn hdb he hpl)
theorem cX {T:String} {r:DSp} (hc:gK X (.type T) r) (hm:X.mg x = none) (ha:ZA X (e :: es) t) (hv:bootBuiltins x = some (.type T):=by rfl) (hg:Gl X x:=by rfl) (hn:x ≠ "__name__":=by decide) (hdb:(x == ("__debug__":Str)) = false:=by decide) (he:starEach (e :: es) X.env = (false,eval e X.env) :: starEach es X.env:=by rfl) (hpl:(backTo pos (starEach es X.env)).any (·.1) = false:=by rfl):ZE X (.Call (.Name x p) (e :: es) [] pos) (nI r t):=.i (aEE (T:=T) hc hm ha.o hv hg hn hdb he hpl)
end
section
variable {X:Cx} {a b e o:Expr} {es:List Expr} {ta tb te to:DE} {t:DA} {pos:Pos}
theorem dH {apos cpos:Pos} (ho:ZE X o to) (he:ZE X e te) (hse:starEach [e] X.env = (false,eval e X.env) :: starEach [] X.env:=by rfl) (hbase:attributeBase o "append" X.env (eval o X.env) = eval o X.env:=by rfl) (hfew:((backTo cpos (starEach [e] X.env)).all (fun x=>!x.1) && (backToKw cpos (keywordEach [] X.env)).all (fun x=>x.1.isSome)
   && decide ([e].length + ([]:List Keyword).length + (if ([]:List Keyword).isEmpty then 0 else 1) < 30)) = true:=by rfl) (hline:(apos.endLine == cpos.line) = true:=by rfl) (hplain:(backTo cpos (starEach [] X.env)).any (·.1) = false:=by rfl):ZE X (.Call (.Attribute o "append" apos) [e] [] cpos) (aAE to te):=.i (aE3 ho.o he.o hse hbase hfew hline hplain)
theorem lM {T:String} {x:Str} {p p2:Pos} (he:ZE X e te) (hm:X.mg "isinstance" = none) (hmx:X.mg x = none) (hv:bootBuiltins x = some (.type T):=by rfl) (hg:Gl X "isinstance":=by rfl) (hgx:Gl X x:=by rfl) (hn:x ≠ "__name__":=by decide) (hdb:(x == ("__debug__":Str)) = false:=by decide) (hse:starEach [e,.Name x p2] X.env = (false,eval e X.env) :: starEach [.Name x p2] X.env:=by rfl) (hse2:starEach [.Name x p2] X.env = (false,eval (.Name x p2) X.env) :: starEach [] X.env:=by rfl) (hpl:(backTo pos (starEach [.Name x p2] X.env)).any (·.1) = false:=by rfl):ZE X (.Call (.Name "isinstance" p) [e,.Name x p2] [] pos) (dIs X.K (.type T) te):=.i (aI8 (T:=T) he.o hm hmx hv hg hgx hn hdb hse hse2 hpl)
end
section
variable {P:Program} {w:World} {K:Frag} {mg:Str->Option Value} {base:Heap}
end
section
variable {P:Program} {w:World} {K:Frag} {mg:Str->Option Value} {base:Heap}
end
section
variable {X:Cx} {a b c e:Expr} {es:List Expr} {ta tb te:DE} {t:DA} {pos p:Pos} {x:Str} {ps:List Str} {sp:DSp} {k j:Nat}
theorem aG (h:Has X.prog X.w X.K X.mg X.base k x ps sp) (hr:eD j X.A) (hkj:k<=j) (ha:ZA X (e :: es) t) (hg:Gl X x:=by rfl) (hdb:(x == ("__debug__":Str)) = false:=by decide) (he:starEach (e :: es) X.env = (false,eval e X.env) :: starEach es X.env:=by rfl) (hpl:(backTo pos (starEach es X.env)).any (·.1) = false:=by rfl):ZE X (.Call (.Name x p) (e :: es) [] pos) (nI sp t):=.i (aHf h hr hkj ha.o hg hdb he hpl)
theorem aDm (h:Has X.prog X.w X.K X.mg X.base k x ps sp) (hr:eD j X.A) (hkj:k<=j) (hg:Gl X x:=by rfl) (hdb:(x == ("__debug__":Str)) = false:=by decide):ZE X (.Call (.Name x p) [] [] pos) (nI sp mK):=.i (aEs h hr hkj hg hdb)
theorem bF {d:D} (h:fG X.K X.mg x d) (hg:Gl X x:=by rfl) (hd:(x == ("__debug__":Str)) = false:=by decide):ZE X (.Name x pos) (dC d):=.i (aGg h hg hd)
theorem pB {i:Nat} {op:Operator} {g:Int->Int->Int} {pos':Pos} (ho:PIp X op (ipI g)) (hN:X.N.Nodup) (he:ZE X e te) (hi:X.N[i]? = some x:=by rfl) (hx:Loc X.env.scope x:=by first | exact Or.inl rfl | exact Or.inr rfl) (hf:X.fn x = true ∨ X.env.scope.names.lookup x = some .local:=by first | exact .inl rfl | exact .inr rfl | assumption):ZS X (.AugAssign (.Name x pos') op e pos) (aHB i te g):=.i (aH3 (i:=i) (op:=op) ho hN he.o hi hx hf)
end
section
variable {prog:Program} {w:World} {A:Around} {E:Value->Shared->Prop} {s:Shared}
end
section
variable {X:Cx} {pos:Pos} {e a b:Expr} {es:List Expr} {te ta tb:DE}
theorem gO {k:Nat} {t:DGs} {n:Nat} (hc:X.calm = true) (h:ZGs X es t) (hn:(assignEach es X.env).length = n:=by rfl) (hst:(assignEach es X.env).findIdx? (·.1) = none:=by rfl):ZG X (.Tuple es k pos) (gU n t):=.i (aMm (n:=n) hc h.o hn hst)
end
section
variable {M:DM} {Q:DQ} {g:Bool->Bool} {ds:List D} {i:Int} {a:Addr} {α:Type} {x0 x1 x2 x3 x4 x5:α} {l:List α}
end
section
variable {K:Frag} {H:Hp} {ρ:cR} {σ:L2.St}
end
section
variable {X:Cx} {g:DG} {te:DE}
variable {elt iter tg:Expr} {scope:Scope} {pos:Pos} {N':List Str} {fr:List (Option Nat)} {tl:DE} {ta:DA} {oN:List Str} {osc:Scope}
theorem aAL (B:oW oN osc N' fr scope) (hc:X.calm = true) (hi:ZE X iter tl) (hg:∀ C s H fp pins,ZG (X.blk N' scope C s H fp pins) tg g) (he:∀ C s H fp pins,ZE (X.blk N' scope C s H fp pins) elt te) (hN:X.N = oN:=by rfl) (ho:X.env.scope = osc:=by rfl) (hs:∀ x,foldedSetIterable iter X.env x = pure x:=by intro _;rfl):ZE X (.ListComp elt [⟨tg,iter,[],0⟩] scope pos) (aLt tl fr g te):=.i (aL7 B hc hi.o (fun C s H fp pins=>(hg C s H fp pins).o) (fun C s H fp pins=>(he C s H fp pins).o) hN ho hs)
theorem fZ {i:Nat} {y:Str} {spos py:Pos} (B:oW oN osc N' fr scope) (hc:X.calm = true) (hNd:X.N.Nodup) (hi:ZE X iter tl) (hg:∀ C s H fp pins,ZG (X.blk N' scope C s H fp pins) tg g) (he:∀ C s H fp pins,ZE (X.blk N' scope C s H fp pins) elt te) (hy:X.N[i]? = some y:=by rfl) (hx:Loc X.env.scope y:=by first | exact Or.inl rfl | exact Or.inr rfl) (hsw:swapsWith (.ListComp elt [⟨tg,iter,[],0⟩] scope pos) (some (.Name y py)) spos.line X.env = pure true:=by rfl) (hf:X.fn y = true ∨ X.env.scope.names.lookup y = some .local:=by first | exact .inl rfl | exact .inr rfl | assumption) (hN:X.N = oN:=by rfl) (ho:X.env.scope = osc:=by rfl) (hs:∀ x,foldedSetIterable iter X.env x = pure x:=by intro _;rfl):ZS X (.Assign [.Name y py] (.ListComp elt [⟨tg,iter,[],0⟩] scope pos) spos) (aDh i (aKU tl fr g te)):=.i (aEI (i:=i) B hc hNd hi.o (fun C s H fp pins=>(hg C s H fp pins).o) (fun C s H fp pins=>(he C s H fp pins).o) hy hx hsw hf hN ho hs)
end
variable {X:Cx}
section
variable {g:DG} {te:DE} {tb:DS} {Q:DQ} {ρ0:cR}
end
section
variable {e:Expr} {te:DE} {pos:Pos}
end
section
variable {X:Cx} {e:Expr} {te:DE} {pos p2:Pos} {lo hi:Option Expr} {tl th:DO}
end
section
variable {X:Cx} {a n:Expr} {ta:DE} {tn:DA} {pos p pos':Pos}
end
section
variable {X:Cx} {a b c e o:Expr} {es:List Expr} {ta tb tc te to:DE} {pos:Pos}
theorem tN {op op':CmpOp} {r r':D2} (ho:OpD X (compareOp op) r) (ho':OpD X (compareOp op') r') (ha:ZE X a ta) (hb:ZE X b tb) (hc:ZE X c tc) (hm:lastMarks [op,op'] [b,c] = false:=by with_unfolding_all rfl):ZE X (.Compare a [op,op'] [b,c] pos) (uO r r' ta tb tc):=.i (aFO (op:=op) (op':=op') ho ho' ha.o hb.o hc.o hm)
theorem aEZ {op op':CmpOp} {r r':D2} (ho:OpD X (compareOp op) r) (ho':OpD X (compareOp op') r') (ha:ZE X a ta) (hb:ZE X b tb) (hc:ZE X c tc) (hm:lastMarks [op,op'] [b,c] = false:=by with_unfolding_all rfl):ZT X (.Compare a [op,op'] [b,c] pos) (vK (uO r r' ta tb tc)):=.i (aHp (op:=op) (op':=op') ho ho' ha.o hb.o hc.o hm)
end
section
variable {X:Cx} {e k:Expr} {te tk:DE} {pos p2:Pos}
end
section
variable {X:Cx} {pos:Pos} {iter tg:Expr} {body:List Stmt} {tl:DE} {g:DG} {tb:DS} {ta:DA}
end
section
variable {X:Cx} {x:Str} {V:DM->Prop} {e:Expr} {es:List Expr} {t:DA} {np cpos pos:Pos}
theorem aEY (R:sN X x V) (ha:ZA X (e :: es) t) (hg:Gl X x:=by rfl) (hd:(x == ("__debug__":Str)) = false:=by decide) (he:starEach (e :: es) X.env = (false,eval e X.env) :: starEach es X.env:=by rfl) (hpl:(backTo cpos (starEach es X.env)).any (·.1) = false:=by rfl):ZS X (.Raise (some (.Call (.Name x np) (e :: es) [] cpos)) none pos) (aDv V t):=.i (aGT R ha.o hg hd he hpl)
end
section
variable {P:Program} {w:World} {K:Frag} {mg:Str->Option Value} {base:Heap}
end
section
variable {X:Cx} {pins:List (Addr × Obj)} {σ:L2.St} {H:Hp} {s:Shared} {a:Addr} {o:Obj}
end
section
variable {X:Cx} {a:Expr} {e:Expr} {es:List Expr} {t:DA} {x f n cm:Str} {ps:List Str} {sp:DSp} {cond:List D->DM->Prop} {C Cm:Addr} {k1 k2 k i j:Nat} {ts:Addr->DS} {b0:Stmt} {suite:List Stmt} {px pf pc pa pcm ph pos:Pos}
end
section
end
section
variable {X:Cx} {n c:Str} {C Cc a:Addr} {o:Obj} {p p1 p2 pos:Pos} {j:Nat}
end
section
variable {prog:Program} {w:World} {A:Around} {E:Value->Shared->Prop} {s:Shared} {K:Frag} {x C D:Addr} {ox:Obj}
end
section
variable {X:Cx} {a C:Addr} {o:Obj}
end
section
end
section
variable {X:Cx} {j:Nat}
end
section
variable {X:Cx} {st:Stmt} {cT:List Stmt} {t u:DS}
theorem fJ (h1:ZS X st t) (h2:ZSs X cT u):ZSs X (st :: cT) (aLy t u):=.i (aIO h1.o h2.o)
end
section
variable {X:Cx} {e:Expr} {es:List Expr} {t:DA} {x f cm:Str} {ps:List Str} {sp:DSp} {cond:List D->DM->Prop} {C Cm:Addr} {k1 k2 k i:Nat} {ts:DS} {b0:Stmt} {suite:List Stmt} {px pf pc pa pcm ph pos:Pos}
end
section
variable {P:Program} {w:World} {K:Frag} {mg:Str->Option Value} {base:Heap}
theorem Fun.okZ {x qual:Str} {st:Stmt} {f:Addr} {fd:FuncData} {N ps:List Str} {k:Nat} {sp:DSp} (F:L2.Fun K x qual st f fd) (S:aR N ps (aH st)) (len:∀ ds M Q,sp ds M Q->ds.length = ps.length)
  (hbody:∀ (cdv:Value) (A:Around) (outer:List Env) (s:Shared) (H:Hp) (ds:List D) (M:DM) (Q:DQ) (E:XK),eD k (A.deeper (envOfC qual (aH st) s.heap.objs.size f cdv))->sp ds M Q ->
   ∃ t,ZSs (jR CX0 P w K mg base N qual (aH st) f cdv A outer s H E).nox (eY st) t/\t { nx:=fun _ M'=>Dn Q .non M',rt:=Dn Q } (iA N ds) M):jE P w K mg base CX0 (k + 1) f fd ps (oI K sp) :=
 Fun.okD F S len fun cdv A outer s H ds M Q E hr h=>let ⟨t,h1,h2⟩:=hbody cdv A outer s H ds M Q E hr h;⟨t,h1.o,h2⟩
theorem Has.mkZ {x:Str} {st:Stmt} {N ps:List Str} {k:Nat} {sp:DSp} (h:cE K mg x st ps) (S:aR N ps (aH st)) (len:∀ ds M Q,sp ds M Q->ds.length = ps.length)
  (hbody:∀ (f:Addr) (cdv:Value) (A:Around) (outer:List Env) (s:Shared) (H:Hp) (ds:List D) (M:DM) (Q:DQ) (E:XK),eD k (A.deeper (envOfC x (aH st) s.heap.objs.size f cdv))->sp ds M Q ->
   ∃ t,ZSs (jR CX0 P w K mg base N x (aH st) f cdv A outer s H E).nox (eY st) t/\t { nx:=fun _ M'=>Dn Q .non M',rt:=Dn Q } (iA N ds) M):Has P w K mg base (k + 1) x ps sp :=
 Has.mk h S len fun f cdv A outer s H ds M Q E hr h=>let ⟨t,h1,h2⟩:=hbody f cdv A outer s H ds M Q E hr h;⟨t,h1.o,h2⟩
end
section
variable {P:Program} {w:World} {K:Frag} {mg:Str->Option Value} {base:Heap}
end
end Dd
namespace Mz
open PySem
def Bd (n:Nat) (x:Int):Prop:=x.natAbs < 2 ^ n
theorem Bd.mono {m n:Nat} {x:Int} (h:Bd m x) (l:m<=n):Bd n x:=Nat.lt_of_lt_of_le h (Nat.pow_le_pow_right (by decide) l)
theorem Bd.neg {n:Nat} {x:Int} (h:Bd n x):Bd n (-x):=by unfold Bd at *;rw [Int.natAbs_neg];exact h
theorem Bd.add {m:Nat} {x y:Int} (h:Bd m x) (h2:Bd m y):Bd (m + 1) (x + y):=by
 unfold Bd at *
 have:=Int.natAbs_add_le x y
 rw [Nat.pow_succ]
 omega
theorem Bd.sub {m:Nat} {x y:Int} (h:Bd m x) (h2:Bd m y):Bd (m + 1) (x - y):=by
 rw [Int.sub_eq_add_neg];exact h.add h2.neg
theorem Bd.mul {m n:Nat} {x y:Int} (h:Bd m x) (h2:Bd n y):Bd (m + n) (x * y):=by
 unfold Bd at *
 rw [Int.natAbs_mul,Nat.pow_add]
 exact Nat.mul_lt_mul'' h h2
theorem Bd.of {n:Nat} {x:Int} (h1:-(2 ^ n:Nat) < x) (h2:x < (2 ^ n:Nat)):Bd n x:=by unfold Bd;omega
theorem Bd.log {n:Nat} {x:Int} (h:Bd n x) (h0:0 < n):x.natAbs.log2 < n:=by
 rcases Nat.eq_zero_or_pos x.natAbs with e | e
 ·rw [e];simpa using h0
 ·exact (Nat.log2_lt (Nat.ne_of_gt e)).mpr h
theorem Bd.bits {n:Nat} {x:Int} (h:Bd n x):Builtin.Int.intBits x<=n + 1:=by
 unfold Builtin.Int.intBits
 split
 ·exact Nat.zero_le _
 ·rcases Nat.eq_zero_or_pos n with e | e
  ·subst e
   have:x.natAbs < 1:=h
   have:x.natAbs = 0:=by omega
   rw [this];decide
  ·have:=h.log e
   omega
theorem cZ {m n:Nat} {x y:Int} (h:Bd m x) (h2:Bd n y) (l:m + n<=100000000:=by decide):IntMulOk x y:=IntMulOk.of_le h.bits h2.bits (by omega)
theorem aF0 {x y:Int} (h:Bd 63 x):IntMulOk x y:=IntMulOk.of_left (by have:=h.bits;omega)
theorem rB {x y:Int} (h:Bd 63 y):IntMulOk x y:=IntMulOk.of_right (by have:=h.bits;omega)
theorem aBw {a b:Int} (h:b ≠ 0):(a.fmod b).natAbs < b.natAbs:=by
 rcases Int.lt_or_lt_of_ne h with hb | hb
 ·have e:=Int.fmod_eq_emod (a:=a) (b:=b)
  have h1:=Int.emod_nonneg a h
  have h2:=Int.emod_lt_of_neg a hb
  by_cases hd:b ∣ a
  ·rw [if_pos (.inr hd)] at e
   have:=Int.emod_eq_zero_of_dvd hd
   omega
  ·rw [if_neg (by omega)] at e
   have h3:a % b ≠ 0:=fun z=>hd (Int.dvd_of_emod_eq_zero z)
   omega
 ·have h1:=Int.fmod_nonneg_of_pos a hb
  have h2:=Int.fmod_lt_of_pos a hb
  omega
theorem wP (a b:Int):Int.gcd b (a.fmod b) = Int.gcd a b:=by
 rw [Int.fmod_def,Int.mul_comm b,Int.gcd_sub_mul_right_right,Int.gcd_comm]
noncomputable def sg (t b:Int):Int:=if b < 0 then -(Int.gcd t b:Int) else (Int.gcd t b:Int)
noncomputable def fT (t b:Int):Int:=t.fdiv (sg t b)
noncomputable def fB (t b:Int):Int:=b.fdiv (sg t b)
theorem kX {t b:Int} (h:b ≠ 0):0 < Int.gcd t b:=Nat.pos_of_ne_zero fun z=>h (Int.gcd_eq_zero_iff.mp z).2
theorem aJs {t b:Int} (h:b ≠ 0):sg t b ≠ 0:=by
 have:=kX (t:=t) h
 unfold sg;split<;>omega
theorem oB (t b:Int):sg t b ∣ t:=by
 have h:=Int.gcd_dvd_left t b
 unfold sg
 split
 ·exact Int.neg_dvd.mpr h
 ·exact h
theorem pA (t b:Int):sg t b ∣ b:=by
 have h:=Int.gcd_dvd_right t b
 unfold sg
 split
 ·exact Int.neg_dvd.mpr h
 ·exact h
theorem aKj {t b:Int} (h:b ≠ 0):fT t b * sg t b = t:=by
 unfold fT;rw [Int.fdiv_eq_ediv_of_dvd (oB t b)];exact Int.ediv_mul_cancel (oB t b)
theorem aHh {t b:Int} (h:b ≠ 0):fB t b * sg t b = b:=by
 unfold fB;rw [Int.fdiv_eq_ediv_of_dvd (pA t b)];exact Int.ediv_mul_cancel (pA t b)
theorem aMd {t b:Int} (h:b ≠ 0):0 < fB t b:=by
 have e:=aHh (t:=t) h
 have hg:=kX (t:=t) h
 rcases Int.lt_trichotomy (fB t b) 0 with z | z | z
 ·exfalso
  unfold sg at e
  split at e
  ·rename_i hb
   have:=Int.mul_pos_of_neg_of_neg z (show -(Int.gcd t b:Int) < 0 by omega)
   omega
  ·rename_i hb
   have:=Int.mul_neg_of_neg_of_pos z (show 0 < (Int.gcd t b:Int) by omega)
   omega
 ·rw [z] at e;omega
 ·exact z
theorem aMk {t b:Int} (h:b ≠ 0):fT t b * b = fB t b * t:=by
 have e1:=aKj (t:=t) h
 have e2:=aHh (t:=t) h
 have:fT t b * (fB t b * sg t b) = fB t b * (fT t b * sg t b):=by grind
 rw [e1,e2] at this
 exact this
theorem aAn (t b:Int):(sg t b).natAbs = Int.gcd t b:=by unfold sg;split<;>simp
theorem aPj {t b:Int} (h:b ≠ 0):Int.gcd (fT t b) (fB t b) = 1:=by
 unfold fT fB
 rw [Int.fdiv_eq_ediv_of_dvd (oB t b),Int.fdiv_eq_ediv_of_dvd (pA t b),Int.gcd_ediv (oB t b) (pA t b),aAn]
 exact Nat.div_self (kX h)
theorem Bd.fT {n:Nat} {t b:Int} (h:Bd n t):Bd n (fT t b):=by
 unfold Bd at *;unfold Mz.fT;rw [Int.fdiv_eq_ediv_of_dvd (oB t b)]
 exact Nat.lt_of_le_of_lt (Int.natAbs_ediv_le_natAbs _ _) h
theorem Bd.fB {n:Nat} {t b:Int} (h:Bd n b):Bd n (fB t b):=by
 unfold Bd at *;unfold Mz.fB;rw [Int.fdiv_eq_ediv_of_dvd (pA t b)]
 exact Nat.lt_of_le_of_lt (Int.natAbs_ediv_le_natAbs _ _) h
theorem Bd.sg {n:Nat} {t b:Int} (h:Bd n b) (h0:b ≠ 0):Bd n (sg t b):=by
 unfold Bd at *
 rw [aAn]
 have:=Nat.le_of_dvd (by omega) (Int.natAbs_dvd_natAbs.mpr (Int.gcd_dvd_right t b))
 simp at this
 omega
theorem yK {a b c:Int} (h:b ∣ a * c) (g:Int.gcd b a = 1):b ∣ c:=by
 have h':b.natAbs ∣ a.natAbs * c.natAbs:=by rw [<- Int.natAbs_mul];exact Int.natAbs_dvd_natAbs.mpr h
 exact Int.natAbs_dvd_natAbs.mp (Nat.Coprime.dvd_of_dvd_mul_left g h')
theorem qD {t b t' b':Int} (h:0 < b) (h':0 < b') (g:Int.gcd t b = 1) (g':Int.gcd t' b' = 1) (e:t * b' = t' * b):t = t'/\b = b':=by
 have d1:b ∣ b':=by
  have:b ∣ t * b':=⟨t',by rw [e];exact Int.mul_comm _ _⟩
  exact yK this (by rw [Int.gcd_comm];exact g)
 have d2:b' ∣ b:=by
  have:b' ∣ t' * b:=⟨t,by rw [<- e];exact Int.mul_comm _ _⟩
  exact yK this (by rw [Int.gcd_comm];exact g')
 have e1:b = b':=Int.le_antisymm (Int.le_of_dvd h' d1) (Int.le_of_dvd h d2)
 subst e1
 exact ⟨Int.eq_of_mul_eq_mul_right (by omega) e,rfl⟩
theorem den_pos (q:Rat):(0:Int) < (q.den:Int):=by have:=q.den_pos;omega
theorem eM (q:Rat):(q.den:Int) ≠ 0:=by have:=q.den_pos;omega
theorem xI (q:Rat):((q.den:Int):Rat) ≠ 0:=by
 intro h
 have:(q.den:Int) = 0:=by exact_mod_cast h
 exact eM q this
theorem aHA (q:Rat):(q.num:Rat) / ((q.den:Int):Rat) = q:=by
 have h:=Rat.num_divInt_den q
 rw [Rat.divInt_eq_div] at h
 exact h
theorem gL (q:Rat):(q.num:Rat) = q * ((q.den:Int):Rat):=by
 have h:=aHA q
 have h2:=xI q
 grind
theorem aEm {t b:Int} (h:b ≠ 0):fT t b = ((t:Rat) / (b:Rat)).num/\fB t b = ((((t:Rat) / (b:Rat)).den:Nat):Int):=by
 have hb:(b:Rat) ≠ 0:=by exact_mod_cast h
 refine qD (aMd h) (den_pos _) (aPj h) ?_ ?_
 ·have:=((t:Rat) / (b:Rat)).reduced
  unfold Nat.Coprime at this
  rw [<- this]
  rfl
 ·have e1:=aMk (t:=t) h
  have e2:=gL ((t:Rat) / (b:Rat))
  have e3:((fT t b:Int):Rat) * b = (fB t b:Int) * (t:Rat):=by rw [<- Rat.intCast_mul,<- Rat.intCast_mul,e1]
  have e4:((fT t b:Int):Rat) * ((((t:Rat) / (b:Rat)).den:Int):Rat) = ((((t:Rat) / (b:Rat)).num:Int):Rat) * (fB t b:Int):=by
   rw [e2]
   grind
  rw [<- Rat.intCast_mul,<- Rat.intCast_mul] at e4
  exact Rat.intCast_inj.mp e4
def BQ (n:Nat) (q:Rat):Prop:=Bd n q.num/\Bd n (q.den:Int)
theorem BQ.mono {m n:Nat} {q:Rat} (h:BQ m q) (l:m<=n):BQ n q:=⟨h.1.mono l,h.2.mono l⟩
theorem BQ.make {n:Nat} {t b:Int} (h:b ≠ 0) (h1:Bd n t) (h2:Bd n b):BQ n ((t:Rat) / (b:Rat)):=by
 obtain ⟨e1,e2⟩:=aEm (t:=t) h
 exact ⟨e1 ▸ h1.fT,e2 ▸ h2.fB⟩
theorem aNJ (p q:Rat):(((p.num * q.den + q.num * p.den:Int)):Rat) / ((p.den * q.den:Int):Rat) = p + q:=by
 have h1:=xI p
 have h2:=xI q
 have e1:=gL p
 have e2:=gL q
 rw [Rat.intCast_add,Rat.intCast_mul,Rat.intCast_mul,Rat.intCast_mul,e1,e2]
 grind
theorem aO9 (p q:Rat):(((p.num * q.den - q.num * p.den:Int)):Rat) / ((p.den * q.den:Int):Rat) = p - q:=by
 have h1:=xI p
 have h2:=xI q
 have e1:=gL p
 have e2:=gL q
 rw [Rat.intCast_sub,Rat.intCast_mul,Rat.intCast_mul,Rat.intCast_mul,e1,e2]
 grind
theorem aLG (p q:Rat):(((p.num * q.num:Int)):Rat) / ((p.den * q.den:Int):Rat) = p * q:=by
 have h1:=xI p
 have h2:=xI q
 have e1:=gL p
 have e2:=gL q
 rw [Rat.intCast_mul,Rat.intCast_mul,e1,e2]
 grind
theorem BQ.add {m n:Nat} {p q:Rat} (h:BQ m p) (h2:BQ n q):BQ (m + n + 1) (p + q):=by
 rw [<- aNJ]
 exact .make (Int.mul_ne_zero (eM p) (eM q)) ((h.1.mul h2.2).add ((h2.1.mul h.2).mono (by omega))) ((h.2.mul h2.2).mono (by omega))
theorem BQ.sub {m n:Nat} {p q:Rat} (h:BQ m p) (h2:BQ n q):BQ (m + n + 1) (p - q):=by
 rw [<- aO9]
 exact .make (Int.mul_ne_zero (eM p) (eM q)) ((h.1.mul h2.2).sub ((h2.1.mul h.2).mono (by omega))) ((h.2.mul h2.2).mono (by omega))
theorem BQ.mul {m n:Nat} {p q:Rat} (h:BQ m p) (h2:BQ n q):BQ (m + n) (p * q):=by
 rw [<- aLG]
 exact .make (Int.mul_ne_zero (eM p) (eM q)) (h.1.mul h2.1) (h.2.mul h2.2)
theorem BQ.int {m:Nat} {z:Int} (h:Bd m z) (h0:0 < m):BQ m (z:Rat):=⟨by rw [Rat.num_intCast];exact h,by rw [Rat.den_intCast];unfold Bd;exact Nat.one_lt_two_pow (by omega)⟩
theorem ltQ (p q:Rat):(p.num * q.den < q.num * p.den) ↔ p < q:=(Rat.lt_iff p q).symm
theorem aIS {q:Rat}:0 < q.num ↔ 0 < q:=by
 have:=Rat.lt_iff 0 q
 simp at this
 exact this.symm
theorem aJI {t b:Int} {q:Rat} (hb:0 < b) (hg:Int.gcd t b = 1) (e:(t:Rat) = q * (b:Rat)):t = q.num/\b = (q.den:Int):=by
 refine qD hb (den_pos q) hg ?_ ?_
 ·have:=q.reduced
  unfold Nat.Coprime at this
  rw [<- this]
  rfl
 ·have e2:=gL q
  have:((t * (q.den:Int):Int):Rat) = ((q.num * b:Int):Rat):=by
   rw [Rat.intCast_mul,Rat.intCast_mul,e,e2]
   grind
  exact Rat.intCast_inj.mp this
theorem mF {a b c:Int} (h:Int.gcd a b = 1) (h2:Int.gcd a c = 1):Int.gcd a (b * c) = 1:=by
 unfold Int.gcd at *
 rw [Int.natAbs_mul]
 exact Nat.Coprime.mul_right h h2
theorem eQ {a b:Int} (h:Int.gcd a b = 1):Int.gcd b a = 1:=by rw [Int.gcd_comm];exact h
theorem kP {a a' b:Int} (h:a ∣ a') (h2:Int.gcd a' b = 1):Int.gcd a b = 1:=by
 unfold Int.gcd at *
 exact Nat.Coprime.coprime_dvd_left (Int.natAbs_dvd_natAbs.mpr h) h2
theorem red (q:Rat):Int.gcd q.num (q.den:Int) = 1:=by
 have:=q.reduced
 unfold Nat.Coprime at this
 rw [<- this]
 rfl
theorem pL {x y:Int} (h:y ≠ 0):∃ a b:Int,x = (Int.gcd x y:Int) * a/\y = (Int.gcd x y:Int) * b/\Int.gcd a b = 1/\x.fdiv (Int.gcd x y:Int) = a/\y.fdiv (Int.gcd x y:Int) = b:=by
 have hp:0 < Int.gcd x y:=kX h
 obtain ⟨a,ha⟩:=Int.gcd_dvd_left x y
 obtain ⟨b,hb⟩:=Int.gcd_dvd_right x y
 have e1:x.fdiv (Int.gcd x y:Int) = a:=by
  rw [Int.fdiv_eq_ediv_of_dvd (Int.gcd_dvd_left x y)]
  exact Int.ediv_eq_of_eq_mul_right (by omega) ha
 have e2:y.fdiv (Int.gcd x y:Int) = b:=by
  rw [Int.fdiv_eq_ediv_of_dvd (Int.gcd_dvd_right x y)]
  exact Int.ediv_eq_of_eq_mul_right (by omega) hb
 refine ⟨a,b,ha,hb,?_,e1,e2⟩
 rw [<- e1,<- e2,Int.fdiv_eq_ediv_of_dvd (Int.gcd_dvd_left x y),Int.fdiv_eq_ediv_of_dvd (Int.gcd_dvd_right x y),Int.gcd_ediv (Int.gcd_dvd_left x y) (Int.gcd_dvd_right x y)]
 simp
 exact Nat.div_self hp
theorem aPh (p q:Rat):∀ g a t l:Int,g = (Int.gcd p.den q.den:Int)->a = (p.den:Int).fdiv g->t = p.num * (q.den:Int).fdiv g + q.num * a->l = (Int.gcd t g:Int) ->
  g ≠ 0/\l ≠ 0/\g ∣ (p.den:Int)/\l ∣ g/\t.fdiv l = (p + q).num/\a * (q.den:Int).fdiv l = ((p + q).den:Int):=by
 intro g a t l hg ha ht hl
 have d1:=den_pos p
 have d2:=den_pos q
 obtain ⟨a',b,e1,e2,cab,f1,f2⟩:=pL (x:=p.den) (y:=q.den) (eM q)
 rw [<- hg] at e1 e2 f1 f2
 rw [f1] at ha
 subst ha
 rw [f2] at ht
 have g0:0 < g:=by have:=kX (t:=(p.den:Int)) (eM q);omega
 have a0:0 < a:=by
  rcases Int.lt_trichotomy a 0 with z | z | z
  ·have:=Int.mul_neg_of_pos_of_neg g0 z;omega
  ·subst z;omega
  ·exact z
 have b0:0 < b:=by
  rcases Int.lt_trichotomy b 0 with z | z | z
  ·have:=Int.mul_neg_of_pos_of_neg g0 z;omega
  ·subst z;omega
  ·exact z
 obtain ⟨t',g',e3,e4,ctg,f3,f4⟩:=pL (x:=t) (y:=g) (by omega)
 rw [<- hl] at e3 e4 f3 f4
 have l0:0 < l:=by have:=kX (t:=t) (b:=g) (by omega);omega
 have g'0:0 < g':=by
  rcases Int.lt_trichotomy g' 0 with z | z | z
  ·have:=Int.mul_neg_of_pos_of_neg l0 z;omega
  ·subst z;omega
  ·exact z
 have f5:(q.den:Int).fdiv l = g' * b:=by
  have e:(q.den:Int) = l * (g' * b):=by rw [e2,e4];grind
  rw [Int.fdiv_eq_ediv_of_dvd ⟨_,e⟩]
  exact Int.ediv_eq_of_eq_mul_right (by omega) e
 refine ⟨by omega,by omega,⟨a,e1⟩,⟨g',e4⟩,?_⟩
 rw [f3,f5]
 have ca:Int.gcd t a = 1:=by
  have c1:Int.gcd p.num a = 1:=eQ (kP ⟨g,by rw [e1];grind⟩ (eQ (red p)))
  have:Int.gcd a (p.num * b) = 1:=mF (eQ c1) cab
  rw [ht,Int.gcd_comm,Int.gcd_add_mul_right_right]
  exact this
 have cb:Int.gcd t b = 1:=by
  have c1:Int.gcd q.num b = 1:=eQ (kP ⟨g,by rw [e2];grind⟩ (eQ (red q)))
  have:Int.gcd b (q.num * a) = 1:=mF (eQ c1) (eQ cab)
  rw [ht,Int.gcd_comm,Int.add_comm,Int.gcd_add_mul_right_right]
  exact this
 have hd:t' ∣ t:=⟨l,by rw [e3];grind⟩
 refine aJI (q:=p + q) (Int.mul_pos a0 (Int.mul_pos g'0 b0)) (mF (kP hd ca) (mF ctg (kP hd cb))) ?_
 have n1:=gL p
 have n2:=gL q
 have r1:=xI p
 have r2:=xI q
 have k1:((p.den:Int):Rat) = (l:Rat) * g' * a:=by rw [e1,e4,Rat.intCast_mul,Rat.intCast_mul]
 have k2:((q.den:Int):Rat) = (l:Rat) * g' * b:=by rw [e2,e4,Rat.intCast_mul,Rat.intCast_mul]
 have k3:(l:Rat) * t' = (p.num:Rat) * b + (q.num:Rat) * a:=by rw [<- Rat.intCast_mul,<- e3,ht,Rat.intCast_add,Rat.intCast_mul,Rat.intCast_mul]
 have k4:(l:Rat) ≠ 0:=fun z=>by
                     have:l = 0:=by exact_mod_cast z
                     omega
 rw [n1,n2,k1,k2] at k3
 rw [Rat.intCast_mul,Rat.intCast_mul]
 have:(l:Rat) * (t':Rat) = l * ((p + q) * ((a:Rat) * (g' * b))):=by rw [k3];grind
 grind
theorem aN6 (p q:Rat):∀ f r:Int,f = (Int.gcd p.num q.den:Int)->r = (Int.gcd q.num p.den:Int) ->
  f ≠ 0/\r ≠ 0/\f ∣ (q.den:Int)/\r ∣ (p.den:Int)/\p.num.fdiv f * q.num.fdiv r = (p * q).num/\(p.den:Int).fdiv r * (q.den:Int).fdiv f = ((p * q).den:Int):=by
 intro f r hf hr
 have d1:=den_pos p
 have d2:=den_pos q
 obtain ⟨x,v,e1,e2,c1,f1,f2⟩:=pL (x:=p.num) (y:=q.den) (eM q)
 obtain ⟨y,u,e3,e4,c2,f3,f4⟩:=pL (x:=q.num) (y:=p.den) (eM p)
 rw [<- hf] at e1 e2 f1 f2
 rw [<- hr] at e3 e4 f3 f4
 have f0:0 < f:=by have:=kX (t:=p.num) (eM q);omega
 have r0:0 < r:=by have:=kX (t:=q.num) (eM p);omega
 have v0:0 < v:=by
  rcases Int.lt_trichotomy v 0 with z | z | z
  ·have:=Int.mul_neg_of_pos_of_neg f0 z;omega
  ·subst z;omega
  ·exact z
 have u0:0 < u:=by
  rcases Int.lt_trichotomy u 0 with z | z | z
  ·have:=Int.mul_neg_of_pos_of_neg r0 z;omega
  ·subst z;omega
  ·exact z
 refine ⟨by omega,by omega,⟨v,e2⟩,⟨u,e4⟩,?_⟩
 rw [f1,f2,f3,f4]
 have cxu:Int.gcd x u = 1:=kP ⟨f,by rw [e1];grind⟩ (eQ (kP ⟨r,by rw [e4];grind⟩ (eQ (red p))))
 have cyv:Int.gcd y v = 1:=kP ⟨r,by rw [e3];grind⟩ (eQ (kP ⟨f,by rw [e2];grind⟩ (eQ (red q))))
 refine aJI (q:=p * q) (Int.mul_pos u0 v0) ?_ ?_
 ·exact eQ (mF (eQ (mF cxu c1)) (eQ (mF c2 cyv)))
 have n1:=gL p
 have n2:=gL q
 have r1:=xI p
 have r2:=xI q
 have k1:((p.den:Int):Rat) = (r:Rat) * u:=by rw [e4,Rat.intCast_mul]
 have k2:((q.den:Int):Rat) = (f:Rat) * v:=by rw [e2,Rat.intCast_mul]
 have k3:(p.num:Rat) = (f:Rat) * x:=by rw [e1,Rat.intCast_mul]
 have k4:(q.num:Rat) = (r:Rat) * y:=by rw [e3,Rat.intCast_mul]
 have k5:(f:Rat) ≠ 0:=fun z=>by
                     have:f = 0:=by exact_mod_cast z
                     omega
 have k6:(r:Rat) ≠ 0:=fun z=>by
                     have:r = 0:=by exact_mod_cast z
                     omega
 rw [Rat.intCast_mul,Rat.intCast_mul]
 have:(f:Rat) * r * ((x:Rat) * y) = f * r * ((p * q) * ((u:Rat) * v)):=by
  have z1:(f:Rat) * x = p * (r * u):=by rw [<- k3,<- k1];exact n1
  have z2:(r:Rat) * y = q * (f * v):=by rw [<- k4,<- k2];exact n2
  grind
 grind
theorem Bd.dvd {n:Nat} {x y:Int} (h:Bd n y) (d:x ∣ y) (h0:y ≠ 0):Bd n x:=by
 unfold Bd at *
 have:=Nat.le_of_dvd (by omega) (Int.natAbs_dvd_natAbs.mpr d)
 omega
theorem Bd.fdiv {n:Nat} {x y:Int} (h:Bd n x) (d:y ∣ x):Bd n (x.fdiv y):=by
 unfold Bd at *
 rw [Int.fdiv_eq_ediv_of_dvd d]
 exact Nat.lt_of_le_of_lt (Int.natAbs_ediv_le_natAbs _ _) h
noncomputable def sgn (q:Rat):Int:=if 0 < q then 1 else if q < 0 then -1 else 0
noncomputable def uu (t:Rat):Rat:=(1 - t * t) / (1 + t * t)
noncomputable def vv (t:Rat):Rat:=(t + t) / (1 + t * t)
noncomputable def tb (t h u:Int):Int:=(t + h * u).fmod 4
end Mz
namespace Dd
open PySem PySem.Spec PyProof.Rows L2 Mz
noncomputable def FQ (q:Rat):D:=.tup [.int q.num,.int (q.den:Int)]
theorem aDB {t b:Int} (h:b ≠ 0):(D.tup [.int (fT t b),.int (fB t b)]) = FQ ((t:Rat) / (b:Rat)):=by
 obtain ⟨e1,e2⟩:=aEm (t:=t) h
 rw [e1,e2]
 rfl
def eF:DSp:=fun ds M Q=>∃ a b,ds = [.int a,.int b]/\Q (.int (Int.gcd a b:Int)) M
def aBq (g:Rat->Rat->D) (C:Rat->Prop:=fun _=>True):DSp:=fun ds M Q=>∃ p q m n,ds = [FQ p,FQ q]/\C q/\BQ m p/\BQ n q/\m + n<=8998/\Q (g p q) M
def aBC:DSp:=aBq fun p q=>FQ (p + q)
def aBQ:DSp:=aBq fun p q=>FQ (p * q)
def aB7:DSp:=aBq fun p q=>.bl (decide (p < q))
theorem sU {g:Rat->Rat->D} {C:Rat->Prop} (ds:List D) (M:DM) (Q:DQ) (h:aBq g C ds M Q):ds.length = 2:=by obtain ⟨a,b,m,n,rfl,_⟩:=h;rfl
theorem vQ {n:Nat} {x y z:Int} (h:Bd n y) (l:n<=9000) (d:z ∣ y) (h0:y ≠ 0) (hz:z ≠ 0):CFd x z:=⟨hz,by
 rcases Nat.eq_zero_or_pos n with e | e
 ·subst e
  have:y.natAbs < 1:=h
  omega
 ·exact Nat.lt_of_lt_of_le ((h.dvd d h0).log e) l⟩
theorem aIs (q:Rat):(D.tup [.int (-q.num),.int (q.den:Int)]) = FQ (-q):=by
 unfold FQ
 rw [Rat.neg_num,Rat.neg_den]
noncomputable def PQ (x y:Rat):D:=.tup [FQ x,FQ y]
theorem aBg (p q:Rat):eqD (FQ p) (FQ q) = decide (p = q):=by
 show (p.num == q.num && ((p.den:Int) == (q.den:Int) && true)) = decide (p = q)
 by_cases h:p = q
 ·subst h;simp
 ·rw [decide_eq_false h]
  by_cases h1:p.num = q.num
  ·have h2:¬ ((p.den:Int) = (q.den:Int)):=fun z=>h (Rat.ext h1 (by exact_mod_cast z))
   simp [h1,h2]
  ·simp [h1]
theorem aF4 (x y u v:Rat):eqD (PQ x y) (PQ u v) = (decide (x = u) && decide (y = v)):=by
 show (eqD (FQ x) (FQ u) && (eqD (FQ y) (FQ v) && true)) = _
 rw [aBg,aBg,Bool.and_true]
def iP:DSp:=fun ds M Q=>∃ x y,ds = [PQ x y]/\BQ 900 x/\BQ 900 y/\∀ X Y d:Int,0 < d->(X:Rat) = x * (d:Rat)->(Y:Rat) = y * (d:Rat)->Bd 1800 X->Bd 1800 Y->Bd 1800 d->Q (.tup [.int X,.int Y,.int d]) M
def aA7:DSp:=fun ds M Q=>∃ z:Int,ds = [.int z]/\Q (.int (sgn (z:Rat))) M
theorem aCy {d:Int} (h:0 < d):(0:Rat) < (d:Rat):=by exact_mod_cast h
structure Adv (M M':DM) (a:Addr):Prop where
 l:∀ b:Addr,b ≠ a->M' (.l b) = M (.l b)
 d:∀ b:Addr,M' (.d b) = M (.d b)
instance {M M':DM} {a:Addr}:CoeFun (Adv M M' a) (fun _=>∀ b:Addr,b ≠ a->M' (.l b) = M (.l b)):=⟨Adv.l⟩
theorem Adv.trans {M M1 M2:DM} {a:Addr} (h:Adv M M1 a) (h2:Adv M1 M2 a):Adv M M2 a:=⟨fun b n=>(h2.l b n).trans (h.l b n),fun b=>(h2.d b).trans (h.d b)⟩
noncomputable def aDx:D:=.tup [.int 1,.int 1]
theorem aLd {x y:Rat} {g:DG} {te:DE} {Q:DQ} {ρ0:cR} {M:DM}:itT (PQ x y) ρ0 g te M Q = aBt none [FQ x,FQ y] ρ0 g te M Q:=rfl
theorem aMw {q:Rat} {g:DG} {te:DE} {Q:DQ} {ρ0:cR} {M:DM}:itT (FQ q) ρ0 g te M Q = aBt none [.int q.num,.int (q.den:Int)] ρ0 g te M Q:=rfl
theorem aMg {x y:Rat} {g:DG} {tb:DS} {E:fY} {ρ:cR} {M:DM}:foT (PQ x y) g tb E ρ M = dIt none [FQ x,FQ y] g tb E ρ M:=rfl
theorem aOg {q:Rat} {M:DM} {Q:DQ}:mB (FQ q) (.int 0) M Q = Q (.int q.num) M:=rfl
theorem aOr {q:Rat} {M:DM} {Q:DQ}:mB (FQ q) (.int 1) M Q = Q (.int (q.den:Int)) M:=rfl
theorem aNY {x y:Rat} {M:DM} {Q:DQ}:mB (PQ x y) (.int 0) M Q = Q (FQ x) M:=rfl
theorem aMJ {x y:Rat} {M:DM} {Q:DQ}:mB (PQ x y) (.int 1) M Q = Q (FQ y) M:=rfl
theorem aNi {x y:Rat} {n:Nat} {t:DGs} {ρ:cR} {M:DM} {R:cR->DM->Prop}:gU n t (PQ x y) ρ M R = (([FQ x,FQ y]:List D).length = n/\t [FQ x,FQ y] ρ M R):=rfl
theorem aNI {q:Rat} {n:Nat} {t:DGs} {ρ:cR} {M:DM} {R:cR->DM->Prop}:gU n t (FQ q) ρ M R = (([.int q.num,.int (q.den:Int)]:List D).length = n/\t [.int q.num,.int (q.den:Int)] ρ M R):=rfl
theorem aF9 {g:Bool->Bool} {p q:Rat} {M:DM} {Q:DQ}:dEq g (FQ p) (FQ q) M Q = Q (.bl (g (decide (p = q)))) M:=by
 show (bR 60 (FQ p) = true/\bR 60 (FQ q) = true/\Q (.bl (g (eqD (FQ p) (FQ q)))) M) = _
 rw [aBg]
 exact propext ⟨fun h=>h.2.2,fun h=>⟨rfl,rfl,h⟩⟩
theorem aFk {g:Bool->Bool} {x y u v:Rat} {M:DM} {Q:DQ}:dEq g (PQ x y) (PQ u v) M Q = Q (.bl (g (decide (x = u/\y = v)))) M:=by
 show (bR 60 (PQ x y) = true/\bR 60 (PQ u v) = true/\Q (.bl (g (eqD (PQ x y) (PQ u v)))) M) = _
 have e:(decide (x = u) && decide (y = v)) = decide (x = u/\y = v):=by by_cases h1:x = u<;>by_cases h2:y = v<;>simp [h1,h2]
 rw [aF4,e]
 exact propext ⟨fun h=>h.2.2,fun h=>⟨rfl,rfl,h⟩⟩
theorem fU {M:DM} {p b:Addr} {ds:List D} (h:bH M p ds b = none):b ≠ p/\M b = none:=by
 by_cases e:b = p
 ·subst e;rw [aJ] at h;cases h
 ·rw [bI e] at h;exact ⟨e,h⟩
noncomputable def tE:D:=.tup [.tup [.int 0,.int 1],.tup [.int 0,.int 1]]
noncomputable def FR (px py:Rat) (t h:Int) (s:Rat):D:=.tup [PQ px py,.int t,.int h,FQ s]
theorem aNu {px py s:Rat} {i h:Int} {n:Nat} {t:DGs} {ρ:cR} {M:DM} {R:cR->DM->Prop}:gU n t (FR px py i h s) ρ M R = (([PQ px py,.int i,.int h,FQ s]:List D).length = n/\t [PQ px py,.int i,.int h,FQ s] ρ M R):=rfl
theorem aNr {px py s:Rat} {t h:Int} {M:DM} {Q:DQ}:mB (FR px py t h s) (.int 0) M Q = Q (PQ px py) M:=rfl
theorem aNP {px py s:Rat} {t h:Int} {M:DM} {Q:DQ}:mB (FR px py t h s) (.int 1) M Q = Q (.int t) M:=rfl
theorem aNK {px py s:Rat} {t h:Int} {M:DM} {Q:DQ}:mB (FR px py t h s) (.int 2) M Q = Q (.int h) M:=rfl
theorem aN0 {px py s:Rat} {t h:Int} {M:DM} {Q:DQ}:mB (FR px py t h s) (.int 3) M Q = Q (FQ s) M:=rfl
theorem aMB (px py s px' py' s':Rat) (t h t' h':Int):eqD (FR px py t h s) (FR px' py' t' h' s') = decide (px = px'/\py = py'/\t = t'/\h = h'/\s = s'):=by
 show (eqD (PQ px py) (PQ px' py') && (t == t' && (h == h' && (eqD (FQ s) (FQ s') && true)))) = _
 rw [aF4,aBg]
 by_cases h1:px = px'<;>by_cases h2:py = py'<;>by_cases h3:t = t'<;>by_cases h4:h = h'<;>by_cases h5:s = s'<;>simp [h1,h2,h3,h4,h5]
theorem aJ4 {g:Bool->Bool} {px py s px' py' s':Rat} {t h t' h':Int} {M:DM} {Q:DQ}:dEq g (FR px py t h s) (FR px' py' t' h' s') M Q = Q (.bl (g (decide (px = px'/\py = py'/\t = t'/\h = h'/\s = s')))) M:=by
 show (bR 60 (FR px py t h s) = true/\bR 60 (FR px' py' t' h' s') = true/\Q (.bl (g (eqD (FR px py t h s) (FR px' py' t' h' s')))) M) = _
 rw [aMB]
 exact propext ⟨fun z=>z.2.2,fun z=>⟨rfl,rfl,z⟩⟩
def pK (n:Nat) (L:List D):Prop:=L.length = n/\∀ d ∈ L,∃ z:Int,d = .int z/\0<=z/\z < 1000000
theorem pK.at {n:Nat} {L:List D} (h:pK n L) {i:Nat} (hi:i < n):∃ z:Int,atI L (i:Int) = some (.int z)/\0<=z/\z < 1000000:=by
 have hl:i < L.length:=by rw [h.1];exact hi
 obtain ⟨z,e,z0,z1⟩:=h.2 L[i] (List.getElem_mem hl)
 exact ⟨z,aD1 (by rw [List.getElem?_eq_getElem hl,e]),z0,z1⟩
theorem aIT {x y:Rat} {M:DM} {Q:DQ}:sO [PQ x y] M Q = Q (.int 2) M:=rfl
theorem aIP {q:Rat} {M:DM} {Q:DQ}:sO [FQ q] M Q = Q (.int 2) M:=rfl
theorem aHJ {px py s:Rat} {t h:Int} {M:DM} {Q:DQ}:sO [FR px py t h s] M Q = Q (.int 4) M:=rfl
theorem aFg {a:Addr} {M:DM} {Q:DQ}:sO [.ref a] M Q = ∃ xs,M a = some xs/\Q (.int (xs.length:Int)) M:=rfl
section
variable {M:DM} {Q:DQ} {a b c d e f:D}
theorem aLO {i:Int}:aNs [.int i] M Q = Q (.int (if i < 0 then -i else i)) M:=rfl
theorem aI6 {xs:List D}:sO [.fz xs] M Q = Q (.int xs.length) M:=rfl
theorem aIK:sO [.tup []] M Q = Q (.int 0) M:=rfl
theorem aIc:sO [.tup [a]] M Q = Q (.int 1) M:=rfl
theorem aIr:sO [.tup [a,b]] M Q = Q (.int 2) M:=rfl
theorem aIg:sO [.tup [a,b,c]] M Q = Q (.int 3) M:=rfl
theorem aHL:sO [.tup [a,b,c,d]] M Q = Q (.int 4) M:=rfl
theorem aHV:sO [.tup [a,b,c,d,e]] M Q = Q (.int 5) M:=rfl
end
structure Fm where
 (px py:Rat) (t h:Int) (s:Rat)
noncomputable def FmD (f:Fm):D:=FR f.px f.py f.t f.h f.s
noncomputable def Fm.one:Fm:=⟨0,0,0,1,1⟩
def Fm.Ok (f:Fm):Prop:=0<=f.t/\f.t < 4/\(f.h = 1 ∨ f.h = -1)
theorem Fm.ok_one:Fm.one.Ok:=⟨by decide,by decide,.inl rfl⟩
theorem aMK {f:Fm} {M:DM} {Q:DQ}:mB (FmD f) (.int 0) M Q = Q (PQ f.px f.py) M:=rfl
theorem aMO {f:Fm} {M:DM} {Q:DQ}:mB (FmD f) (.int 1) M Q = Q (.int f.t) M:=rfl
theorem aMR {f:Fm} {M:DM} {Q:DQ}:mB (FmD f) (.int 2) M Q = Q (.int f.h) M:=rfl
theorem aN2 {f:Fm} {M:DM} {Q:DQ}:mB (FmD f) (.int 3) M Q = Q (FQ f.s) M:=rfl
theorem aKf {f:Fm} {n:Nat} {t:DGs} {ρ:cR} {M:DM} {R:cR->DM->Prop}:gU n t (FmD f) ρ M R = (([PQ f.px f.py,.int f.t,.int f.h,FQ f.s]:List D).length = n/\t [PQ f.px f.py,.int f.t,.int f.h,FQ f.s] ρ M R):=rfl
theorem aFv {f:Fm} {M:DM} {Q:DQ}:sO [FmD f] M Q = Q (.int 4) M:=rfl
section
variable {X:Cx} {pins:List (Addr × Obj)} {σ:L2.St} {H:Hp} {s:Shared} {M:DM}
end
def aNb (g:Bool->Bool):D2:=fun x y M Q=>match x,y with
 | .int k,.tup ys=>∃ ns:List Int,ys = ns.map D.int/\Q (.bl (g (ns.any (· == k)))) M
 | .str k,.tup ys=>∃ ns:List Str,ys = ns.map D.str/\Q (.bl (g (ns.any (· == k)))) M
 | _,_=>False
section
variable {X:Cx}
theorem aK3:OpD X (compareOp .In) (aNb id):=fun pins s σ H x y v u Q I rx ry ⟨dx,dy,M,Q',r1,r2,hm,q,k⟩=>by
 cases dx with
 | int z =>
  cases dy with
  | tup ys =>
   obtain ⟨ns,rfl,q⟩:=q
   obtain rfl:=aT r1
   obtain ⟨a,us,rfl,sq,ru⟩:=cM r2
   obtain ⟨its,rv,ht⟩:=kJ I sq
   obtain ⟨t,rfl⟩:=rx
   cases ry
   exact in_tuple_ints ht (rC ru rv) ⟨.bl _,H,I,rfl,k _ H ⟨_,M,eB,hm,.refl H,q⟩⟩
  | _=>exact q.elim
 | str z =>
  cases dy with
  | tup ys =>
   obtain ⟨ns,rfl,q⟩:=q
   obtain rfl:=bC r1
   obtain ⟨a,us,rfl,sq,ru⟩:=cM r2
   obtain ⟨its,rv,ht⟩:=kJ I sq
   obtain ⟨t,rfl⟩:=rx
   cases ry
   exact in_tuple_strs ht (rK ru rv) ⟨.bl _,H,I,rfl,k _ H ⟨_,M,eB,hm,.refl H,q⟩⟩
  | _=>exact q.elim
 | _=>cases dy<;>exact q.elim
end
end Dd
namespace L2
open PySem PySem.Spec PyProof.Rows
section
variable {prog:Program} {w:World} {A:Around} {R:Result->Shared->Prop} {s:Shared}
end
end L2
namespace Dd
open PySem PySem.Spec PyProof.Rows L2
section
variable {X:Cx} {g:DG} {tc:DT} {te:DE}
variable {elt iter tg cnd:Expr} {scope:Scope} {pos:Pos} {N':List Str} {fr:List (Option Nat)} {tl:DE} {ta:DA} {oN:List Str} {osc:Scope}
end
open Mz
section
variable {X:Cx} {o e f:Expr} {to te tf:DE}
end
section
variable {X:Cx} {pins:List (Addr × Obj)} {σ:L2.St} {H:Hp} {s:Shared}
end
section
variable {X:Cx} {o:Expr} {to:DE}
def aKF (to:DE):DE:=fun ρ M Q=>to ρ M fun x M1=>match x with
 | .ref p=>∃ ds y,M1 p = some ds/\ds[ds.length - 1]? = some y/\Q y (bH M1 p ds.dropLast)
 | _=>False
theorem yY {K:Frag} {H:Hp} {ds:List D} {vs:List V} (h:bZ K H ds vs):bZ K H ds.dropLast vs.dropLast:=by
 rw [List.dropLast_eq_take,List.dropLast_eq_take,h.length]
 exact h.take _
theorem aLJ {apos cpos:Pos} (ho:PDE X o to) (hbase:attributeBase o "pop" X.env (eval o X.env) = eval o X.env:=by rfl) (hline:(apos.endLine == cpos.line) = true:=by rfl) :
  PDE X (.Call (.Attribute o "pop" apos) [] [] cpos) (aKF to) :=
 cO (aDp PySem.F.plainAttrs_list PySem.F.slot_list_pop PySem.F.type_list_pop aK5 ho hbase hline) fun σ H Q ⟨ρ,M,Q',re,hm,q,k⟩=>⟨ρ,M,_,re,hm,q,fun v H1 ⟨d,M1,rd,hm1,e1,q1⟩=>by
  cases d with
  | ref p =>
   obtain rfl:=bE rd
   obtain ⟨ds,y,hp,hy,q1⟩:=q1
   obtain ⟨us,hu,ru⟩:=hm1.l p ds hp
   obtain ⟨w,hw,rw'⟩:=ru.get hy
   refine ⟨.inl ⟨rfl,us,.of hu⟩,p,us,w,rfl,rfl,hu,by rw [<- ru.length];exact hw,k _ _ ⟨y,_,rw'.ext (Ext.put hu _),hm1.put hu (yY ru),e1.trans (Ext.put hu _),q1⟩⟩
  | _=>exact q1.elim⟩
end
section
variable {X:Cx} {g:DG} {tc:DT} {te:DE}
variable {elt iter tg cnd:Expr} {scope:Scope} {pos:Pos} {N':List Str} {fr:List (Option Nat)} {tl:DE} {ta:DA} {oN:List Str} {osc:Scope}
end
section
variable {X:Cx} {o e f:Expr} {to te tf:DE}
end
section
variable {X:Cx} {pins:List (Addr × Obj)} {σ:L2.St} {H:Hp} {s:Shared}
end
section
variable {X:Cx} {o:Expr} {to:DE}
theorem wH {apos cpos:Pos} (ho:ZE X o to) (hbase:attributeBase o "pop" X.env (eval o X.env) = eval o X.env:=by rfl) (hline:(apos.endLine == cpos.line) = true:=by rfl):ZE X (.Call (.Attribute o "pop" apos) [] [] cpos) (aKF to):=.i (aLJ ho.o hbase hline)
end
section
variable {P:Program} {w:World} {K:Frag} {mg:Str->Option Value} {base:Heap}
end
section
variable {X:Cx} {n x:Str} {C a:Addr} {o:Obj} {p p1 pos:Pos} {j k k':Nat} {sp:Addr->DM->DQ->Prop}
end
section
open PySem.SeqAt
open PySem.AutoSeq1 (wpAny_loadPart')
open PySem.MeetsSeq PySem.MeetsSeq2 PySem.MeetsSeq3
end
section
variable {prog:Program} {w:World} {A:Around} {E:Value->Shared->Prop} {s:Shared}
end
section
variable {X:Cx} {j:Nat}
end
theorem us0 {us:List Value} (h:us.length = 0):us = []:=List.length_eq_zero_iff.mp h
theorem us1 {us:List Value} (h:us.length = 1):∃ a,us = [a]:=List.length_eq_one_iff.mp h
theorem us2 {us:List Value} (h:us.length = 2):∃ a b,us = [a,b]:=by
 cases us with
 | nil=>cases h
 | cons a r=>obtain ⟨b,rfl⟩:=us1 (us:=r) (Nat.succ.inj h);exact ⟨a,b,rfl⟩
theorem us3 {us:List Value} (h:us.length = 3):∃ a b c,us = [a,b,c]:=by
 cases us with
 | nil=>cases h
 | cons a r=>obtain ⟨b,c,rfl⟩:=us2 (us:=r) (Nat.succ.inj h);exact ⟨a,b,c,rfl⟩
noncomputable instance aPq:DecidableEq D:=fun a b=>Classical.propDecidable (a = b)
noncomputable def aOq:Nat->D->Bool
 | _,.int _=>true
 | _,.str _=>true
 | n + 1,.tup ds=>ds.all (aOq n)
 | _,_=>false
mutual
def IsK (h:Heap):D->Value->Prop
 | .int i,v=>∃ t,v = .int i t
 | .str x,v=>∃ t,v = .str x t
 | .tup ds,v=>∃ a its,v = .ref a/\IsTup h a its/\tM h ds its.toList
 | _,_=>False
def tM (h:Heap):List D->List Value->Prop
 | [],vs=>vs = []
 | d :: ds,vs=>∃ v r,vs = v :: r/\IsK h d v/\tM h ds r
end
theorem aET {h:Heap} {d:D} {ds:List D} {vs:List Value} (x:tM h (d :: ds) vs):∃ v r,vs = v :: r/\IsK h d v/\tM h ds r:=by unfold tM at x;exact x
theorem aIC {h:Heap} {ds:List D} {v:Value} (x:IsK h (.tup ds) v):∃ a its,v = .ref a/\IsTup h a its/\tM h ds its.toList:=by unfold IsK at x;exact x
section
variable {prog:Program} {w:World}
end
mutual
theorem IsK.keep {h h':Heap} (k:∀ a its,IsTup h a its->IsTup h' a its):∀ {x:D} {v:Value},IsK h x v->IsK h' x v
 | .int _,_,a=>by unfold IsK at a ⊢;exact a
 | .str _,_,a=>by unfold IsK at a ⊢;exact a
 | .tup ds,_,a=>by
  obtain ⟨p,its,rfl,ht,hs⟩:=aIC a
  unfold IsK
  exact ⟨p,its,rfl,k p its ht,tM.keep k hs⟩
 | .non,_,a=>by unfold IsK at a;exact a.elim
 | .bl _,_,a=>by unfold IsK at a;exact a.elim
 | .fz _,_,a=>by unfold IsK at a;exact a.elim
 | .ref _,_,a=>by unfold IsK at a;exact a.elim
theorem tM.keep {h h':Heap} (k:∀ a its,IsTup h a its->IsTup h' a its):∀ {xs:List D} {vs:List Value},tM h xs vs->tM h' xs vs
 | [],_,a=>by unfold tM at a ⊢;exact a
 | x :: xs,_,a=>by
  obtain ⟨v,r,rfl,a1,a2⟩:=aET a
  unfold tM
  exact ⟨v,r,rfl,a1.keep k,tM.keep k a2⟩
end
section
variable {prog:Program} {w:World} {A:Around} {E:Value->Shared->Prop} {s:Shared} {it d:Addr} {i ep:Nat} {es:Array DictEntry}
end
structure TK (kvs:List (D × D)):Prop where
 key:∀ p ∈ kvs,(∃ ds,p.1 = .tup ds)/\aOq 6 p.1 = true
 nd:(kvs.map (·.1)).Nodup
theorem TK.nil:TK []:=⟨(fun _ h=>(nomatch h)),List.nodup_nil⟩
def KX (K:Frag) (H:Hp) (p:D × D) (x:D × Addr × Value):Prop:=p.1 = x.1/\Rep K H p.1 (.ref x.2.1)/\∃ vv,cS vv x.2.2/\Rep K H p.2 vv
section
variable {X:Cx} {pins:List (Addr × Obj)} {σ:L2.St} {H:Hp} {s:Shared}
theorem Paired.len {α β:Type} {F:α->β->Prop}:∀ {l:List α} {l':List β},Paired F l l'->l.length = l'.length
 | _,_,.nil=>rfl
 | _,_,.cons _ t=>by rw [length_cons,length_cons,Paired.len t]
end
section
variable {X:Cx} {pos:Pos}
end
open PySem.W
section
variable {n:Nat} {lt:Nat->Nat->Bool} {p:Array Nat}
end
section
variable {n:Nat} {p:Array Nat}
end
section
variable {prog:Program} {w:World} {A:Around} {E:Value->Shared->Prop} {s:Shared}
end
section
variable {X:Cx} {pins:List (Addr × Obj)} {σ:L2.St} {H:Hp} {s:Shared}
end
end Dd
namespace L2
open PySem PySem.Spec PyProof.Rows
end L2
namespace Dd
open PySem PySem.Spec PyProof.Rows L2
section
variable {X:Cx} {pos:Pos} {iter tg:Expr} {body:List Stmt} {tl:DE} {g:DG} {tb:DS} {ta:DA}
theorem aPi {CX:CXT} {P:Program} {w:World} {K:Frag} {mg:Str->Option Value} {base:Heap} {N:List Str} {qual:Str} {scope:Scope} {f:Addr} {cd:Value} {A:Around} {outer:List Env} {s:Shared} {H:Hp} {E:XK}:(jR CX P w K mg base N qual scope f cd A outer s H E).w = w:=rfl
end
end Dd
namespace L2
open PySem PySem.Spec PyProof.Rows
section
variable {prog:Program} {w:World} {A:Around} {E:Value->Shared->Prop} {s:Shared}
end
end L2
namespace Dd
open PySem PySem.Spec PyProof.Rows L2
section
variable {X:Cx} {pos:Pos} {iter tg:Expr} {body:List Stmt} {tl:DE} {g:DG} {tb:DS} {ta:DA}
end
end Dd
namespace L2
open PySem PySem.Spec PyProof.Rows
noncomputable def ItE (K:Frag) (l:Addr):It :=
 ⟨
  fun i H=>∃ xs x,SqL K H l xs/\xs[i]? = some x,
  fun i H v H'=>∃ p x,v = .ref p/\H p = none/\H' = upd H p (.tup [.int i,x])/\∀ xs,SqL K H l xs->xs[i]? = some x,
  fun i H=>∃ xs,SqL K H l xs/\xs.length<=i⟩
theorem aE6 {P:Program} {w:World} {K:Frag} {elts:List Expr} {kk:Nat} {tpos:Pos} {e it l:Addr} (ne:e ≠ it) :
  aGU P w K (.Tuple elts kk tpos) (ItE K l) [e,it] e (fun i h=>(∃ old,IsEnum h e it i old)/\h.IsListIter it l i) where
 mem:=by simp
 obj:=fun i h st b hb=>by
  obtain ⟨⟨old,he⟩,⟨o1,e1,c1,d1⟩⟩:=st
  simp only [mem_cons,not_mem_nil,or_false] at hb
  rcases hb with rfl | rfl
  ·exact ⟨_,he,fun v z=>by cases z⟩
  ·exact ⟨o1,e1,fun v z=>by rw [d1] at z;cases z⟩
 keep:=fun i h h' st k=>by
  obtain ⟨⟨old,he⟩,t1⟩:=st
  exact ⟨⟨old,k e (by simp) _ he⟩,t1.at fun o x=>k it (by simp) o x⟩
 item:=by
  intro X hP hw hK hc i pins s σ H E I hf st hg
  subst hP hw hK
  obtain ⟨xs,x,hq,hx⟩:=hg
  obtain ⟨⟨old,he⟩,t1⟩:=st
  obtain ⟨its,rv,p,hz⟩:=I.list hq
  obtain ⟨u,hu,ru⟩:=rv.get hx
  refine wpAny_pyNext_enum_item he t1 p.isList (x:=u) (by simpa using hu) ne fun h' a1 a2 a3 a4 a5=>?_
  refine ⟨_,rfl,wpAny_letOwnedTupleGo_enum (s:={ s with heap:=h',toks:=s.toks + 1 }) a1 fun h2 b1 b2=>?_⟩
  have lte:=Heap.lt_size he
  have nz:s.heap.objs.size ≠ e:=Nat.ne_of_gt lte
  have k2:∀ b o,b ∉ [e,it]->s.heap.get? b = some o->h2.get? b = some o:=fun b o hb z=>b2.extBut _ _ (fun q=>hb (by simp [q])) (a5 b o (fun q=>hb (by simp [q])) (fun q=>hb (by simp [q])) z)
  have e1:h2.IsListIter it l (i + 1):=a2.extBut b2.extBut (Ne.symm ne)
  have I2:Inv X pins σ (upd H s.heap.objs.size (.tup [.int i,x])) { s with heap:=h2 }:=I.turnedT (its:=[.int i s.toks,u]) k2 hf (Nat.le_refl _) (by show 2<=sizeLine;decide) (.cons ⟨_,rfl⟩ (.cons ru .nil)) ⟨_,b2.extBut _ _ nz a3,rfl,_,rfl⟩ fun b hb=>by
   simp only [mem_cons,not_mem_nil,or_false] at hb
   rcases hb with rfl | rfl
   ·exact ⟨_,b1⟩
   ·obtain ⟨o,e,_⟩:=e1;exact ⟨o,e⟩
  have I3:=I2.kept (t':=s.toks + 1) (h':=h2) fun b u z=>z
  refine ⟨.ref s.heap.objs.size,_,I3,rfl,⟨_,x,rfl,I.hok.fresh (Nat.le_refl _),rfl,fun xs' q1=>by rw [I.list_inj q1 hq];exact hx⟩,⟨⟨_,b1⟩,e1⟩,fun b hb=>?_⟩
  rw [bS]
  ·exact (hf b hb).1
  ·intro q
   subst q
   simp only [mem_cons,not_mem_nil,or_false] at hb
   obtain ⟨o1,g1,_⟩:=t1
   rcases hb with q | q
   ·exact nz q
   ·exact absurd (Heap.lt_size g1) (by rw [<- q];exact Nat.lt_irrefl _)
 done:=by
  intro X hP hw hK hc i pins s σ H E I hf st hg
  subst hP hw hK
  obtain ⟨xs,hq,hend⟩:=hg
  obtain ⟨⟨old,he⟩,t1⟩:=st
  obtain ⟨its,rv,p,hz⟩:=I.list hq
  have w1:=rv.length
  exact wpAny_pyNext_enum_end (I.ok.hd hc) he t1 p.isList (by simp;omega) fun h' k=>⟨rfl,I.turnedL (fun b o hb z=>k b o (fun q=>hb (by simp [q])) z) hf⟩
 self:=fun _ _ _ _ _ st h=>by obtain ⟨⟨old,he⟩,_⟩:=st;exact wpAny_pyIter_enum he h
noncomputable def aNH (K:Frag) (ta:TA):TI:=fun σ H R=>ta σ H fun vs H1=>∃ a xs,vs = [.ref a]/\SqL K H1 a xs/\R (ItE K a) H1
theorem aIX {X:Cx} {elts:List Expr} {kk:Nat} {tpos:Pos} {a:Expr} {ta:TA} {p pos:Pos} (hg:Gl X "enumerate") (hm:X.mg "enumerate" = none) (ha:PA X [a] ta) (hs:starEach [a] X.env = [(false,eval a X.env)]:=by rfl) :
  PI X (.Tuple elts kk tpos) (.Call (.Name "enumerate" p) [a] [] pos) (aNH X.K ta):=by
 intro pins s σ H R I h
 refine Call_ (xR I hg hm (show bootBuiltins "enumerate" = some (.type "enumerate") from rfl) (PyProof.Rows.callWith_type1 (thn (ha pos pins s σ H _ I h) fun us s1 ⟨vs,H1,I1,r1,q1⟩=>?_) (by rw [hs];rfl) (by rfl)))
 obtain ⟨l,xs,rfl,hq,q⟩:=q1
 obtain ⟨u1,rfl,e1⟩:=r1.one
 cases e1
 obtain ⟨its,rv,p,hz⟩:=I1.list hq
 refine call_enumerate_list p.isList fun h' b1 b2 b3 b4=>?_
 refine wpAny_pyIter_enum (s:={ s1 with heap:=h' }) b1 ?_
 refine ⟨s1.heap.objs.size + 1,[s1.heap.objs.size + 1,s1.heap.objs.size],_,_,H1,rfl,I1.kept (t':=s1.toks) b4,aE6 (l:=l) (Nat.succ_ne_self _),⟨⟨_,b1⟩,b2⟩,fun b hb=>?_,q⟩
 have hb':s1.heap.objs.size<=b:=by
  simp only [mem_cons,not_mem_nil,or_false] at hb
  rcases hb with rfl | rfl<;>omega
 exact I1.fpOk hb' (I1.hok.fresh hb')
end L2
namespace Dd
open PySem PySem.Spec PyProof.Rows L2
section
variable {X:Cx} {pos:Pos} {iter tg elt:Expr} {body:List Stmt} {tl te:DE} {g:DG} {tb:DS} {ta:DA}
def aNR (a:Addr) (ds:List D) (g:DG) (tb:DS):DS:=fun E ρ M=>∃ Pv:Nat->cR->DM->Prop,Pv 0 ρ M /\
 (∀ i ρ M,i<=ds.length->Pv i ρ M->M a = some ds) /\
 (∀ i d ρ M,ds[i]? = some d->Pv i ρ M->g (.tup [.int i,d]) ρ M fun ρ2 M2=>tb { E with nx:=Pv (i + 1),ct:=Pv (i + 1),bk:=E.nx } ρ2 M2)/\∀ ρ M,Pv ds.length ρ M->E.nx ρ M
def aOy (K:Frag) (a:Addr) (ds:List D) (J:It) (H:Hp):Prop:=∀ H' M',Ext H H'->cH K M' H'->M' a = some ds->(∀ i,ds.length<=i->J.stop i H')/\(∀ i,i < ds.length->J.go i H')/\∀ i x H2,J.yld i H' x H2->Ext H' H2/\(∀ M',cH K M' H'->cH K M' H2)/\(i < ds.length->∃ d,ds[i]? = some d/\Rep K H2 (.tup [.int i,d]) x)
theorem aOR {K:Frag} {l:Addr} {ds:List D} {H:Hp}:aOy K l ds (ItE K l) H:=fun H' M' e' hm' b1=>by
 obtain ⟨us,hu,r1⟩:=hm'.l l ds b1
 have n1:=r1.length
 refine ⟨fun i hi=>⟨us,.of hu,by omega⟩,fun i hi=>⟨us,us[i]'(by omega),.of hu,by simp⟩,fun i x H2 ⟨pp,vx,e1,hn,e2,all⟩=>?_⟩
 subst e1 e2
 refine ⟨Ext.new hn _,fun M' h=>h.new hn _,fun hi=>?_⟩
 obtain ⟨dx,hdx,rdx⟩:=r1.getV (all us (.of hu))
 exact ⟨dx,hdx,cI (.of dN) (bJ bU (bJ (rdx.ext (Ext.new hn _)) cP))⟩
theorem aLV {K:Frag} {a:Addr} {ds:List D} {E:pY} {Dn:fY} {σ:L2.St} {ρ:cR} {M:DM} {H0 H:Hp} {J:It} (ex0:Ext H0 H) (re:fP K H ρ σ) (hm:cH K M H) (k:jF K H0 Dn E) (h:aNR a ds g tb Dn ρ M) (seq:aOy K a ds J H) :
  ∃ W:Nat->Nat->L2.St->Hp->Prop,(∃ m,W 0 m σ H)/\∀ i m σ H,W i m σ H ->
   (J.stop i H/\E.nx σ H) ∨ (J.go i H/\∃ N:L2.St->Hp->Prop,(∀ σ' H',N σ' H'->∃ m',m' < m/\W (i + 1) m' σ' H')/\∀ x H',J.yld i H x H'->aCH K g x σ H' fun σ2 H2=>aEv K tb { E with nx:=N,ct:=N,bk:=E.nx } σ2 H2):=by
 obtain ⟨Pv,p0,hat,step,done⟩:=h
 refine ⟨fun i m σ' H'=>∃ ρ' M',fP K H' ρ' σ'/\cH K M' H'/\Ext H H'/\m = ds.length - i/\i<=ds.length/\Pv i ρ' M',⟨ds.length,ρ,M,re,hm,.refl H,rfl,Nat.zero_le _,p0⟩,?_⟩
 rintro i m σ1 H1 ⟨ρ1,M1,re1,hm1,e1,rfl,hi,w1⟩
 obtain ⟨hst,hgo,hy⟩:=seq H1 M1 e1 hm1 (hat i ρ1 M1 hi w1)
 by_cases hlt:i < ds.length
 ·refine .inr ⟨hgo i hlt,fun σ' H'=>∃ ρ' M',fP K H' ρ' σ'/\cH K M' H'/\Ext H H'/\Pv (i + 1) ρ' M',fun σ' H' ⟨ρ',M',a,b,c,d⟩=>⟨ds.length - (i + 1),by omega,ρ',M',a,b,c,rfl,hlt,d⟩,fun x H' y=>?_⟩
  obtain ⟨ey,hmy,hd⟩:=hy i x H' y
  obtain ⟨d,hd,rd⟩:=hd hlt
  refine ⟨_,ρ1,M1,_,rd,re1.ext ey,hmy _ hm1,step i d ρ1 M1 hd w1,fun σ2 H2 ⟨ρ2,M2,re2,hm2,e2,q2⟩=>⟨ρ2,M2,_,re2,hm2,q2,?_⟩⟩
  have ex:=(e1.trans ey).trans e2
  exact ⟨fun σ' H' ⟨ρ',M',a,b,c,d⟩=>⟨ρ',M',a,b,ex.trans c,d⟩,fun v H' z=>k.rt v H' (z.back (ex0.trans ex)),fun σ' H' z=>k.nx σ' H' (z.back (ex0.trans ex)),fun σ' H' ⟨ρ',M',a,b,c,d⟩=>⟨ρ',M',a,b,ex.trans c,d⟩⟩
 ·have e:i = ds.length:=by omega
  subst e
  exact .inl ⟨hst _ (Nat.le_refl _),k.nx σ1 H1 ⟨ρ1,M1,re1,hm1,ex0.trans e1,done ρ1 M1 w1⟩⟩
def aF1 (ta:DA) (g:DG) (tb:DS):DS:=fun E ρ M=>ta ρ M fun ds M1=>match ds with
 | [.ref a]=>∃ xs,M1 a = some xs/\aNR a xs g tb E ρ M1
 | _=>False
theorem aHS {elts:List Expr} {kk:Nat} {tpos:Pos} {a:Expr} {p pos':Pos} (hp:PassesOwn (model X.prog X.w) X.A X.env X.xe) (hc:X.calm = true) (hmg:X.mg "enumerate" = none) (ha:PDA X [a] ta) (hg:PDG X (.Tuple elts kk tpos) g) (hb:kM X body tb) (hgl:Gl X "enumerate":=by rfl) (hse:starEach [a] X.env = [(false,eval a X.env)]:=by rfl)
  (hs:∀ x,foldedSetIterable (.Call (.Name "enumerate" p) [a] [] pos') X.env x = pure x:=by intro _;rfl):PDS X (.For (.Tuple elts kk tpos) (.Call (.Name "enumerate" p) [a] [] pos') body [] pos) (aF1 ta g tb) :=
 iL (aA1 hp hc (aIX hgl hmg ha hse) hg hb hs) fun E σ H ⟨ρ,M,Dn,re,hm,q,k⟩=>⟨ρ,M,_,re,hm,q,fun vs H1 ⟨ds,M1,rs,hm1,ex,q1⟩=>by
  match ds,q1 with
  | [.ref l],q1 =>
   obtain ⟨xs,a1,q1⟩:=q1
   obtain ⟨v1,rfl,rv1⟩:=fD rs
   obtain rfl:=bE rv1
   obtain ⟨us,hu,r1⟩:=hm1.l l xs a1
   exact ⟨l,us,rfl,.of hu,aLV ex (re.ext ex) hm1 k q1 aOR⟩⟩
variable {scope:Scope} {N':List Str} {fr:List (Option Nat)} {oN:List Str} {osc:Scope}
end
section
variable {prog:Program} {w:World} {A:Around} {E:Value->Shared->Prop} {s:Shared}
end
section
variable {X:Cx} {pos:Pos}
theorem aCu {K:Frag} {H:Hp} {ds:List D} {vs:List V} (r:bZ K H ds vs):∀ k:Nat,bZ K H (replicate k ds).flatten (replicate k vs).flatten
 | 0=>cP
 | k + 1=>by rw [replicate_succ,flatten_cons,replicate_succ,flatten_cons];exact r.append (aCu r k)
theorem aB8 {vs:List V} {us:List Value} (r:cG vs us):∀ k:Nat,cG (replicate k vs).flatten (replicate k us).flatten
 | 0=>.nil
 | k + 1=>by rw [replicate_succ,flatten_cons,replicate_succ,flatten_cons];exact r.append (aB8 r k)
theorem aEu (its:List Value) (k:Nat):(replicate k its.toArray).foldl (· ++ ·) #[] = (replicate k its).flatten.toArray:=by
 have g:∀ (k:Nat) (acc:List Value),(replicate k its.toArray).foldl (· ++ ·) acc.toArray = (acc ++ (replicate k its).flatten).toArray:=fun k=>by
  induction k with
  | zero=>intro acc;simp
  | succ k ih =>
   intro acc
   rw [replicate_succ,foldl_cons,List.append_toArray,ih,replicate_succ,flatten_cons,append_assoc]
 exact g k []
def aHD (w:World) (K:Frag) (mg:Str->Option Value) (x:Str) (names:List (Str × Str)):Prop :=
 ∃ a es ep,mg x = some (.ref a)/\K.lookup a = some ⟨.type "dict",none,.dict es ep,#[]⟩/\KeysLit w.params es.toList/\∀ k n,names.lookup k = some n->∃ f,nsIn K a k = some (some (.ref f))/\mg n = some (.ref f)
def aJK (mg:Str->Option Value) (names:List (Str × Str)) (ti:DE):DE:=fun ρ M Q=>ti ρ M fun d M1=>match d with
 | .str k=>∃ n,names.lookup k = some n/\∀ f,mg n = some (.ref f)->Q (.ref f) M1
 | _=>False
theorem aKM {x:Str} {names:List (Str × Str)} {p:Pos} {i:Expr} {ti:DE} (T:aHD X.w X.K X.mg x names) (hi:PDE X i ti) (hg:Gl X x:=by rfl) (hd:(x == ("__debug__":Str)) = false:=by decide) (hs:sV i:=by intro _ _;rfl) :
  PDE X (.Subscript (.Name x p) i pos) (aJK X.mg names ti):=by
 obtain ⟨a,es,ep,hm,hk,ks,look⟩:=T
 intro pins s σ H Q I ⟨ρ,M,Q',re,hm',q,kq⟩
 refine Subscript_ (iK I hg hm ?_ hd)
 refine thn (hi pins s σ H (LQ X.K H fun d M1=>match d with
  | .str k=>∃ n,names.lookup k = some n/\∀ f,X.mg n = some (.ref f)->Q' (.ref f) M1
  | _=>False) I ⟨ρ,M,_,re,hm',q,fun _ _ z=>z⟩) fun u s1 ⟨y,H1,I1,ry,d1,M1,r1,hm1,e1,q1⟩=>?_
 cases d1 with
 | str k =>
  obtain ⟨n,hn,q1⟩:=q1
  obtain ⟨f,hf,hmf⟩:=look k n hn
  rw [bC r1] at ry
  obtain ⟨t,rfl⟩:=ry
  have mo:=mapOf_K (prog:=X.prog) (w:=X.w) I1.kIn hk ks
  refine subscriptTail_builtinR (x:=.ref f) (T:="dict") mo.typeIs PySem.F.slot_dict_getitem.lookup (wpAny_getItem_of (strKind_is X.prog X.w k t) mo (find_K hk hf) ⟨rfl,?_⟩) (hs _ _)
  exact ⟨.ref f,H1,I1.tok _,rfl,kq _ _ ⟨.ref f,M1,gP,hm1,e1,q1 f hmf⟩⟩
 | _=>exact q1.elim
def aDf (P:Program) (w:World) (K:Frag) (mg:Str->Option Value) (base:Heap) (j:Nat) (tf:DE) (ta:DA):DE:=fun ρ M Q=>tf ρ M fun d M1=>match d with
 | .ref f=>∃ n ps sp,mg n = some (.ref f)/\Has P w K mg base j n ps sp/\ta ρ M1 fun ds M2=>sp ds M2 Q
 | _=>False
theorem aHt {x:Str} {p:Pos} {e:Expr} {es:List Expr} {tf:DE} {ta:DA} {j k:Nat} (hf:PDE X (.Name x p) tf) (hr:eD k X.A) (hjk:j<=k) (ha:PDA X (e :: es) ta)
  (he:starEach (e :: es) X.env = (false,eval e X.env) :: starEach es X.env:=by rfl) (hpl:(backTo pos (starEach es X.env)).any (·.1) = false:=by rfl):PDE X (.Call (.Name x p) (e :: es) [] pos) (aDf X.prog X.w X.K X.mg X.base j tf ta):=by
 intro pins s σ H Q I ⟨ρ,M,Q',re,hm',q,kq⟩
 refine wpAny_Call_Name_kw (thn (hf pins s σ H _ I ⟨ρ,M,_,re,hm',q,fun _ _ z=>z⟩) fun u s1 ⟨y,H1,I1,ry,d1,M1,r1,hm1,e1,q1⟩=>?_)
 cases d1 with
 | ref f =>
  obtain ⟨n,ps,sp,hm,⟨f',fd,F,hm2,hk,hb⟩,q1⟩:=q1
  obtain rfl:f = f':=by rw [hm] at hm2;cases hm2;rfl
  rw [bE r1] at ry
  cases ry
  refine callWith_K (h₀:=X.base) I1.ok.mod.kin hk (thn (ha pos pins s1 σ H1 _ I1 ⟨ρ,M1,_,re.ext e1,hm1,q1,fun _ _ z=>z⟩) fun us s2 ⟨vs,H2,I2,r2,ds,M2,rs,hm2,e2,q2⟩=>⟨I2.kIn,?_⟩) he hpl
  exact aCZ F (hr.mono hjk) hb .nil aFn I2 r2 ⟨ds,M2,Q',by rw [append_nil];exact rs,hm2,q2,fun v H' z=>kq v H' (z.back (e1.trans e2))⟩
 | _=>exact q1.elim
end
section
variable {P:Program} {w:World} {K:Frag} {mg:Str->Option Value} {base:Heap}
theorem rQ.mkZ {x c:Str} {C:Addr} {st:Stmt} {N ps:List Str} {k:Nat} {cond:List D->DM->Prop} (h:cE K mg x st ps) (hc:aE4 K mg c C) (S:aR N ps (aH st)) (len:∀ ds M,cond ds M->ds.length = ps.length)
  (hbody:∀ (f:Addr) (cdv:Value) (A:Around) (outer:List Env) (s:Shared) (H:Hp) (ds:List D) (M:DM) (E:XK),eD k (A.deeper (envOfC x (aH st) s.heap.objs.size f cdv))->cond ds M ->
   sN (jR (CXr P w) P w K mg base N x (aH st) f cdv A outer s H E) c (aZ M) ->
   ∃ t,ZSs (jR (CXr P w) P w K mg base N x (aH st) f cdv A outer s H E) (eY st) t/\t { nx:=fun _ _=>False,rt:=fun _ _=>False } (iA N ds) M):rQ P w K mg base (k + 1) x ps C cond :=
 rQ.mk h hc S len fun f cdv A outer s H ds M E hr h hRO=>let ⟨t,h1,h2⟩:=hbody f cdv A outer s H ds M E hr h hRO;⟨t,h1.o,h2⟩
end
end Dd
namespace HT
open PySem PyProof.Rows
section
variable {prog:Program} {w:World} {A:Around} {E:Value->Shared->Prop} {s:Shared}
theorem getItem_tuple_whole {t sl:Addr} {items:Array Value} {vl vu:Value} {lo hi:Option Int} {Q:Value->Shared->Prop} (ht:IsTup s.heap t items) (hs:s.heap.IsSliceOf sl vl vu .none) (pl:IsPart vl lo) (pu:IsPart vu hi)
  (hw:sIx items.size 0 lo = 0/\sIx items.size items.size hi = items.size)
  (h:Q (.ref t) s):wpAny (model prog w) A (getItem (.ref t) (.ref sl)) Q E s:=by
 obtain ⟨os,hos,hcs,hds⟩:=id hs
 have hTs:s.TypeIs (.ref sl) "slice":=⟨os,hos,hcs⟩
 unfold getItem
 try with_reducible refine wpAny_holding ?_
 first | refine wpAny_bind (wpAny_pure ?_) | skip
 refine wpAny_bind (wpAny_sequenceKey ht.typeIs (by decide) ?_)
 refine wpAny_bind (wpAny_callSpecial?_slot (name:=Str.ofString "__getitem__") ht.typeIs PyProof.Rows.slot_tuple_getitem
  (wpAny_call_entry PyProof.Rows.slot_tuple_getitem ht.typeIs entry_tuple_getitem ?_ (args_tuple_getitem _ _)))
 show wpAny _ _ (Builtin.Tuple.tupleItemsOf (.ref t) >>= _) _ _ s
 refine wpAny_bind (tupleItemsOf_ ht ?_)
 refine wpAny_bind (wpAny_typeOf hTs ?_)
 rw [if_pos (by decide)]
 refine wpAny_bind (lQ hs pl pu ?_)
 have hyes:(((sIx items.size 0 lo:Nat):Int) == 0 && (1:Int) == 1 && (sIx items.size items.size hi - sIx items.size 0 lo) == items.size) = true:=by
  rw [hw.1,hw.2];simp
 show wpAny _ _ (if (((sIx items.size 0 lo:Nat):Int) == 0 && (1:Int) == 1 && (sIx items.size items.size hi - sIx items.size 0 lo) == items.size) = true then _ else _) _ _ s
 rw [if_pos hyes]
 obtain ⟨ot,hot,hct,n,hdt⟩:=id ht
 wp_walk
 first
  | exact ⟨_,rfl,wpAny_pure h⟩
  | exact ⟨_,rfl,h⟩
  | exact h
end
end HT
namespace L2
open PySem PySem.Spec PyProof.Rows
variable {X:Cx}
def aPc (K:Frag):V->Option Int->Option Int->Hp->VK->Prop:=fun x lo hi H Q=>∃ a xs,x = .ref a/\SqT K H a xs /\
 (HT.sIx xs.length 0 lo = 0/\HT.sIx xs.length xs.length hi = xs.length)/\Q (.ref a) H
theorem aG4:SlR X (aPc X.K):=by
 intro pins s σ H x v vl vu lo hi sl Q I rx hs pl pu h
 obtain ⟨a,xs,rfl,hx,hw,q⟩:=h
 cases rx
 obtain ⟨its,r,ht,hz⟩:=I.tuple hx
 have hlen:its.toArray.size = xs.length:=by rw [size_toArray];exact r.length.symm
 refine ⟨"tuple",_,PyProof.Rows.slot_tuple_getitem.lookup,ht.typeIs,?_⟩
 exact HT.getItem_tuple_whole ht hs pl pu (by rw [hlen];exact hw) ⟨.ref a,H,I,rfl,q⟩
end L2
namespace Dd
open PySem PySem.Spec PyProof.Rows L2
section
variable {X:Cx} {e:Expr} {te:DE} {pos p2:Pos} {lo hi:Option Expr} {tl th:DO}
def aJw (x:D) (lo hi:Option Int) (M:DM) (Q:DQ):Prop:=match x with
 | .tup ds=>Q (.tup (cutD ds lo hi)) M
 | _=>False
def aJ2 (te:DE) (tl th:DO):DE:=fun ρ M Q=>te ρ M fun x M1=>tl ρ M1 fun l M2=>th ρ M2 fun h M3=>aJw x l h M3 Q
theorem aEC {ds:List D} {lo hi:Option Int} (h:HT.sIx ds.length 0 lo = 0/\HT.sIx ds.length ds.length hi = ds.length):cutD ds lo hi = ds:=by
 unfold cutD
 rw [h.1,h.2];simp
theorem aEt (he:PDE X e te) (hl:PO X lo (xQ X.K tl)) (hu:PO X hi (xQ X.K th)):PDE X (.Subscript e (.Slice lo hi none p2) pos) (aJ2 te tl th) :=
 cO (yN (SlR.or aKl aG4) he hl hu) fun σ H Q ⟨ρ,M,Q',re,hm,q,k⟩=>⟨ρ,M,_,re,hm,q,fun v H1 ⟨d,M1,rd,hm1,e1,q1⟩=>⟨ρ,M1,_,re.ext e1,hm1,q1,fun l H2 ⟨M2,hm2,e2,q2⟩=>⟨ρ,M2,_,(re.ext e1).ext e2,hm2,q2,fun h H3 ⟨M3,hm3,e3,q3⟩=>by
  have rd3:=(rd.ext e2).ext e3
  have ex:=(e1.trans e2).trans e3
  cases d with
  | tup ds =>
   obtain ⟨a,us,rfl,sq,ru⟩:=cM rd3
   have l1:=ru.length
   have q3:Q' (.tup (cutD ds l h)) M3:=q3
   by_cases hw:HT.sIx ds.length 0 l = 0/\HT.sIx ds.length ds.length h = ds.length
   ·rw [aEC hw] at q3
    exact .inr ⟨a,us,rfl,sq,by rw [<- l1];exact hw,k _ _ ⟨.tup ds,M3,cI sq ru,hm3,ex,q3⟩⟩
   ·exact .inl ⟨a,us,rfl,sq,by rw [<- l1];exact hw,fun p hp=>k _ _ ⟨.tup _,M3,cI (.of dN) ((yQ ru l h).ext (Ext.new hp _)),hm3.new hp _,ex.trans (Ext.new hp _),q3⟩⟩
  | _=>exact q3.elim⟩⟩⟩
end
section
variable {X:Cx} {pins:List (Addr × Obj)} {σ:L2.St} {H:Hp} {s:Shared} {M:Model} {A:Around} {E:Value->Shared->Prop} {e T:Addr} {cls:Value}
end
section
variable {X:Cx} {e:Expr} {es:List Expr} {t:DA} {f:Str} {ps:List Str} {cond:List D->DM->Prop} {C:Addr} {k1 k:Nat} {V:DM->Prop} {pf pc:Pos}
end
section
variable {P:Program} {w:World} {K:Frag} {mg:Str->Option Value} {base:Heap}
theorem Has.never {x:Str} {st:Stmt} {N ps:List Str} (h:cE K mg x st ps) (S:aR N ps (aH st)) (k:Nat):Has P w K mg base (k + 1) x ps (fun _ _ _=>False) :=
 Has.mk h S (fun _ _ _ z=>z.elim) fun _ _ _ _ _ _ _ _ _ _ _ z=>z.elim
theorem Has.mono {x:Str} {ps:List Str} {k k':Nat} {sp:DSp} (h:Has P w K mg base k x ps sp) (l:k<=k'):Has P w K mg base k' x ps sp:=by
 obtain ⟨f,fd,F,hm,hk,hb⟩:=h
 exact ⟨f,fd,F.mono l,hm,hk,hb⟩
end
section
variable {X:Cx} {a:Expr} {e tg:Expr} {es:List Expr} {t:DA} {g:DG} {f n cm:Str} {ps:List Str} {sp:DSp} {cond:List D->DM->Prop} {C Cm:Addr} {k1 k2 k j:Nat} {ts:Addr->DS} {b0:Stmt} {suite:List Stmt} {pf pc pa pcm ph pos:Pos}
end
open PySem.AutoSeq1 (wpAny_loadPart')
theorem aBL (l b:Addr) (items items2:Array Value) (n n2:Nat) (dd dd2:Option Addr) (sl sl2:Array (Option Value)) (hc0:items.isEmpty = true) :
  Meets (Builtin.«tuple.__add__» ⟨[.ref l,.ref b],[]⟩) (fun _ R s=>s.heap.get? l = some { cls:=.type "tuple",dict:=dd,data:=.seq items n,slots:=sl }/\s.heap.get? b = some { cls:=.type "tuple",dict:=dd2,data:=.seq items2 n2,slots:=sl2 }/\R (.ok (.ret (Value.ref b))) { s with heap:=s.heap,toks:=s.toks }) :=
 .of_wp fun prog w A R s h=>by obtain ⟨hp,g,d,tk,os⟩:=s;obtain ⟨hl,hb,h⟩:=h;have f1:=AutoSeq1.idx_int;have f2:=AutoSeq1.sub_tuple_tuple;have f3:=AutoSeq1.sub_list_list;have f4:=AutoSeq1.sub_tuple_list;have f5:=AutoSeq1.sub_list_tuple;wp_walk using wpAny_loadPart' hl,wpAny_loadPart' hb;exact ⟨_,rfl,h⟩
section
variable {X:Cx}
def aGB:D2:=fun x y M Q=>match x,y with
 | .tup xs,.tup ys=>xs.length + ys.length<=1000/\Q (.tup (xs ++ ys)) M
 | _,_=>False
theorem iV:OpD X (binaryOp .Add) aGB:=by
 intro pins s σ H x y v u Q I rx ry ⟨dx,dy,M,Q',r1,r2,hm,q,k⟩
 match dx,dy,q with
 | .tup xs,.tup ys,q =>
  obtain ⟨hl,q⟩:=q
  obtain ⟨a,us,rfl,sq,ru⟩:=cM r1
  obtain ⟨b,ws,rfl,sq2,rw'⟩:=cM r2
  have l3:=ru.length
  have l4:=rw'.length
  by_cases n1:us = []
  ·have nx:xs = []:=List.length_eq_zero_iff.mp (by rw [l3,n1];rfl)
   rw [nx] at q
   cases rx
   cases ry
   obtain ⟨its,r5,p1,_⟩:=I.tuple sq
   obtain ⟨its2,r6,p2,_⟩:=I.tuple sq2
   obtain ⟨⟨cls,dd,data,sl⟩,ho,hc,n,hd⟩:=id p1
   obtain ⟨⟨cls2,dd2,data2,sl2⟩,ho2,hc2,n2,hd2⟩:=id p2
   simp only at hc hd hc2 hd2
   subst hc hd hc2 hd2
   have e0:its = []:=List.length_eq_zero_iff.mp (by rw [<- r5.length,n1];rfl)
   exact concat_meets ⟨_,ho,rfl⟩ ⟨_,ho2,rfl⟩ noFill_tuple_add seq_tuple_add PySem.F.slot_tuple_add PySem.F.entry_tuple_add (PySem.F.args_tuple_add_2 _ _)
    (aBL a b its.toArray its2.toArray n n2 dd dd2 sl sl2 (by rw [e0];rfl)) ⟨ho,ho2,.ref b,H,I,rfl,k _ H ⟨.tup ys,M,cI sq2 rw',hm,.refl H,q⟩⟩
  ·refine aD6 pins s σ H _ _ v u Q I rx ry ?_
   refine ⟨a,b,us,ws,rfl,rfl,sq,sq2,n1,by rw [<- l3,<- l4];exact Nat.le_of_lt (fA hl),fun z=>?_,fun _ p hp=>k _ _ ⟨.tup _,M,cI (.of dN) ((ru.append rw').ext (Ext.new hp _)),hm.new hp _,Ext.new hp _,q⟩⟩
   have ny:ys = []:=List.length_eq_zero_iff.mp (by rw [l4,z];rfl)
   rw [ny,append_nil] at q
   exact k _ H ⟨.tup xs,M,cI sq ru,hm,.refl H,q⟩
end
section
variable {X:Cx} {pins:List (Addr × Obj)} {σ:L2.St} {H:Hp} {s:Shared}
end
section
variable {X:Cx} {pos:Pos}
end
section
variable {X:Cx} {pos:Pos} {iter tg:Expr} {body:List Stmt} {tl:DE} {g:DG} {tb:DS} {ta:DA}
end
section
variable {X:Cx} {pos:Pos} {iter tg:Expr} {body:List Stmt} {tl:DE} {g:DG} {tb:DS} {ta:DA}
end
section
variable {X:Cx} {pos:Pos} {iter tg elt:Expr} {body:List Stmt} {tl te:DE} {g:DG} {tb:DS} {ta:DA}
theorem aBG {elts:List Expr} {kk:Nat} {tpos:Pos} {a:Expr} {p pos':Pos} (hp:PassesOwn (model X.prog X.w) X.A X.env X.xe) (hc:X.calm = true) (hmg:X.mg "enumerate" = none) (ha:ZA X [a] ta) (hg:ZG X (.Tuple elts kk tpos) g) (hb:ZSs X body tb) (hgl:Gl X "enumerate":=by rfl) (hse:starEach [a] X.env = [(false,eval a X.env)]:=by rfl) (hs:∀ x,foldedSetIterable (.Call (.Name "enumerate" p) [a] [] pos') X.env x = pure x:=by intro _;rfl):ZS X (.For (.Tuple elts kk tpos) (.Call (.Name "enumerate" p) [a] [] pos') body [] pos) (aF1 ta g tb):=.i (aHS hp hc hmg ha.o hg.o hb.o hgl hse hs)
variable {scope:Scope} {N':List Str} {fr:List (Option Nat)} {oN:List Str} {osc:Scope}
end
section
variable {prog:Program} {w:World} {A:Around} {E:Value->Shared->Prop} {s:Shared}
end
section
variable {X:Cx} {pos:Pos}
theorem aIH {x:Str} {names:List (Str × Str)} {p:Pos} {i:Expr} {ti:DE} (T:aHD X.w X.K X.mg x names) (hi:ZE X i ti) (hg:Gl X x:=by rfl) (hd:(x == ("__debug__":Str)) = false:=by decide) (hs:sV i:=by intro _ _;rfl):ZE X (.Subscript (.Name x p) i pos) (aJK X.mg names ti):=.i (aKM (i:=i) T hi.o hg hd hs)
theorem aEy {x:Str} {p:Pos} {e:Expr} {es:List Expr} {tf:DE} {ta:DA} {j k:Nat} (hf:ZE X (.Name x p) tf) (hr:eD k X.A) (hjk:j<=k) (ha:ZA X (e :: es) ta) (he:starEach (e :: es) X.env = (false,eval e X.env) :: starEach es X.env:=by rfl) (hpl:(backTo pos (starEach es X.env)).any (·.1) = false:=by rfl):ZE X (.Call (.Name x p) (e :: es) [] pos) (aDf X.prog X.w X.K X.mg X.base j tf ta):=.i (aHt (j:=j) (k:=k) hf.o hr hjk ha.o he hpl)
end
section
variable {P:Program} {w:World} {K:Frag} {mg:Str->Option Value} {base:Heap}
end
section
variable {X:Cx} {e:Expr} {te:DE} {pos p2:Pos} {lo hi:Option Expr} {tl th:DO}
theorem qP (he:ZE X e te) (hl:ZO X lo tl) (hu:ZO X hi th):ZE X (.Subscript e (.Slice lo hi none p2) pos) (aJ2 te tl th):=.i (aEt he.o hl.o hu.o)
end
section
variable {X:Cx} {pins:List (Addr × Obj)} {σ:L2.St} {H:Hp} {s:Shared} {M:Model} {A:Around} {E:Value->Shared->Prop} {e T:Addr} {cls:Value}
end
section
variable {X:Cx} {e:Expr} {es:List Expr} {t:DA} {f:Str} {ps:List Str} {cond:List D->DM->Prop} {C:Addr} {k1 k:Nat} {V:DM->Prop} {pf pc:Pos}
end
section
variable {P:Program} {w:World} {K:Frag} {mg:Str->Option Value} {base:Heap}
end
section
variable {X:Cx} {a:Expr} {e tg:Expr} {es:List Expr} {t:DA} {g:DG} {f n cm:Str} {ps:List Str} {sp:DSp} {cond:List D->DM->Prop} {C Cm:Addr} {k1 k2 k j:Nat} {ts:Addr->DS} {b0:Stmt} {suite:List Stmt} {pf pc pa pcm ph pos:Pos}
end
section
variable {X:Cx}
end
section
variable {X:Cx} {pins:List (Addr × Obj)} {σ:L2.St} {H:Hp} {s:Shared}
def aNQ:D2:=fun x y M Q=>match x,y with
 | .ref a,.ref b=>∃ xs,M a = some xs/\M b = some []/\Q (.bl (!xs.isEmpty)) M
 | _,_=>False
theorem aAr {k:Nat} (hr:eD k X.A):OpD X (compareOp .NotEq) aNQ:=fun pins s σ H x y v u Q I rx ry ⟨dx,dy,M,Q',r1,r2,hm,q,k⟩=>by
 match dx,dy,q with
 | .ref a,.ref b,q =>
  obtain ⟨xs,ha,hb,q⟩:=q
  obtain rfl:=bE r1
  obtain rfl:=bE r2
  cases rx
  cases ry
  have un:=hr.un
  obtain ⟨us,hua,ru⟩:=hm.l a xs ha
  obtain ⟨ws,hub,rw'⟩:=hm.l b [] hb
  obtain ⟨z,its,nn,rr,hl,e⟩:=I.lstM hua
  obtain ⟨z2,its2,n2,r3,hl2,ee2⟩:=I.lstM hub
  have i1:s.heap.IsList a its.toArray:=⟨_,e,rfl,_,rfl⟩
  have i2:s.heap.IsList b its2.toArray:=⟨_,ee2,rfl,_,rfl⟩
  have l3:=ru.length
  have l4:=rw'.length
  have l5:=rr.length
  have l6:=r3.length
  have l7:its2.length = 0:=by rw [<- l6,<- l4];rfl
  have fin:Q (.bl (!xs.isEmpty)) H:=k _ H ⟨_,M,eB,hm,.refl H,q⟩
  cases xs with
  | nil =>
   have l8:its.length = 0:=by rw [<- l5,<- l3];rfl
   have:=SeqAt.RcNeAt.lists (A:=X.A) (e:=fun _=>true) i1 i2 (by rw [size_toArray,size_toArray];omega) (by omega) fun j j1 _=>absurd j1 (by rw [size_toArray];omega)
   rw [show (range its.toArray.size).all (fun _=>true) = true by simp] at this
   exact this X.prog X.w X.xe _ ⟨.bl (!true),H,I,rfl,fin⟩
  | cons d ds =>
   have l8:its.length = ds.length + 1:=by rw [<- l5,<- l3];rfl
   have:=SeqAt.RcNeAt.lists_lengths (A:=X.A) i1 i2 (by rw [size_toArray,size_toArray];simp;omega) (by omega)
   exact this X.prog X.w X.xe _ ⟨.bl (!false),H,I,rfl,fin⟩
end
def Cm (M:DM):Nat->D->D->Bool->Prop
 | 0,d,d',b=>bR 0 d = true/\bR 0 d' = true/\b = eqD d d'
 | n + 1,d,d',b=>match d,d' with
  | .tup xs,.tup ys=>∃ e:Nat->Bool,(∀ j x y,xs[j]? = some x->ys[j]? = some y->Cm M n x y (e j))/\b = ((range (min xs.length ys.length)).all e && xs.length == ys.length)
  | .ref a,.ref a'=>∃ xs ys,M a = some xs/\M a' = some ys/\a ≠ a'/\(xs.length = ys.length->∃ e:Nat->Bool,(∀ j x y,xs[j]? = some x->ys[j]? = some y->Cm M n x y (e j))/\b = (range xs.length).all e)/\(xs.length ≠ ys.length->b = false)
  | d,d'=>bR 0 d = true/\bR 0 d' = true/\b = eqD d d'
section
variable {X:Cx} {pins:List (Addr × Obj)} {σ:L2.St} {H:Hp} {s:Shared} {M:DM}
end
section
variable {X:Cx}
end
noncomputable def aMU (w:World) (kvs:List (Str × D)):List D:=kvs.map fun p=>.tup [.int (hashStr w p.1),.str p.1,p.2]
section
variable {X:Cx} {pins:List (Addr × Obj)} {σ:L2.St} {H:Hp} {s:Shared}
end
section
variable {X:Cx} {pos:Pos}
end
section
variable {X:Cx} {pins:List (Addr × Obj)} {σ:L2.St} {H:Hp} {s:Shared}
end
section
variable {X:Cx} {pos:Pos}
end
def FK (K:Frag) (x:Str) (f:Addr) (st:Stmt):Prop:=nsIn K mainGlobals x = some (some (.ref f))/\∃ fd,L2.Fun K x x st f fd
theorem FK.has {K:Frag} {mg:Str->Option Value} {h:Heap} {x:Str} {f:Addr} {st:Stmt} {ps:List Str} (b:FK K x f st) (X:K.In h) (G:h.Ns mainGlobals mg)
  (r:∀ (kV doc pm:Value) (an:Option Addr) (cdv ct:Value) (us:List Value),us.length = ps.length->bindArgs (fnOf x x (mV st) (eY st) (aH st) .none kV doc pm an cdv ct) ⟨us,[]⟩ = pure (ps.zip us)):cE K mg x st ps :=
 let ⟨a,_,F⟩:=b;⟨_,_,F,mg_of X G a,F.binds r⟩
section
variable {X:Cx} {pos:Pos} {st:Stmt} {t1 t2:DS} {iter tg:Expr} {body:List Stmt} {tl:DE} {g:DG} {tb:DS}
theorem PDS.or (h1:PDS X st t1) (h2:PDS X st t2):PDS X st (fun E ρ M=>t1 E ρ M ∨ t2 E ρ M) :=
 fun a b c d e f ⟨ρ,M,Dn,re,hm,q,k⟩=>q.elim (fun q=>h1 a b c d e f ⟨ρ,M,Dn,re,hm,q,k⟩) fun q=>h2 a b c d e f ⟨ρ,M,Dn,re,hm,q,k⟩
def aNt:D2:=fun x y M Q=>match x,y with
 | .ref a,.int n=>∃ ds,M a = some ds/\ds ≠ []/\-(2 ^ 62)<=n/\n < 2 ^ 62/\ds.length * n.toNat<=1000/\∀ p:Addr,M p = none->Q (.ref p) (bH M p (replicate n.toNat ds).flatten)
 | _,_=>False
theorem aIa:OpD X (binaryOp .Mult) aNt:=by
 intro pins s σ H x y v u Q I rx ry ⟨dx,dy,M,Q',r1,r2,hm,q,k⟩
 match dx,dy,q with
 | .ref a,.int n,q =>
  obtain ⟨ds,ha,ne,h1,h2,hz,q⟩:=q
  obtain ⟨vs,hu,rs⟩:=hm.l a ds ha
  obtain rfl:=bE r1
  obtain rfl:=aT r2
  cases rx
  obtain ⟨t,rfl⟩:=ry
  obtain ⟨z,its,m,rv,hl2,ho⟩:=I.lstM hu
  have l1:=rs.length
  have l2:=rv.length
  have hs:=fA hz
  have he:its.toArray.isEmpty = false:=by
   cases its with
   | nil=>exact absurd (List.length_eq_zero_iff.mp (by rw [l1,l2];rfl)) ne
   | cons a b=>rfl
  have hz':its.toArray.size * n.toNat<=sizeLine:=by rw [size_toArray,<- l2,<- l1];exact Nat.le_of_lt hs
  refine wpAny_binaryOp_repeat_ref (T:="list") (U:="int") (by decide) ⟨_,ho,rfl⟩ (fun s'=>typeIs_int s' n t) noFill_list_mul F.fills_int_mul F.slot_int_rmul repeat_list F.slot_int_index.lookup
   (call_meets F.slot_int_rmul (typeIs_int s n t) F.entry_int_rmul (F.args_int_rmul_2 _ _) (int___rmul___int_list n t a its.toArray m) ⟨ho,rfl,⟨_,ho,rfl⟩,?_⟩)
  refine call_meets F.slot_list_mul ⟨_,ho,rfl⟩ F.entry_list_mul (F.args_list_mul_2 _ _) (AutoListH.list___mul___list_int_3 a its.toArray m n t (by simp [Builtin.List.listFitsIndex];omega) (by simp [sizeLine] at hz';simp;omega) (by simp [Builtin.List.listTooLong];exact by simpa using hz')) ⟨ho,?_⟩
  rw [he]
  simp only [Bool.false_eq_true,if_false]
  have ef:=aEu its n.toNat
  rw [show (foldl (fun x1 x2=>x1 ++ x2) #[] (replicate n.toNat its.toArray)) = (replicate n.toNat its).flatten.toArray from ef]
  have hl:(replicate n.toNat its).flatten.length<=sizeLine:=by
   rw [L2.len_rep]
   rw [size_toArray,Nat.mul_comm] at hz';exact hz'
  exact ⟨.ref _,_,I.lnew (t':=s.toks) (aB8 rv n.toNat) (by rw [L2.len_rep,l2,<- L2.len_rep];exact hl),rfl,k _ _ ⟨.ref _,_,gP,hm.lnew I.fresh (aCu rs n.toNat),Ext.new I.fresh _,q _ (hm.fresh I.fresh)⟩⟩
end
section
variable {X:Cx} {pos:Pos} {st:Stmt} {t1 t2:DS} {iter tg:Expr} {body:List Stmt} {tl:DE} {g:DG} {tb:DS}
end
open Mz
section
variable {prog:Program} {w:World} {A:Around} {I S:Addr} {fp wr:List Addr} {n:Nat} {P:Nat->Value->Prop} {St:Nat->Heap->Prop} {R:Result->Shared->Prop} {dv:Value}
end
section
variable {prog:Program} {w:World} {A:Around} {E:Value->Shared->Prop} {s:Shared} {l:Addr} {xs:Array (Int × Tok)} {dv:Value}
end
section
variable {X:Cx} {pos p kp:Pos} {e d:Expr} {te td:DE}
end
section
variable {X:Cx} {pos:Pos} {iter tg:Expr} {body:List Stmt} {te:DE}
end
section
variable {prog:Program} {w:World} {A:Around} {I S:Addr} {fp wr:List Addr} {n:Nat} {P:Nat->Value->Prop} {St:Nat->Heap->Prop} {R:Result->Shared->Prop} {dv:Value}
end
section
variable {prog:Program} {w:World} {A:Around} {E:Value->Shared->Prop} {s:Shared} {l:Addr} {xs:Array (Int × Tok)} {dv:Value}
end
section
variable {X:Cx} {pos p kp:Pos} {e d:Expr} {te td:DE}
end
section
variable {X:Cx} {pos:Pos} {iter tg:Expr} {body:List Stmt} {te:DE}
end
section
variable {X:Cx} {pos:Pos} {elt iter tg cnd:Expr} {scope:Scope} {N':List Str} {fr:List (Option Nat)} {tl:DE} {oN:List Str} {osc:Scope} {g:DG} {tc:DT} {te:DE} {e:Expr} {t1 t2:DE}
end
section
variable {X:Cx} {pos:Pos} {elt iter tg cnd:Expr} {scope:Scope} {N':List Str} {fr:List (Option Nat)} {tl:DE} {oN:List Str} {osc:Scope} {g:DG} {tc:DT} {te:DE} {e:Expr} {t1 t2:DE}
end
section
variable {X:Cx} {a:Expr} {e:Expr} {es:List Expr} {t:DA} {f n cm:Str} {ps:List Str} {sp:DSp} {cond:List D->DM->Prop} {C Cm:Addr} {k1 k2 k j:Nat} {ts:Addr->DS} {b0:Stmt} {suite:List Stmt} {pf pc pa pcm ph pos:Pos}
end
def aMV (b:Bool) (j:Nat) (a:Addr):DE:=fun ρ M Q=>ρ[j]? = some (some (.ref a))/\Q (.bl b) M
section
variable {X:Cx} {n c:Str} {C Cc a:Addr} {o:Obj} {p p1 p2 pos:Pos} {j:Nat}
end
def aLX (t1 t2:DS):DS:=fun E ρ M=>t1 E ρ M ∨ t2 E ρ M
section
variable {X:Cx} {st:Stmt} {t1 t2:DS}
theorem aMS (h1:PDS X st t1) (h2:PDS X st t2):PDS X st (aLX t1 t2):=PDS.or h1 h2
end
section
variable {prog:Program} {w:World} {A:Around} {E:Value->Shared->Prop} {s:Shared}
end
section
variable {X:Cx}
end
def aNG (i:Nat) (te:DE):DS:=fun E ρ M=>match ρ[i]? with
 | some (some d)=>te ρ M fun y M1=>aGB d y M1 fun r M2=>E.nx (ρ.set i (some r)) M2
 | _=>False
section
variable {X:Cx} {e:Expr} {te:DE} {x:Str} {pos:Pos}
end
section
variable {X:Cx} {a:Expr} {e:Expr} {es:List Expr} {t:DA} {f n cm:Str} {ps:List Str} {sp:DSp} {cond:List D->DM->Prop} {C Cm:Addr} {k1 k2 k j:Nat} {ts:Addr->DS} {b0:Stmt} {suite:List Stmt} {pf pc pa pcm ph pos:Pos}
end
section
variable {X:Cx} {n c:Str} {C Cc a:Addr} {o:Obj} {p p1 p2 pos:Pos} {j:Nat}
end
section
variable {X:Cx} {st:Stmt} {t1 t2:DS}
theorem wN (h1:ZS X st t1) (h2:ZS X st t2):ZS X st (aLX t1 t2):=.i (aMS h1.o h2.o)
end
section
variable {prog:Program} {w:World} {A:Around} {E:Value->Shared->Prop} {s:Shared}
end
section
variable {X:Cx}
end
section
variable {X:Cx} {e:Expr} {te:DE} {x:Str} {pos:Pos}
end
section
variable {prog:Program} {w:World} {A:Around} {E:Value->Shared->Prop} {s:Shared}
end
def aOi:DSp:=fun ds M Q=>match ds with
 | [.tup [.int a,.int b]]=>Q (.int (if b > a then b else a)) M
 | _=>False
section
variable {X:Cx}
end
section
variable {X:Cx} {o e:Expr} {to te:DE} {pos:Pos}
def aFE (to te:DE):DE:=fun ρ M Q=>to ρ M fun x M1=>match x with
 | .ref p=>(∃ ds,M1 p = some ds)/\jB te mK ρ M1 fun ys M2=>∃ ds y,ys = [y]/\M2 p = some ds/\ds.length < 10000000/\Q .non (bH M2 p (ds ++ [y]))
 | _=>False
def aGq (to te:DE):DE:=fun ρ M Q=>to ρ M fun x M1=>match x with
 | .ref p=>(∃ ds,M1 p = some ds)/\jB te mK ρ M1 fun ys M2=>∃ ds q es,ys = [.ref q]/\M2 p = some ds/\M2 q = some es/\ds.length + es.length<=10000000/\Q .non (bH M2 p (ds ++ es))
 | _=>False
end
section
variable {X:Cx} {pos:Pos}
def aKX:D2:=fun x y M Q=>match x,y with
 | .tup ds,.int k=>-(2 ^ 62)<=k/\k < 2 ^ 62/\ds.length * k.toNat<=10000000/\Q (.tup (replicate k.toNat ds).flatten) M
 | _,_=>False
def aGp:D2:=fun x y M Q=>match x,y with
 | .tup xs,.tup ys=>xs.length + ys.length<=10000000/\Q (.tup (xs ++ ys)) M
 | _,_=>False
end
section
variable {X:Cx}
end
def aK8 (i:Nat) (te:DE):DS:=fun E ρ M=>match ρ[i]? with
 | some (some d)=>te ρ M fun y M1=>aGp d y M1 fun r M2=>E.nx (ρ.set i (some r)) M2
 | _=>False
section
variable {X:Cx} {e:Expr} {te:DE} {x:Str} {pos:Pos}
end
section
variable {X:Cx} {o e:Expr} {to te:DE} {pos:Pos}
end
section
variable {X:Cx} {pos:Pos}
end
section
variable {X:Cx}
end
section
variable {X:Cx} {e:Expr} {te:DE} {x:Str} {pos:Pos}
end
open PySem.W (InstAt findIn clsIn takerIn mroIn looks_findIn looks_clsIn looks_mroIn)
open PySem.Builtin PySem.Builtin.ObjectAttr
noncomputable def aGe:List Value->Bool
 | .ref _ :: r=>aGe r
 | l=>l == bmV
theorem vC (self:Value):∀ {l:List Value},aGe l = true->refuseLoop self "__setattr__" l = pure ()
 | .ref c :: r,e=>by rw [refuseLoop_ref];exact vC self (l:=r) e
 | [],e=>by cases (show (([]:List Value) == bmV) = true from e)
 | .none :: r,e=>by cases (show ((Value.none :: r) == bmV) = true from e)
 | .ellipsis :: r,e=>by cases (show ((Value.ellipsis :: r) == bmV) = true from e)
 | .notImplemented :: r,e=>by cases (show ((Value.notImplemented :: r) == bmV) = true from e)
 | .bool b :: r,e=>by cases (show ((Value.bool b :: r) == bmV) = true from e)
 | .int i t :: r,e=>by cases (show ((Value.int i t :: r) == bmV) = true from e)
 | .float i t :: r,e=>by cases (show ((Value.float i t :: r) == bmV) = true from e)
 | .str i t :: r,e=>by cases (show ((Value.str i t :: r) == bmV) = true from e)
 | .bytes i t :: r,e=>by cases (show ((Value.bytes i t :: r) == bmV) = true from e)
 | .builtin n :: r,e=>by cases (show ((Value.builtin n :: r) == bmV) = true from e)
 | .type n :: r,e=>by
  have z:(Value.type n :: r) = bmV:=beq_iff_eq.mp e
  rw [z]
  exact PySem.F.store_ValueError.passes self
structure vR (K:Frag) (C:Addr) (f:Str):Prop where
 sa:findIn K (.ref C) "__setattr__" = some (some (.builtin "object.__setattr__"))
 cd:∃ cd,clsIn K C = some cd/\aGe cd.mro = true/\cd.hasDict = true
 mo:mroIn K C (.type "object") = some true
 no:findIn K (.ref C) f = some none
section
variable {K:Frag} {prog:Program} {w:World} {A:Around} {E:Value->Shared->Prop} {s:Shared} {x C:Addr} {ox:Obj} {name:Str} {v:Value}
theorem aIL {tk:Tok} {R:Result->Shared->Prop} (X:K.In s.heap) (I:InstAt s.heap x ox C none) (hk:vR K C name)
  (h:∀ b,wpAny (model prog w) A.in1 (storeInOwnDict (.ref x) (.ref C) (.str name tk) name v b)
   (fun fin s'=>match fin with | .done f=>R (.ok f) s' | .again c'=>c'.quiet = true/\codeAny (model prog w) A c' R s') (fun e s'=>R (.error e) s') s) :
  codeAny (model prog w) A (.call (.builtin "object.__setattr__") ⟨[.ref x,.str name tk,v],[]⟩) R s:=by
 have SF:=PySem.F.store_object
 obtain ⟨cd,hc,ho,_⟩:=hk.cd
 have sub:Looks (model prog w) s.heap (isInstance (.ref x) (.type "object")) true:=I.type.andThen (looks_mroIn X hk.mo)
 refine codeAny_call_builtin SF.slot.plain SF.entry (@PySem.W.check_slot (model prog w) _ _ s "object.__setattr__" "object" "__setattr__" (.ref x) [.str name tk,v] [] _ SF.kind SF.split sub (SF.args (.ref x) (.str name tk) v) ?_)
 have hm:Looks (model prog w) s.heap (mroOf (.ref C)) cd.mro:=(looks_clsIn X hc).andThen .now
 rw [PySem.W.osa_eq,refuse_eq]
 refine wpAny_bind (wpAny_bind (I.type.here (wpAny_bind (hm.here ?_))))
 rw [vC _ ho]
 exact wpAny_pure (wpAny_bind (I.type.here (wpAny_bind ((looks_findIn X hk.no).here (wpAny_bind (wpAny_pure (h _)))))))
theorem aLL {Q:Unit->Shared->Prop} (X:K.In s.heap) (I:InstAt s.heap x ox C none) (hk:vR K C name) (hd:ox.dict = none)
  (h:∀ h' tk oD,h'.get? s.heap.objs.size = some oD->h'.Ns1 s.heap.objs.size (fun y=>if y = name then some v else none)->h'.get? x = some { ox with dict:=some s.heap.objs.size }->(∀ b o,b ≠ x->s.heap.get? b = some o->h'.get? b = some o)->Q () { s with heap:=h',toks:=tk }) :
  wpAny (model prog w) A (setAttr (.ref x) name v) Q E s:=by
 refine PySem.W.set_plain X I hk.sa (aIL (s:={ s with toks:=s.toks + 1 }) X I hk fun b=>?_)
 obtain ⟨cd,hc,_,hcd⟩:=hk.cd
 obtain ⟨hx,hcl,hn,-⟩:=I
 obtain ⟨hh,g,d,t,os⟩:=s
 obtain ⟨oc,odi,oda,osl⟩:=ox
 dsimp only at hcl hd hx h
 subst hcl hd
 have hxs:x ≠ hh.objs.size:=Nat.ne_of_lt (Heap.lt_size hx)
 refine wpAny_bind (wpAny_pure (wpAny_bind (wpAny_bind (wpAny_loadPart hx (wpAny_bind (PySem.W.Looks.here (s:=⟨hh,g,d,t + 1,os⟩) (looks_clsIn X hc) ?_))))))
 rw [hcd]
 have nc:∀ c,oda ≠ .cls c:=fun c z=>by
  unfold PySem.W.notCls at hn
  rw [z] at hn;cases hn
 rw [if_neg (by decide)]
 dsimp only
 rw [if_neg (by simp [typeHasDict])]
 split
 ·exact absurd rfl (nc _)
 have hx1:(hh.push { cls:=.type "dict",data:=.dict #[] }).get? x = some ⟨.ref C,none,oda,osl⟩:=Heap.get?_push_of_some _ hx
 refine wpAny_bind (wpAny_alloc' (wpAny_bind (wpAny_update' hx1 (wpAny_pure ?_))))
 have hgd:((hh.push { cls:=.type "dict",data:=.dict #[] }).update x fun o=>{ cls:=o.cls,dict:=some hh.objs.size,data:=o.data,slots:=o.slots }).get? hh.objs.size = some { cls:=.type "dict",data:=.dict #[] } :=
  (Heap.get?_update_ne _ _ _ _ (Ne.symm hxs)).trans (Heap.get?_push_at rfl rfl)
 have hgx:((hh.push { cls:=.type "dict",data:=.dict #[] }).update x fun o=>{ cls:=o.cls,dict:=some hh.objs.size,data:=o.data,slots:=o.slots }).get? x = some ⟨.ref C,some hh.objs.size,oda,osl⟩:=by
  refine Heap.get?_update_self _ hx1 ?_
  have hfr:=(Heap.get?_some_iff.mp hx).2
  cases oda<;>first | rfl | exact hfr
 have hgb:∀ b o,b ≠ x->hh.get? b = some o->((hh.push { cls:=.type "dict",data:=.dict #[] }).update x fun o=>{ cls:=o.cls,dict:=some hh.objs.size,data:=o.data,slots:=o.slots }).get? b = some o:=fun b o n e =>
  (Heap.get?_update_ne _ _ _ _ n).trans (Heap.get?_push_of_some _ e)
 generalize (hh.push { cls:=.type "dict",data:=.dict #[] }).update x _ = h1 at hgd hgx hgb ⊢
 have hnd:h1.Ns hh.objs.size (fun _=>none):=⟨_,#[],_,hgd,rfl,fun e he=>absurd he (by simp),fun _=>rfl⟩
 show wpAny _ _ (storeInDict hh.objs.size (.str name t) name v) _ _ _
 unfold storeInDict newKeyGuard
 refine wpAny_bind (wpAny_pure (wpAny_bind (wpAny_nsSet1 (Heap.Ns1.of_empty hnd) fun h' hn' hs=>?_)))
 obtain ⟨oD,esD,epD,hoD,hdD,hcD⟩:=hn'.count (PySem.Within.cons name v PySem.Within.nil)
 refine wpAny_bind (wpAny_lookBehind hoD (by rw [hdD];exact pastItsLine_dict (Nat.le_trans hcD (by rw [length_cons,length_nil,sizeLine_eq];omega))) ?_)
 wp_walk
 exact h h' _ oD hoD hn' ((hs.2 x hxs).trans hgx) fun b o n e=>(hs.2 b (Nat.ne_of_lt (Heap.lt_size e))).trans (hgb b o n e)
theorem aMH {expr:Bool} {oD:Obj} {Q:Value->Shared->Prop} (X:K.In s.heap) (I:InstAt s.heap x ox C (some oD)) (ek:aAV K C) (hk:vR K C name) (hl:lookIn name oD = some (some v)) (hv:handedOut v = pure v)
  (h:∀ tk,Q v { s with toks:=tk }):wpAny (model prog w) A (getAttr (.ref x) name expr) Q E s:=by
 obtain ⟨hh,g,d,t,os⟩:=s
 obtain ⟨cd,hc,_,hcd⟩:=hk.cd
 have L0:=I.type (M:=model prog w)
 have L1:=looks_findIn (M:=model prog w) X ek.ga
 unfold getAttr getAttrBy
 refine wpAny_bind (wpAny_mkText ?_)
 refine wpAny_holding (wpAny_bind (L0.at (wpAny_bind (L1.at ?_))))
 have hx2:(onTheHeap (Value.ref C) && Value.builtin "BaseException.__getattribute__" == Value.builtin "object.__getattribute__") = false:=by
  rw [show (Value.builtin "BaseException.__getattribute__" == Value.builtin "object.__getattribute__") = false by decide +kernel,Bool.and_false]
 dsimp only
 rw [if_neg (by rw [hx2];exact Bool.false_ne_true)]
 have f3:=PySem.F.attr_ValueError.ga.bind (.ref x)
 have L2:=looks_findIn (M:=model prog w) X ek.gn
 have L3:=looks_mroIn (M:=model prog w) X ek.mb
 have hf:PySem.W.findObj K C (some oD) name = some (.value v):=by
  unfold PySem.W.findObj PySem.W.ownOf
  rw [hc,Option.bind_some,hk.no,Option.bind_some]
  simp [hcd,hl]
 have L4:=PySem.W.looks_find (M:=model prog w) X I hf
 unfold getAttrByItsOwn hookBefore callGetattribute
 refine wpAny_bind ?_
 rw [if_pos (show onTheHeap (Value.ref C) = true from rfl)]
 refine L2.at ?_
 refine wpAny_bind (wpAny_attempt (wpAny_holding ?_))
 rw [if_neg (by simp [onTheHeap])]
 unfold boundAndCalled
 rw [f3]
 refine wpAny_bind (wpAny_pure ?_)
 dsimp only [cons_append,nil_append]
 have hk1:builtinKind "BaseException.__getattribute__" = some .slot:=by decide +kernel
 have hsplit:splitId "BaseException.__getattribute__" = some ("BaseException","__getattribute__"):=by decide +kernel
 have ha:=PySem.F.args_bexc_ga (.ref x) (.str name t)
 refine wpAny_call (codeAny_call_builtin PySem.F.attr_ValueError.ga.plain PySem.F.entry_bexc_ga ?_)
 simp only [checkBuiltinCall,hk1,hsplit]
 refine wpAny_bind ?_
 unfold isInstance
 refine wpAny_bind (L0.at ?_)
 refine L3.at ?_
 simp only [Bool.not_true,Bool.false_eq_true,if_false]
 repeat (any_goals (first | assumption | (with_reducible refine L0.at ?_) | (with_reducible refine L4.at ?_) | wp_step))
 exact h _
end
noncomputable def lD (C t:Addr) (od:Option Addr):Obj:={ cls:=.ref C,dict:=od,data:=.fields #[.ref t,.none,.none,.none,.bool false,.none] }
def XO (e C:Addr) (od:Option Addr):Heap->Prop:=fun h=>∃ t,h.get? e = some (lD C t od)
theorem aJH {P:Program} {w:World} {H:Hp} {h:Heap} {e C:Addr} {od:Option Addr} (x:XO e C od h):fO P w H h e (.ext (XO e C od)) :=
 ⟨x,let ⟨t,q⟩:=x;⟨_,q⟩,fun h1 h2 ⟨t,q⟩ k=>⟨t,k _ q⟩⟩
section
variable {X:Cx} {pins:List (Addr × Obj)} {σ:L2.St} {H:Hp} {s:Shared} {e C:Addr} {f:Str} {y:V} {u:Value}
noncomputable def delH (H:Hp) (e:Addr):Hp:=fun b=>if b = e then none else H b
theorem pW:delH H e e = none:=if_pos rfl
theorem iW {b:Addr} (h:b ≠ e):delH H e b = H b:=if_neg h
theorem _root_.L2.Inv.drop {φ:Heap->Prop} (I:Inv X pins σ H s) (h:H e = some (.ext φ)):Inv X pins σ (delH H e) s:=by
 have out:∀ b o,delH H e b = some o->b ≠ e/\H b = some o:=fun b o q=>by
  by_cases z:b = e
  ·rw [z,pW] at q;cases q
  ·rw [iW z] at q;exact ⟨z,q⟩
 have sub:∀ b,H b = none->delH H e b = none:=fun b q=>by
  unfold delH;split
  ·rfl
  ·exact q
 have nt:∀ b o,H b = some o->(∀ φ,o ≠ .ext φ)->delH H e b = some o:=fun b o q n=>by
  rw [iW (fun z=>by rw [z,h] at q;exact n φ (Option.some.inj q).symm)];exact q
 refine ⟨I.ok,I.os,I.bare,⟨I.base.keep,I.base.slot,fun b o q n hx=>sub b (I.base.free b o q n hx),I.base.there,fun b xs q=>nt b _ (I.base.tups b xs q) (fun φ z=>by cases z),fun b o v q=>nt b _ (I.base.frzs b o v q) (fun φ z=>by cases z),fun b ps q=>?_⟩,I.loc,I.cell,sub _ I.free,fun x c q=>sub c (I.freeC x c q),fun p hp=>?_,fun b o q=>?_,I.len⟩
 ·obtain ⟨m,z⟩:=I.base.tbls b ps q
  exact ⟨m,nt b _ z fun φ z=>by cases z⟩
 ·obtain ⟨a1,a2,a3,a4,a5⟩:=I.pin p hp
  exact ⟨a1,sub _ a2,a3,a4,a5⟩
 ·obtain ⟨ne,q⟩:=out b o q
  refine (I.hok b o q).stay (fun _ _ _ z=>z) (fun c z=>nt c _ z fun φ y=>by cases y) fun c xs z=>nt c _ z fun φ y=>by cases y
theorem aId {A:Around} {E:Value->Shared->Prop} {Q:Unit->Shared->Prop} (I:Inv X pins σ H s) (h0:H e = some (.ext (XO e C none))) (hk:vR X.K C f) (ry:cS y u)
  (h:∀ s' dx,H dx = none->dx ≠ e->Inv X pins σ (upd (upd H dx (.xd [(f,y)])) e (.ext (XO e C (some dx)))) s'->Q () s'):wpAny (model X.prog X.w) A (setAttr (.ref e) f u) Q E s:=by
 obtain ⟨⟨t,he⟩,_,_⟩:=I.hok e _ h0
 have ia:InstAt s.heap e (lD C t none) C none:=⟨he,rfl,rfl,trivial⟩
 refine aLL I.kIn ia hk rfl fun h' tk oD hoD hns hx hb=>?_
 have hlt:e < s.heap.objs.size:=Heap.lt_size he
 have hne:s.heap.objs.size ≠ e:=Nat.ne_of_gt hlt
 have hn:H s.heap.objs.size = none:=I.hok.fresh (Nat.le_refl _)
 have nf:oD.isFreed = false:=(Heap.get?_some_iff.mp hoD).2
 have pg:(s.heap.push oD).get? s.heap.objs.size = some oD:=Heap.get?_push_size _ nf
 have n1:(s.heap.push oD).Ns1 s.heap.objs.size (fun z=>if z = f then some u else none):=by
  obtain ⟨o',es,ep,q1,q2⟩:=hns
  rw [hoD] at q1
  cases q1
  exact ⟨oD,es,ep,pg,q2⟩
 have rel:∀ g,aIe (([(f,y)]:List (Str × V)).lookup g) (if g = f then some u else none):=fun g=>by
  by_cases z:g = f
  ·subst z
   rw [if_pos rfl,lookup_cons,beq_self_eq_true]
   exact ry
  ·rw [if_neg z,lookup_cons,beq_eq_false_iff_ne.mpr z]
   exact trivial
 have I1:Inv X pins σ (upd H s.heap.objs.size (.xd [(f,y)])) { s with heap:=s.heap.push oD,toks:=tk } :=
  I.laid (fun b v q=>Heap.get?_push_of_some _ q) (Nat.le_refl _) ⟨_,n1,rel⟩
 have e1:upd H s.heap.objs.size (.xd [(f,y)]) e = some (.ext (XO e C none)):=by rw [bS (Ne.symm hne)];exact h0
 have I2:=I1.write (h':=h') (t':=tk) (x:=e) (e:=e) (o:=.ext (XO e C (some s.heap.objs.size))) (by rw [e1];trivial) (.inl rfl) (fun b v nb q=>?_) ⟨_,hx⟩ (aJH ⟨t,hx⟩)
 ·exact h _ _ hn hne I2
 ·by_cases z:b = s.heap.objs.size
  ·rw [z,pg] at q
   cases q
   rw [z];exact hoD
  ·rw [Heap.get?_push_ne _ _ _ z] at q
   exact hb b v nb q
end
open PySem.W (InstAt findIn clsIn takerIn mroIn looks_findIn looks_clsIn looks_mroIn)
def aOj (K:Frag) (ta tv:TE) (f:Str):TS:=fun D σ H=>tv σ H fun y H1=>ta σ H1 fun x H2=>∃ e C,x = .ref e/\H2 e = some (.ext (XO e C none))/\vR K C f/\∀ dx,H2 dx = none->dx ≠ e->D.nx σ (upd (upd H2 dx (.xd [(f,y)])) e (.ext (XO e C (some dx))))
section
variable {X:Cx} {o value:Expr} {f:Str} {pos pos':Pos} {ta tv:TE}
theorem aIw (ha:PE X o ta) (hv:PE X value tv) (hs:swapsWith value (some (.Attribute o f pos')) pos.line X.env = pure false):PS X (.Assign [.Attribute o f pos'] value pos) (aOj X.K ta tv f):=by
 intro pins s σ H D I h
 refine plainObj_wpAny_Assign_Attribute (thn (hv pins s σ H _ I h) fun u s1 ⟨y,H1,I1,ry,q⟩=>thn (ha pins s1 σ H1 _ I1 q) fun ov s2 ⟨x,H2,I2,rx,e,C,ex,ea,fk,q2⟩=>?_) hs
 subst ex
 obtain rfl:ov = Value.ref e:=rx
 exact aId I2 ea fk ry fun s3 dx n1 n2 I3=>⟨σ,_,I3,q2 dx n1 n2⟩
end
def spI (C:Addr) (f:Str):Sp:=fun vs H Q _=>∃ e y,vs = [.ref e,y]/\H e = some (.ext (XO e C none))/\∀ dx,H dx = none->dx ≠ e->Q .non (upd (upd H dx (.xd [(f,y)])) e (.ext (XO e C (some dx))))
section
variable {P:Program} {w:World} {K:Frag} {mg:Str->Option Value} {base:Heap}
theorem aD9 {x qual a b f:Str} {st:Stmt} {fI C:Addr} {fd:FuncData} {p1 p2 p3 p4:Pos} (F:L2.Fun K x qual st fI fd) (S:aR [a,b] [a,b] (aH st)) (fk:vR K C f)
  (hb:eY st = [.Assign [.Attribute (.Name a p1) f p2] (.Name b p3) p4]) (va:Vis (aH st) a) (vb:Vis (aH st) b) (da:(a == ("__debug__":Str)) = false) (da':(a == ("__classdict__":Str)) = false) (db:(b == ("__debug__":Str)) = false) (db':(b == ("__classdict__":Str)) = false)
  (hs:∀ env:Env,swapsWith (.Name b p3) (some (.Attribute (.Name a p1) f p2)) p4.line env = pure false) (k:Nat):jE P w K mg base CX0 (k + 1) fI fd [a,b] (spI C f):=by
 refine F.ok S (fun vs H Q E ⟨e,y,z,_⟩=>by rw [z];rfl) fun cdv A outer s H vs Q E hr ⟨e,y,z,he,q⟩=>?_
 subst z
 rw [hb]
 exact ⟨_,aEl (aIw (yG (i:=0) rfl va da da') (yG (i:=1) rfl vb db db') (hs _)),_,rfl,_,rfl,e,C,rfl,he,fk,q⟩
end
section
variable {prog:Program} {w:World} {A:Around} {E:Value->Shared->Prop} {s:Shared} {K:Frag}
variable {nm qn:Str} {C N fI:Addr} {bs bm:List Value} {hdct:Bool} {sn:List Str} {sub:List Value} {ab:Bool} {col:Option Bool} {dd:Option Addr} {k0 k1 k2 k3 k5:Option Value}
theorem aH5 {us:List Value} {Q:Value->Shared->Prop} (X:K.In s.heap) (T:OwnTail s.heap bmV bm) (cC:s.heap.get? C = some (excClassObj nm qn C N bs bm hdct sn sub ab col dd k0 k1 k2 k3 k5 "ValueError.__new__"))
  (hi:findIn K (.ref C) "__init__" = some (some (.ref fI))) (hf:typeIn K (.ref fI) = some (.type "function")) (hl:us.length<=sizeLine)
  (hq:wpAny (model prog w) (A.under (.builtin "type.__call__" ⟨.ref C :: us,[]⟩)) (call (.ref fI) (.ref (s.heap.objs.size + 1) :: us)) (fun r s'=>r = .none/\Q (.ref (s.heap.objs.size + 1)) s') E { s with heap:=(s.heap.push { cls:=.type "tuple",data:=.seq us.toArray }).push (lD C s.heap.objs.size none) }) :
  wpAny (model prog w) A (call (.ref C) us) Q E s:=by
 obtain ⟨hh,g,d,t,os⟩:=s
 have FB:=PySem.F.excBase_ValueError
 have g1:=tc_lookup
 have g2:=tc_bind (.ref C)
 have hT:(⟨hh,g,d,t,os⟩:Shared).TypeIs (.ref C) "type":=⟨_,cC,rfl⟩
 refine wpAny_call (codeAny_of_tree ?_)
 show wpAny _ _ (callAny (.ref C) _) _ _ _
 repeat (any_goals (first | assumption | (with_reducible refine wpAny_loadPart_at cC ?_) | wp_step))
 refine ⟨rfl,codeAny_call_builtin_at (Code.quiet_builtin _ (by decide +kernel)) entry_typeCall (wpAny_check_type_call_sub cC ?_)⟩
 repeat (first | (with_reducible refine wpAny_loadPart_at cC ?_) | (with_reducible refine wpAny_madeBy_exc cC ?_) | wp_step)
 refine codeAny_call_builtin_code (Code.quiet_builtin _ FB.quiet) (wpAny_check_new_subT FB T cC (codeAny_exc_new_subT FB T cC ?_ hl))
 show wpAny _ _ _ _ _ _
 have kp:∀ b o,hh.get? b = some o->((hh.push { cls:=.type "tuple",data:=.seq us.toArray }).push (lD C hh.objs.size none)).get? b = some o:=fun b o e=>Heap.get?_push_of_some _ (Heap.get?_push_of_some _ e)
 have X2:K.In ((hh.push { cls:=.type "tuple",data:=.seq us.toArray }).push (lD C hh.objs.size none)):=PySem.W.Frag.In.keeps (h:=hh) X kp
 have hg:((hh.push { cls:=.type "tuple",data:=.seq us.toArray }).push (lD C hh.objs.size none)).get? (hh.objs.size + 1) = some (lD C hh.objs.size none):=by
  have:=Heap.get?_push_size (hh.push { cls:=.type "tuple",data:=.seq us.toArray }) (o:=lD C hh.objs.size none) rfl
  rwa [Heap.size_push] at this
 have ia:InstAt ((hh.push { cls:=.type "tuple",data:=.seq us.toArray }).push (lD C hh.objs.size none)) (hh.objs.size + 1) (lD C hh.objs.size none) C none:=⟨hg,rfl,rfl,trivial⟩
 have cC2:=kp _ _ cC
 have L0:Looks (model prog w) ((hh.push { cls:=.type "tuple",data:=.seq us.toArray }).push (lD C hh.objs.size none)) (isInstance (.ref (hh.objs.size + 1)) (.ref C)) true:=by
  refine ia.type.andThen ?_
  intro A' Q' E' s' k' q'
  have:=wpAny_isSubtype_exc (M:=model prog w) (A:=A') (E:=E') (g:=s'.gens) (d:=s'.drawn) (t:=s'.toks) (os:=s'.os) (base:=.ref C) (Q:=Q') (k' _ _ cC2) (by rw [show (Value.ref C :: bm).contains (.ref C) = true by simp];exact q')
  exact this
 refine wpAny_bind (PySem.W.Looks.here (s:=⟨(hh.push { cls:=.type "tuple",data:=.seq us.toArray }).push (lD C hh.objs.size none),g,d,t,os⟩) L0 ?_)
 rw [if_neg (by decide)]
 refine wpAny_bind (wpAny_holding (PySem.W.special_fn (s:=⟨(hh.push { cls:=.type "tuple",data:=.seq us.toArray }).push (lD C hh.objs.size none),g,d,t,os⟩) X2 ia hi hf (wpAny_mono hq (fun r s' ⟨e1,q1⟩=>?_) fun e s' z=>z)))
 subst e1
 exact wpAny_pure q1
end
open PySem.W (InstAt findIn clsIn takerIn mroIn looks_findIn looks_clsIn looks_mroIn)
def NwY (od:Option Addr) (h:Heap) (e:Addr) (cls:Value):Prop:=∃ oe vs,h.get? e = some oe/\(oe.cls = cls/\oe.dict = od)/\oe.data = .fields vs/\vs[1]? = some Value.none
def TrY (od:Option Addr) (h:Heap) (e:Addr) (cls:Value) (T:Addr) (fl:Value):Prop :=
 ∃ oe vs oT ts,h.get? e = some oe/\(oe.cls = cls/\oe.dict = od)/\oe.data = .fields vs/\vs[1]? = some (.ref T)/\T ≠ e/\h.get? T = some oT/\oT.data = .fields ts/\ts[3]? = some fl
section
variable {X:Cx} {pins:List (Addr × Obj)} {σ:L2.St} {H:Hp} {s:Shared} {M:Model} {A:Around} {E:Value->Shared->Prop} {e T:Addr} {cls:Value} {od:Option Addr}
theorem yW {oe:Obj} {vs:Array Value} {head:Value} {hadNext:Bool} {Q:Unit->Shared->Prop} (I:Inv X pins σ H s) (hs:X.stack = X.env :: X.outer) (hf:X.env.frame = some X.env.locals) (hex:X.ex = [])
  (hA:A.frames = some X.stack) (he:s.heap.get? e = some oe) (hdi:oe.dict = od) (hd:oe.data = .fields vs) (hsz:1 < vs.size) (fe:FpN X pins H e)
  (h:∀ s' T,Inv X pins σ H s'->TrY od s'.heap e oe.cls T (rawInt X.env.locals)->FpN X pins H T->s.heap.get? T = none->Q () s') :
  wpAny M A (do let a <- frameOf X.env;let pl <- entryPlaceOf X.env.locals hadNext;let b <- EntryCells.newEntry head a .none (rawInt X.env.locals) .none pl;setField (.ref e) 1 b) Q E s:=by
 have hfr:A.frames = some (X.env :: X.outer):=by rw [hA,hs]
 have hl:s.heap.FunFrames X.base (X.env :: X.outer):=hs ▸ I.stack
 have hene:e ∉ (X.env :: X.outer).filterMap (·.frame):=fun hm=>by
  obtain ⟨_,o,ho,hnf⟩:=hl.mem hm
  rw [he] at ho;cases ho;exact hnf vs hd
 have hfs:frs X.stack = (X.env :: X.outer).filterMap (·.frame):=by rw [hs];rfl
 refine wpAny_bind (wpAny_frameOf_fun hfr hl hf fun h₁ hs₁=>?_)
 refine wpAny_bind (wpAny_entryPlaceOf fun pl hpl=>?_)
 unfold EntryCells.newEntry newFields
 refine wpAny_bind (wpAny_newObj_type ?_ (hpl.sizeOk5 _ _ _ _ _))
 have he₁:h₁.get? e = some oe:=(hs₁.2.1 e hene).trans he
 have he₂:=Heap.get?_push_of_some (h:=h₁) { cls:=.type "traceback",dict:=none,data:=.fields ([head,.ref X.env.locals,.none,rawInt X.env.locals,.none] ++ (if pl.isEmpty then replicate 6 Value.none else pl)).toArray } he₁
 refine wpAny_setField he₂ hd hsz ?_
 have hTe:h₁.objs.size ≠ e:=Nat.ne_of_gt (Heap.lt_size he₁)
 have hd₃:=Obj.data_mapFields hd (·.setIfInBounds 1 (Value.ref h₁.objs.size))
 have he₃:=Heap.get?_update_self (Obj.mapFields (·.setIfInBounds 1 (Value.ref h₁.objs.size))) he₂ (Obj.isFreed_of_fields hd₃)
 have hT₃:=(Heap.get?_update_other (h₁.push { cls:=.type "traceback",dict:=none,data:=.fields ([head,.ref X.env.locals,.none,rawInt X.env.locals,.none] ++ (if pl.isEmpty then replicate 6 Value.none else pl)).toArray })
  (Obj.mapFields (·.setIfInBounds 1 (Value.ref h₁.objs.size))) (Ne.symm hTe)).trans (Heap.get?_push_size h₁ rfl)
 have hTn:s.heap.get? h₁.objs.size = none:=Heap.get?_none_of_le (by rw [hs₁.1];exact Nat.le_refl _)
 refine h _ h₁.objs.size (L2.Inv.mark (s:=s) (ch:=[e]) I (fun b hb=>by rw [List.mem_singleton.mp hb];exact fe) (fun b o hb hc q=>?_) fun b o hc q=>?_) ?_ (L2.Inv.fpN (s:=s) I hex hTn (L2.Inv.untr (s:=s) I hTn)) hTn
 ·have hbe:b ≠ e:=fun z=>hc (by simp [z])
  rw [Heap.get?_update_other _ _ (Ne.symm hbe)]
  exact Heap.get?_push_of_some _ ((hs₁.2.1 b (by rw [<- hfs];exact hb)).trans q)
 ·have hbe:b ≠ e:=fun z=>hc (by simp [z])
  obtain ⟨sl,z⟩:=hs₁.2.2 b o q
  exact ⟨sl,by rw [Heap.get?_update_other _ _ (Ne.symm hbe)];exact Heap.get?_push_of_some _ z⟩
 ·exact ⟨_,_,_,_,he₃,⟨Obj.cls_mapFields _ _,(oK _ _).trans hdi⟩,hd₃,by simp [hsz],hTe,hT₃,rfl,by first | (simp;done) | (rcases hpl with rfl | ⟨_,_,_,_,_,_,_,rfl⟩<;>simp)⟩
theorem aEA {Q:Unit->Shared->Prop} (I:Inv X pins σ H s) (hs:X.stack = X.env :: X.outer) (hf:X.env.frame = some X.env.locals) (hex:X.ex = []) (hA:A.frames = some X.stack) (n:NwY od s.heap e cls) (fe:FpN X pins H e)
  (h:∀ s' T,Inv X pins σ H s'->TrY od s'.heap e cls T (rawInt X.env.locals)->FpN X pins H T->s.heap.get? T = none->Q () s'):wpAny M A (noteFrame (.ref e) X.env) Q E s:=by
 obtain ⟨oe,vs,he,⟨rfl,hdi⟩,hd,h1⟩:=n
 unfold noteFrame
 simp only [hf]
 refine wpAny_bind (wpAny_field he hd h1 ?_)
 rw [if_neg (by decide)]
 exact yW I hs hf hex hA he hdi hd (Array.getElem?_eq_some_iff.mp h1).1 fe h
theorem kU {fl:Value} {Q:Unit->Shared->Prop} (I:Inv X pins σ H s) (t:TrY od s.heap e cls T fl) (fT:FpN X pins H T) (h:∀ s',Inv X pins σ H s'->TrY od s'.heap e cls T .none->Q () s'):wpAny M A (setFlight (.ref e) none) Q E s:=by
 obtain ⟨oe,vs,oT,ts,he,hcls,hd,h1,hTe,hT,hdT,h3⟩:=t
 have hsz3:3 < ts.size:=(Array.getElem?_eq_some_iff.mp h3).1
 unfold setFlight
 refine wpAny_bind (wpAny_field he hd h1 ?_)
 rw [if_pos (show (Value.ref T != Value.none) = true from by simp)]
 refine wpAny_setField hT hdT hsz3 (h _ (aAx (ts:=ts) I fT hT) ?_)
 exact ⟨oe,vs,_,_,(Heap.get?_update_other _ _ hTe).trans he,hcls,hd,h1,hTe,Heap.get?_update_self _ hT (Obj.isFreed_of_fields (Obj.data_mapFields hdT _)),Obj.data_mapFields hdT _,by simp [hsz3]⟩
theorem xJ {Q:Unit->Shared->Prop} (I:Inv X pins σ H s) (hs:X.stack = X.env :: X.outer) (hf:X.env.frame = some X.env.locals) (hex:X.ex = []) (hA:A.frames = some X.stack) (t:TrY od s.heap e cls T .none) (fe:FpN X pins H e) (fT:FpN X pins H T)
  (h:∀ s' T',Inv X pins σ H s'->TrY od s'.heap e cls T' (rawInt X.env.locals)->FpN X pins H T'->Q () s'):wpAny M A (noteFrame (.ref e) X.env) Q E s:=by
 obtain ⟨oe,vs,oT,ts,he,⟨rfl,hdi⟩,hd,h1,hTe,hT,hdT,h3⟩:=t
 unfold noteFrame
 simp only [hf]
 refine wpAny_bind (wpAny_field he hd h1 ?_)
 rw [if_pos (show (Value.ref T != Value.none) = true from by simp)]
 refine wpAny_bind (wpAny_field hT hdT h3 ?_)
 rw [if_neg (show ¬ ((Value.none == rawInt X.env.locals) = true) from by simp [rawInt])]
 refine wpAny_bind (wpAny_setField hT hdT (Array.getElem?_eq_some_iff.mp h3).1 ?_)
 exact yW (aAx (ts:=ts) I fT hT) hs hf hex hA ((Heap.get?_update_other _ _ hTe).trans he) hdi hd (Array.getElem?_eq_some_iff.mp h1).1 fe fun s' T' I' t' f' _=>h s' T' I' t' f'
theorem aC3 {Q:Unit->Shared->Prop} (I:Inv X pins σ H s) (hs:X.stack = X.env :: X.outer) (hf:X.env.frame = some X.env.locals) (hex:X.ex = []) (hA:A.frames = some X.stack) (n:NwY od s.heap e cls) (fe:FpN X pins H e)
  (h:∀ s' T,Inv X pins σ H s'->TrY od s'.heap e cls T .none->FpN X pins H T->s.heap.get? T = none->Q () s'):wpAny M A (leaving X.env (.ref e)) Q E s:=by
 unfold leaving
 exact wpAny_bind (aEA I hs hf hex hA n fe fun s1 T I1 t1 f1 n1=>kU I1 t1 f1 fun s2 I2 t2=>h s2 T I2 t2 f1 n1)
theorem aBW {Q:Unit->Shared->Prop} (I:Inv X pins σ H s) (hs:X.stack = X.env :: X.outer) (hf:X.env.frame = some X.env.locals) (hex:X.ex = []) (hA:A.frames = some X.stack) (t:TrY od s.heap e cls T .none) (fe:FpN X pins H e) (fT:FpN X pins H T)
  (h:∀ s' T',Inv X pins σ H s'->TrY od s'.heap e cls T' .none->FpN X pins H T'->Q () s'):wpAny M A (leaving X.env (.ref e)) Q E s:=by
 unfold leaving
 exact wpAny_bind (xJ I hs hf hex hA t fe fT fun s1 T1 I1 t1 f1=>kU I1 t1 f1 fun s2 I2 t2=>h s2 T1 I2 t2 f1)
end
noncomputable def CXy (P:Program) (w:World):CXT:=fun outer H s E e s'=>∃ (a:Addr) (cls:Value) (T:Addr) (H':Hp) (od:Option Addr),e = Value.ref a/\s'.os = s.os/\AllBare s'.gens/\Un (frs outer) [] H H' s.heap s'.heap/\HOk P w H' s'.heap /\
 TrY od s'.heap a cls T .none/\s.heap.get? a = none/\s.heap.get? T = none/\H' a = none/\H' T = none/\E cls od H'
structure jZ (P:Program) (w:World) (K:Frag) (mg:Str->Option Value) (base:Heap) (x:Str) (C:Addr) (f:Str):Prop where
 nm:mg x = some (.ref C)
 kp:keepIn K (.ref C) = true
 ob:∃ M nm qn N bs hdct sn sub ab col dd k0 k1 k2 k3 k5,K.lookup C = some (excClassObj nm qn C N bs (.ref M :: bmV) hdct sn sub ab col dd k0 k1 k2 k3 k5 "ValueError.__new__")/\excIn K M bmV "ValueError.__new__" = true/\∃ cdM,clsIn K M = some cdM/\cdM.mro = .ref M :: bmV
 init:∃ fI fd a b,findIn K (.ref C) "__init__" = some (some (.ref fI))/\typeIn K (.ref fI) = some (.type "function")/\jE P w K mg base CX0 1 fI fd [a,b] (spI C f)/\lT K fd [a,b] []
theorem jZ.tail {P:Program} {w:World} {K:Frag} {mg:Str->Option Value} {base h:Heap} {x f:Str} {C:Addr} (c:jZ P w K mg base x C f) (X:K.In h) :
  ∃ bm nm qn N bs hdct sn sub ab col dd k0 k1 k2 k3 k5,h.get? C = some (excClassObj nm qn C N bs bm hdct sn sub ab col dd k0 k1 k2 k3 k5 "ValueError.__new__")/\OwnTail h bmV bm:=by
 obtain ⟨M,nm,qn,N,bs,hdct,sn,sub,ab,col,dd,k0,k1,k2,k3,k5,lk,hq,cdM,hcM,hm⟩:=c.ob
 obtain ⟨bm,N',nm',qn',bs',hdct',sn',sub',ab',col',dd',l0,l1,l2,l3,l5,mN,hC,hN,hni,T⟩:=aEa X hq
 refine ⟨_,nm,qn,N,bs,hdct,sn,sub,ab,col,dd,k0,k1,k2,k3,k5,X _ _ lk,?_⟩
 have e:bm = bmV:=by
  unfold clsIn at hcM
  split at hcM
  ·rename_i q
   have z:=(X _ _ q).symm.trans hC
   cases hcM
   cases z
   exact List.cons.inj hm |>.2
  ·cases hcM
 subst e
 exact .own hC hN hni T
def aAv (X:Cx) (x:Str) (V:Int->DM->Prop):Prop:=X.calm = true/\X.ex = []/\∃ C f,jZ X.prog X.w X.K X.mg X.base x C f /\
 ∀ pins σ H s a M' dx i,Inv X pins σ H s->NwY (some dx) s.heap a (.ref C)->FpN X pins H a->cH X.K M' H->H dx = some (.xd [(f,.int i)])->V i M'->X.xe (.ref a) s
def aLi (V:Int->DM->Prop) (ds:List D) (M:DM):Prop:=match ds with
 | [.int i]=>V i M
 | _=>False
def aAP (V:Int->DM->Prop) (te:DE):DS:=fun _ ρ M=>jB te mK ρ M (aLi V)
theorem aE8 {K:Frag} {M:DM} {H H':Hp} (h:cH K M H) (g:∀ b o,H b = some o->H' b = some o):cH K M H':=by
 have ex:Ext H H':=⟨fun a ys e=>g a _ e,fun a ob u e=>g a _ e⟩
 exact ⟨fun a ds q=>let ⟨xs,z,r⟩:=h.l a ds q;⟨xs,g _ _ z,r.ext ex⟩,fun a ds q=>let ⟨xs,z,r⟩:=h.d a ds q;⟨xs,g _ _ z,lV r ex⟩⟩
section
variable {X:Cx} {pins:List (Addr × Obj)} {σ:L2.St} {H:Hp} {s:Shared} {x f:Str} {C:Addr} {k:Nat} {i:Int}
theorem aGQ {us:List Value} {Q:Value->Shared->Prop} (c:jZ X.prog X.w X.K X.mg X.base x C f) (hr:eD k X.A) (hk:2<=k) (hex:X.ex = []) (I:Inv X pins σ H s) (r:cG [V.int i] us)
  (h:∀ s' a t dx H',Inv X pins σ H' s'->s'.heap.get? a = some (lD C t (some dx))->FpN X pins H' a->H' dx = some (.xd [(f,.int i)])->(∀ b o,H b = some o->H' b = some o)->Q (.ref a) s') :
  wpAny (model X.prog X.w) X.A (call (.ref C) us) Q X.xe s:=by
 obtain ⟨bm,nm,qn,N,bs,hdct,sn,sub,ab,col,dd,k0,k1,k2,k3,k5,hC,T⟩:=c.tail I.kIn
 obtain ⟨fI,fd,a,b,hi,hf,F,hb⟩:=c.init
 have hl:us.length<=sizeLine:=by rw [<- r.length];show 1<=sizeLine;decide
 refine aH5 I.kIn T hC hi hf hl ?_
 have hg:((s.heap.push { cls:=.type "tuple",data:=.seq us.toArray }).push (lD C s.heap.objs.size none)).get? (s.heap.objs.size + 1) = some (lD C s.heap.objs.size none):=by
  have:=Heap.get?_push_size (s.heap.push { cls:=.type "tuple",data:=.seq us.toArray }) (o:=lD C s.heap.objs.size none) rfl
  rwa [Heap.size_push] at this
 have hn:s.heap.get? (s.heap.objs.size + 1) = none:=Heap.get?_none_of_le (Nat.le_succ _)
 have hH:H (s.heap.objs.size + 1) = none:=I.untr hn
 have I1:Inv X pins σ (upd H (s.heap.objs.size + 1) (.ext (XO (s.heap.objs.size + 1) C none))) { s with heap:=(s.heap.push { cls:=.type "tuple",data:=.seq us.toArray }).push (lD C s.heap.objs.size none) } :=
  I.laid (t':=s.toks) (fun b u q=>Heap.get?_push_of_some _ (Heap.get?_push_of_some _ q)) (Nat.le_succ _) (aJH ⟨_,hg⟩)
 generalize (s.heap.push { cls:=.type "tuple",data:=.seq us.toArray }).push (lD C s.heap.objs.size none) = h1 at I1 hg ⊢
 generalize s.heap.objs.size + 1 = e at *
 have r2:cG (V.ref e :: [V.int i]) (Value.ref e :: us):=.cons rfl r
 have hlen:(Value.ref e :: us ++ []).length = [a,b].length:=by rw [append_nil,<- r2.length];rfl
 have hsp:spI C f (V.ref e :: [V.int i]) (upd H e (.ext (XO e C none))) (fun v H2=>v = .non/\∃ dx,upd H e (.ext (XO e C none)) dx = none/\dx ≠ e/\H2 = upd (upd (upd H e (.ext (XO e C none))) dx (.xd [(f,.int i)])) e (.ext (XO e C (some dx)))) (fun _ _ _=>False) :=
  ⟨e,.int i,rfl,dN,fun dx n1 n2=>⟨rfl,dx,n1,n2,rfl⟩⟩
 have hbb:=hb { s with heap:=h1 } (Value.ref e :: us) I1.kIn hlen
 rw [append_nil] at hbb
 refine wpAny_call (codeAny_mono (F.run _ X.stack _ _ ⟨Value.ref e :: us,[]⟩ (Value.ref e :: us) _ _ _ ((hr.mono hk).make C us []) (I1.env0.make C us []) hbb r2 hsp) fun r s' hq'=>?_)
 cases r with
 | error ev=>exact False.elim (by exact hq')
 | ok fl =>
  cases fl with
  | ret u =>
   obtain ⟨v,H2,I3,rv,ev,dx,n1,n2,e2⟩:=I1.after hq'
   subst ev e2
   refine ⟨rv,?_⟩
   have he2:upd (upd (upd H e (.ext (XO e C none))) dx (.xd [(f,.int i)])) e (.ext (XO e C (some dx))) e = some (.ext (XO e C (some dx))):=dN
   obtain ⟨⟨t,ht⟩,_,_⟩:=I3.hok e _ he2
   have hdx:H dx = none:=by rw [bS n2] at n1;exact n1
   refine h s' e t dx _ (I3.drop he2) ht (I.fpN hex hn pW) (by rw [iW n2,bS n2];exact dN) fun b o q=>?_
   have b1:b ≠ e:=bX q hH
   rw [iW b1,bS b1,bS (bX q hdx),bS b1];exact q
  | next=>exact False.elim hq'
  | brk=>exact False.elim hq'
  | cont=>exact False.elim hq'
end
section
variable {X:Cx} {x:Str} {V:Int->DM->Prop} {e:Expr} {te:DE} {np cpos pos:Pos} {k:Nat}
theorem aEq (R:aAv X x V) (hr:eD k X.A) (hk:2<=k) (he:PDE X e te) (hg:Gl X x:=by rfl) (hd:(x == ("__debug__":Str)) = false:=by decide)
  (hst:starEach [e] X.env = (false,eval e X.env) :: starEach [] X.env:=by rfl) (hpl:(backTo cpos (starEach [] X.env)).any (·.1) = false:=by rfl) :
  PDS X (.Raise (some (.Call (.Name x np) [e] [] cpos)) none pos) (aAP V te):=by
 intro pins s σ H D I ⟨ρ,M,D',re,hm,q,kk⟩
 obtain ⟨calm,hex,C,f,hc,fly⟩:=R
 rw [arm_exec_Raise]
 refine wpAny_bind (wpAny_standAt ?_)
 show wpAny _ _ (raiseStmt X.env (some (do let v <- eval (.Call (.Name x np) [e] [] cpos) X.env;standAt pos;pure v)) none) _ _ _
 have key:wpAny (model X.prog X.w) X.A (eval (.Call (.Name x np) [e] [] cpos) X.env) (fun v s1=>∃ a t dx,v = .ref a/\X.K.In s1.heap/\s1.heap.get? a = some (lD C t (some dx))/\X.xe (.ref a) s1) X.xe s:=by
  refine wpAny_Call_Name_kw (iK I hg hc.nm ?_ hd)
  refine callWith_K (h₀:=X.base) I.ok.mod.kin hc.kp (thn ((kS he oZ hst:PDA X [e] (jB te mK)) cpos pins s σ H (LA X.K H _) I ⟨ρ,M,aLi V,re,hm,?_,fun vs H' z=>z⟩) fun us s1 ⟨vs,H1,I1,rv,ds,M1,rs,hm1,ex,q1⟩=>⟨I1.kIn,?_⟩) hst hpl
  ·exact q
  ·match ds,q1 with
   | [.int i],q1 =>
    obtain ⟨v,rfl,r1⟩:=fD rs
    obtain rfl:=aT r1
    refine aGQ hc hr hk hex I1 rv fun s' a t dx H' I' ht fe hx mono=>?_
    exact ⟨a,t,dx,rfl,I'.kIn,ht,fly pins σ H' s' a M1 dx i I' ⟨_,_,ht,⟨rfl,rfl⟩,rfl,rfl⟩ fe (aE8 hm1 mono) hx q1⟩
 unfold raiseStmt
 refine wpAny_bind (wpAny_bind (wpAny_mono key (fun v s1 ⟨a,t,dx,ev,kin,h1,h4⟩=>wpAny_bind (wpAny_standAt (wpAny_pure ?_))) fun _ _ z=>z))
 subst ev
 obtain ⟨bm,nm,qn,N,bs,hdct,sn,sub,ab,col,dd,k0,k1,k2,k3,k5,cC,T⟩:=hc.tail kin
 have hcB:(Value.ref C :: bm).contains (.type "BaseException") = true:=by rw [List.contains_cons,T.hasType (X:="BaseException") (b:=true) (by decide +kernel),Bool.or_true]
 obtain ⟨hh,g,d,tk,os⟩:=s1
 dsimp only at cC h1
 unfold lD at h1
 repeat (first | (with_reducible refine wpAny_loadPart_at h1 ?_) | (with_reducible refine wpAny_loadPart_at cC ?_) | (with_reducible refine wpAny_isSubtype_exc cC ?_;rw [hcB]) | wp_step)
 exact wpAny_raiseNew_none (I.ok.hd calm) h4
end
open PySem.W (InstAt findIn clsIn takerIn mroIn looks_findIn looks_clsIn looks_mroIn)
def aLS (K:Frag) (C:Addr) (f:Str) (cond:List D->DM->Int->Prop):Sp:=fun vs H _ E=>∃ ds M i,bZ K H ds vs/\cH K M H/\cond ds M i/\∀ M' H' dx,cH K M' H'->aZ M M'->H' dx = some (.xd [(f,.int i)])->E (.ref C) (some dx) H'
def eT (P:Program) (w:World) (K:Frag) (mg:Str->Option Value) (base:Heap) (k:Nat) (x:Str) (ps:List Str) (C:Addr) (f:Str) (cond:List D->DM->Int->Prop):Prop :=
 ∃ fa fd,jE P w K mg base (CXy P w) k fa fd ps (aLS K C f cond)/\mg x = some (.ref fa)/\keepIn K (.ref fa) = true/\lT K fd ps []
def aD8 (X:Cx) (C:Addr) (f:Str) (V:Int->DM->Prop):Prop:=X.ex = [] /\
 ∀ pins σ H s a T M' dx i,Inv X pins σ H s->TrY (some dx) s.heap a (.ref C) T .none->FpN X pins H a->FpN X pins H T->cH X.K M' H->H dx = some (.xd [(f,.int i)])->V i M'->X.xe (.ref a) s
def aCS (V:Int->DM->Prop) (cond:List D->DM->Int->Prop) (t:DA):DE:=fun ρ M _=>t ρ M fun ds M1=>∃ i,cond ds M1 i/\∀ M',aZ M1 M'->V i M'
noncomputable def XW (K:Frag) (C:Addr) (f:Str) (M1:DM) (i:Int):XK:=fun c od H'=>c = .ref C/\∃ dx M',od = some dx/\cH K M' H'/\aZ M1 M'/\H' dx = some (.xd [(f,.int i)])
section
variable {X:Cx} {e:Expr} {es:List Expr} {t:DA} {fn f:Str} {ps:List Str} {cond:List D->DM->Int->Prop} {C:Addr} {k1 k:Nat} {V:Int->DM->Prop} {pf pc:Pos}
theorem aFc (hH:eT X.prog X.w X.K X.mg X.base k1 fn ps C f cond) (hr:eD k X.A) (hk1:k1<=k) (PO:aD8 X C f V) (ha:PDA X (e :: es) t) (hg:Gl X fn:=by rfl) (hdb:(fn == ("__debug__":Str)) = false:=by decide)
  (he:starEach (e :: es) X.env = (false,eval e X.env) :: starEach es X.env:=by rfl) (hpl:(backTo pc (starEach es X.env)).any (·.1) = false:=by rfl) :
  PDE X (.Call (.Name fn pf) (e :: es) [] pc) (aCS V cond t):=by
 intro pins s σ H Q I ⟨ρ,M,Q',re,hm,q,k'⟩
 obtain ⟨hex,fly⟩:=PO
 obtain ⟨f1,fd,F,hmf,hk,hb⟩:=id hH
 refine wpAny_Call_Name_kw (iK I hg hmf ?_ hdb)
 refine callWith_K (h₀:=X.base) I.ok.mod.kin hk (thn (ha pc pins s σ H (LA X.K H _) I ⟨ρ,M,_,re,hm,q,fun vs H' z=>z⟩) fun us s1 ⟨vs,H1,I1,rv,ds,M1,rs,hm1,ex,i,q1,q2⟩=>⟨I1.kIn,?_⟩) he hpl
 have hsp:aLS X.K C f cond vs H1 (fun _ _=>False) (XW X.K C f M1 i):=⟨ds,M1,i,rs,hm1,q1,fun M' H' dx a b c=>⟨rfl,dx,M',rfl,a,b,c⟩⟩
 have hl:(us ++ []).length = ps.length:=by rw [append_nil,<- rv.length];exact F.len _ _ _ _ hsp
 have hbb:=hb s1 us I1.kIn hl
 rw [append_nil] at hbb
 refine wpAny_call (codeAny_mono (F.run X.A X.stack s1 H1 ⟨us,[]⟩ us vs _ _ (hr.mono hk1) I1.env0 hbb rv hsp) fun r s' hq=>?_)
 cases r with
 | error ev =>
  obtain ⟨a,cls,T,H',od,rfl,os,bare,un,hok,tr,na,nT,ha',hT,rfl,dx,M',rfl,hm',sub,hx⟩:=(show CXy X.prog X.w X.stack H1 s1 (XW X.K C f M1 i) ev s' from hq)
  have I2:Inv X pins σ H' s':=I1.call' (ch:=[]) os un hok bare (fun b z=>absurd z (by simp))
  exact fly pins σ H' s' a T M' dx i I2 tr (I1.fpN hex na ha') (I1.fpN hex nT hT) hm' hx (q2 M' sub)
 | ok fl =>
  cases fl with
  | ret u=>obtain ⟨_,_,_,_,_,_,_,z⟩:=(show CE _ _ _ _ _ _ _ _ from hq);exact z.elim
  | next=>exact False.elim hq
  | brk=>exact False.elim hq
  | cont=>exact False.elim hq
end
section
variable {P:Program} {w:World} {K:Frag} {mg:Str->Option Value} {base:Heap}
theorem eT.mkZ {x c f:Str} {C:Addr} {st:Stmt} {N ps:List Str} {k:Nat} {cond:List D->DM->Int->Prop} (h:cE K mg x st ps) (hc:jZ P w K mg base c C f) (S:aR N ps (aH st)) (len:∀ ds M i,cond ds M i->ds.length = ps.length)
  (hbody:∀ (fa:Addr) (cdv:Value) (A:Around) (outer:List Env) (s:Shared) (H:Hp) (ds:List D) (M:DM) (i:Int) (E:XK),eD k (A.deeper (envOfC x (aH st) s.heap.objs.size fa cdv))->cond ds M i ->
   aAv (jR (CXy P w) P w K mg base N x (aH st) fa cdv A outer s H E) c (fun j M'=>j = i/\aZ M M')->aD8 (jR (CXy P w) P w K mg base N x (aH st) fa cdv A outer s H E) C f (fun j M'=>j = i/\aZ M M') ->
   ∃ t,ZSs (jR (CXy P w) P w K mg base N x (aH st) fa cdv A outer s H E) (eY st) t/\t { nx:=fun _ _=>False,rt:=fun _ _=>False } (iA N ds) M):eT P w K mg base (k + 1) x ps C f cond:=by
 obtain ⟨fa,fd,F,hm,hb⟩:=h
 refine ⟨fa,fd,?_,hm,F.kp,hb⟩
 obtain ⟨oc,od,kV,doc,pm,an,cdv,ct,osl,rfl,lk,hcd⟩:=F.ex
 refine aF8 lk hcd S (fun vs H Q E ⟨ds,M,i,rs,hm,q,_⟩=>by rw [<- rs.length];exact len ds M i q) fun A outer s H vs Q E hr ⟨ds,M,i,rs,hm,q,k'⟩=>?_
 have RO:aAv (jR (CXy P w) P w K mg base N x (aH st) fa cdv A outer s H E) c (fun j M'=>j = i/\aZ M M') :=
  ⟨rfl,rfl,C,f,hc,fun pins σ H' s1 a M' dx j I n fe hm' hx ⟨ej,sub⟩ =>
   aC3 (X:=jR (CXy P w) P w K mg base N x (aH st) fa cdv A outer s H E) I rfl rfl rfl I.ok.frames n fe fun s' T I' t' fT _ =>
    ⟨a,.ref C,T,H',some dx,rfl,I'.os,I'.bare,I'.base,I'.hok,t',fe.2.2.1,fT.2.2.1,fe.1,fT.1,k' M' H' dx hm' sub (by rw [<- ej];exact hx)⟩⟩
 have PO:aD8 (jR (CXy P w) P w K mg base N x (aH st) fa cdv A outer s H E) C f (fun j M'=>j = i/\aZ M M') :=
  ⟨rfl,fun pins σ H' s1 a T M' dx j I t fe fT hm' hx ⟨ej,sub⟩ =>
   aBW (X:=jR (CXy P w) P w K mg base N x (aH st) fa cdv A outer s H E) I rfl rfl rfl I.ok.frames t fe fT fun s' T' I' t' fT' =>
    ⟨a,.ref C,T',H',some dx,rfl,I'.os,I'.bare,I'.base,I'.hok,t',fe.2.2.1,fT'.2.2.1,fe.1,fT'.1,k' M' H' dx hm' sub (by rw [<- ej];exact hx)⟩⟩
 obtain ⟨t,h1,h2⟩:=hbody fa cdv A outer s H ds M i E hr q RO PO
 exact ⟨_,h1.o,iA N ds,M,_,qX rs N,hm,h2,⟨fun σ' H' ⟨_,_,_,_,_,z⟩=>z.elim,fun v H' ⟨_,_,_,_,_,z⟩=>z.elim,fun σ' H' ⟨_,_,_,_,_,z⟩=>z.elim,fun σ' H' ⟨_,_,_,_,_,z⟩=>z.elim⟩⟩
theorem eT.never {x c f:Str} {C:Addr} {st:Stmt} {N ps:List Str} (h:cE K mg x st ps) (hc:jZ P w K mg base c C f) (S:aR N ps (aH st)) (k:Nat):eT P w K mg base (k + 1) x ps C f (fun _ _ _=>False) :=
 eT.mkZ h hc S (fun _ _ _ z=>z.elim) fun _ _ _ _ _ _ _ _ _ _ _ z=>z.elim
theorem eT.imp {x f:Str} {C:Addr} {ps:List Str} {k:Nat} {cond cond':List D->DM->Int->Prop} (h:eT P w K mg base k x ps C f cond) (g:∀ ds M i,cond' ds M i->cond ds M i):eT P w K mg base k x ps C f cond':=by
 obtain ⟨fa,fd,F,hm,hk,hb⟩:=h
 exact ⟨fa,fd,F.imp fun vs H Q E ⟨ds,M,i,a,b,c,d⟩=>⟨ds,M,i,a,b,g _ _ _ c,d⟩,hm,hk,hb⟩
end
def ExY (o:Obj) (C dx:Addr):Prop:=o.cls = .ref C/\o.dict = some dx/\∃ vs,o.data = .fields vs
noncomputable abbrev Pn (X:Cx) (a:Addr) (o:Obj):Cx:={ X with pn:=(a,o) :: X.pn }
section
variable {X:Cx} {pins:List (Addr × Obj)} {σ:L2.St} {H:Hp} {s:Shared} {a e:Addr} {o:Obj} {fs:List (Str × V)}
theorem aCQ (I:X.Ok):(Pn X a o).Ok:=⟨I.mod,I.kind,I.glob,I.blt,I.above,I.inj,I.has,I.cab,I.hd,I.frames,I.stk,I.exf,I.bs,I.bsz,I.noex,I.exfs,I.funs,I.frf⟩
theorem aBb (ok:X.Ok) (I:Inv (Pn X a o) pins σ H s):Inv X pins σ H s :=
 ⟨ok,I.os,I.bare,I.base,I.loc,I.cell,I.free,I.freeC,fun p hp=>I.pin p (mem_cons_of_mem _ hp),I.hok,I.len⟩
theorem Ext.delX (h:H e = some (.xd fs)):Ext H (Dd.delH H e) :=
 ⟨fun a ys q=>by rw [iW (xO q h (by intro z;cases z))];exact q,fun a ob u q=>by rw [iW (xO q h (by intro z;cases z))];exact q⟩
theorem aEo {K:Frag} {M:DM} (h:cH K M H) (hp:H e = some (.xd fs)):cH K M (delH H e) where
 l:=fun a ds q=>by
  obtain ⟨xs,z,r⟩:=h.l a ds q
  exact ⟨xs,by rw [iW (xO z hp (by intro z;cases z))];exact z,r.ext (Ext.delX hp)⟩
 d:=fun a ds q=>by
  obtain ⟨xs,z,r⟩:=h.d a ds q
  exact ⟨xs,by rw [iW (xO z hp (by intro z;cases z))];exact z,lV r (Ext.delX hp)⟩
theorem _root_.L2.Inv.dropX (I:Inv X pins σ H s) (h:H e = some (.xd fs)):Inv X pins σ (delH H e) s:=by
 have out:∀ b o,delH H e b = some o->b ≠ e/\H b = some o:=fun b o q=>by
  by_cases z:b = e
  ·rw [z,pW] at q;cases q
  ·rw [iW z] at q;exact ⟨z,q⟩
 have sub:∀ b,H b = none->delH H e b = none:=fun b q=>by
  unfold delH;split
  ·rfl
  ·exact q
 have nt:∀ b o,H b = some o->(∀ φ,o ≠ .xd φ)->delH H e b = some o:=fun b o q n=>by
  rw [iW (fun z=>by rw [z,h] at q;exact n fs (Option.some.inj q).symm)];exact q
 refine ⟨I.ok,I.os,I.bare,⟨I.base.keep,I.base.slot,fun b o q n hx=>sub b (I.base.free b o q n hx),I.base.there,fun b xs q=>nt b _ (I.base.tups b xs q) (fun φ z=>by cases z),fun b o v q=>nt b _ (I.base.frzs b o v q) (fun φ z=>by cases z),fun b ps q=>?_⟩,I.loc,I.cell,sub _ I.free,fun x c q=>sub c (I.freeC x c q),fun p hp=>?_,fun b o q=>?_,I.len⟩
 ·obtain ⟨m,z⟩:=I.base.tbls b ps q
  exact ⟨m,nt b _ z fun φ z=>by cases z⟩
 ·obtain ⟨a1,a2,a3,a4,a5⟩:=I.pin p hp
  exact ⟨a1,sub _ a2,a3,a4,a5⟩
 ·obtain ⟨ne,q⟩:=out b o q
  refine (I.hok b o q).stay (fun _ _ _ z=>z) (fun c z=>nt c _ z fun φ y=>by cases y) fun c xs z=>nt c _ z fun φ y=>by cases y
theorem aNo (I:Inv X pins σ H s) (h:H e = some (.xd fs)):∃ oD,Inv (Pn X e oD) pins σ (delH H e) s/\∀ f i,fs = [(f,.int i)]->∃ t,lookIn f oD = some (some (.int i t)):=by
 obtain ⟨mA,hns,rel⟩:=I.hok e _ h
 obtain ⟨oD,ho,hl⟩:=aAf hns
 have I':=I.dropX h
 have nl:e ≠ X.env.locals:=fun z=>by have:=I.free;rw [<- z,h] at this;cases this
 have nfr:e ∉ X.fs:=fun z=>by
  have m:e ∈ frs X.stack:=by
   rcases I.ok.stk with q | ⟨q,_⟩
   ·rw [q];exact z
   ·rw [q];unfold frs;rw [List.filterMap_cons]
    split
    ·exact z
    ·exact mem_cons_of_mem _ z
  have:=I.stkFree e m
  rw [h] at this;cases this
 refine ⟨oD,⟨aCQ I'.ok,I'.os,I'.bare,I'.base,I'.loc,I'.cell,I'.free,I'.freeC,fun p hp=>?_,I'.hok,I'.len⟩,fun f i ef=>?_⟩
 ·rcases List.mem_cons.mp hp with z | z
  ·subst z
   refine ⟨ho,pW,nl,nfr,fun v z=>?_⟩
   have:=hl "row"
   unfold lookIn at this
   dsimp only at z
   rw [z] at this
   cases this
  ·exact I'.pin p z
 ·have:=rel f
  rw [ef,lookup_cons,beq_self_eq_true] at this
  cases hm:mA f with
  | none=>rw [hm] at this;exact this.elim
  | some u =>
   rw [hm] at this
   obtain ⟨t,rfl⟩:=(show ∃ t,u = Value.int i t from this)
   exact ⟨t,by rw [hl,hm]⟩
end
def aOC (sp:DSp) (cond:List D->DM->Int->Prop) (j:Nat) (t:DA) (nx:fY->D->cR->DM->Prop) (ts:Addr->Int->DS):DS:=fun D ρ M=>t ρ M fun ds M1 =>
 (∃ i,cond ds M1 i/\∀ a,ts a i (D.un j) (ρ.set j (some (.ref a))) M1) ∨ sp ds M1 fun d M2=>nx D d ρ M2
section
variable {X:Cx} {a:Expr} {e:Expr} {es:List Expr} {t:DA} {x f n cm fl:Str} {ps:List Str} {sp:DSp} {cond:List D->DM->Int->Prop} {C Cm:Addr} {k1 k2 k i j:Nat} {ts:Addr->Int->DS} {b0:Stmt} {suite:List Stmt} {px pf pc pa pcm ph pos:Pos}
theorem aGZ {pins:List (Addr × Obj)} {σ:L2.St} {H1:Hp} {s1:Shared} {M1:DM} {ds:List D} {us:List Value} {vs:List V} {Q:Value->Shared->Prop} {E:Value->Shared->Prop} {f':Addr} {Q':DQ}
  (hH:eT X.prog X.w X.K X.mg X.base k1 f ps C fl cond) (hh:Has X.prog X.w X.K X.mg X.base k2 f ps sp) (hr:eD k X.A) (hk1:k1<=k) (hk2:k2<=k) (hmf:X.mg f = some (.ref f'))
  (I1:Inv X pins σ H1 s1) (rv:cG vs us) (rs:bZ X.K H1 ds vs) (hm1:cH X.K M1 H1)
  (q:(∃ i,cond ds M1 i/\∀ ev s',CXy X.prog X.w X.stack H1 s1 (XW X.K C fl M1 i) ev s'->E ev s') ∨ sp ds M1 Q')
  (hQ:∀ u s',EP X pins σ (LQ X.K H1 Q') u s'->Q u s'):wpAny (model X.prog X.w) X.A (call (.ref f') us) Q E s1:=by
 rcases q with ⟨i,q,hE⟩ | q
 ·obtain ⟨f1,fd,F,hm,_,hb⟩:=hH
  have hf:f1 = f':=by have:=hm.symm.trans hmf;cases this;rfl
  subst hf
  have hsp:aLS X.K C fl cond vs H1 (fun _ _=>False) (XW X.K C fl M1 i):=⟨ds,M1,i,rs,hm1,q,fun M' H' dx a b c=>⟨rfl,dx,M',rfl,a,b,c⟩⟩
  have hl:(us ++ []).length = ps.length:=by rw [append_nil,<- rv.length];exact F.len _ _ _ _ hsp
  have hbb:=hb s1 us I1.kIn hl
  rw [append_nil] at hbb
  refine wpAny_call (codeAny_mono (F.run X.A X.stack s1 H1 ⟨us,[]⟩ us vs _ _ (hr.mono hk1) I1.env0 hbb rv hsp) fun r s' hq=>?_)
  cases r with
  | error ev=>exact hE ev s' hq
  | ok fl =>
   cases fl with
   | ret u=>obtain ⟨_,_,_,_,_,_,_,z⟩:=(show CE _ _ _ _ _ _ _ _ from hq);exact z.elim
   | next=>exact False.elim hq
   | brk=>exact False.elim hq
   | cont=>exact False.elim hq
 ·obtain ⟨f1,fd,F,hm,_,hb⟩:=hh
  have hf:f1 = f':=by have:=hm.symm.trans hmf;cases this;rfl
  subst hf
  have hsp:oI X.K sp vs H1 (LQ X.K H1 Q') (fun _ _ _=>False):=⟨ds,M1,Q',rs,hm1,q,fun v H' z=>z⟩
  have hl:(us ++ []).length = ps.length:=by rw [append_nil,<- rv.length];exact F.len _ _ _ _ hsp
  have hbb:=hb s1 us I1.kIn hl
  rw [append_nil] at hbb
  refine wpAny_call (codeAny_mono (F.run X.A X.stack s1 H1 ⟨us,[]⟩ us vs _ _ (hr.mono hk2) I1.env0 hbb rv hsp) fun r s' hq=>?_)
  cases r with
  | error ev=>exact False.elim hq
  | ok fl =>
   cases fl with
   | ret u=>exact hQ u s' (I1.after hq)
   | next=>exact False.elim hq
   | brk=>exact False.elim hq
   | cont=>exact False.elim hq
end
def aMo (j:Nat) (a:Addr) (i:Int):DE:=fun ρ M Q=>ρ[j]? = some (some (.ref a))/\Q (.int i) M
section
variable {X:Cx} {n f:Str} {C a dx:Addr} {o oD:Obj} {p pos:Pos} {j:Nat} {i:Int} {tk:Tok}
theorem aJ5 (ho:ExY o C dx) (hl:lookIn f oD = some (some (.int i tk))) (ek:aAV X.K C) (fk:vR X.K C f) (hj:X.N[j]? = some n:=by rfl) (hnl:Vis X.env.scope n:=by first | exact Or.inl rfl | exact Or.inr (Or.inl rfl) | exact Or.inr (Or.inr rfl))
  (hd1:(n == ("__debug__":Str)) = false:=by decide) (hd2:(n == ("__classdict__":Str)) = false:=by decide) (hb:attributeBase (.Name n p) f X.env (eval (.Name n p) X.env) = eval (.Name n p) X.env:=by rfl) :
  PDE (Exc (Pn X dx oD) a o) (.Attribute (.Name n p) f pos) (aMo j a i):=by
 intro pins s σ H Q I ⟨ρ,M,Q',re,hm,⟨e,q⟩,k⟩
 obtain ⟨v,e1,rv⟩:=re.get j _ e
 obtain rfl:=bE rv
 refine aHW (A:=X.A.mark (some (.ref a))) hb (thn (yG (X:=Exc (Pn X dx oD) a o) (i:=j) hj hnl hd1 hd2 pins s σ H (fun v H'=>v = .ref a/\H' = H) I ⟨_,e1,rfl,rfl⟩) fun u s1 ⟨v',H1,I1,rx,ev,eH⟩=>?_)
 subst ev eH
 obtain rfl:u = Value.ref a:=rx
 have p1:=I1.pin (a,o) (mem_append_left _ (mem_cons_self))
 have p2:=I1.pin (dx,oD) (mem_append_left _ (mem_cons_of_mem _ (mem_cons_self)))
 obtain ⟨h1,h2,vs,h3⟩:=ho
 have ia:InstAt s1.heap a o C (some oD):=⟨p1.1,h1,by unfold PySem.W.notCls;rw [h3],by rw [h2];exact p2.1⟩
 exact aMH I1.kIn ia ek fk hl rfl fun t'=>⟨.int i,H1,I1.tok t',⟨_,rfl⟩,k _ H1 ⟨.int i,M,bU,hm,.refl _,q⟩⟩
end
def aEd (w:World) (K:Frag) (mg:Str->Option Value) (x:Str) (tab:List (Str × Int)) (non:List Str):Prop :=
 ∃ a es ep,mg x = some (.ref a)/\(a == sysModules) = false/\K.lookup a = some ⟨.type "dict",none,.dict es ep,#[]⟩/\KeysLit w.params es.toList/\(∀ k n,tab.lookup k = some n->∃ t,nsIn K a k = some (some (.int n t)))/\∀ k ∈ non,nsIn K a k = some none
def aKW (tab:List (Str × Int)) (non:List Str) (Q:DQ) (ds:List D) (M1:DM):Prop:=match ds with
 | [.str k]=>(∃ n,tab.lookup k = some n/\Q (.int n) M1) ∨ (k ∈ non/\Q .non M1)
 | _=>False
def aGz (tab:List (Str × Int)) (non:List Str) (te:DE):DE:=fun ρ M Q=>jB te mK ρ M (aKW tab non Q)
section
variable {X:Cx} {x:Str} {tab:List (Str × Int)} {non:List Str} {p apos cpos:Pos} {e:Expr} {te:DE}
theorem aIE (T:aEd X.w X.K X.mg x tab non) (he:PDE X e te) (hg:Gl X x:=by rfl) (hd:(x == ("__debug__":Str)) = false:=by decide)
  (hbase:attributeBase (.Name x p) "get" X.env (eval (.Name x p) X.env) = eval (.Name x p) X.env:=by rfl)
  (hfew:((backTo cpos (starEach [e] X.env)).all (fun x=>!x.1) && (backToKw cpos (keywordEach [] X.env)).all (fun x=>x.1.isSome)
   && decide ([e].length + ([]:List Keyword).length + (if ([]:List Keyword).isEmpty then 0 else 1) < 30)) = true:=by rfl)
  (hline:(apos.endLine == cpos.line) = true:=by rfl) (hs:starEach [e] X.env = (false,eval e X.env) :: starEach [] X.env:=by rfl) (hplain:(backTo cpos (starEach [] X.env)).any (·.1) = false:=by rfl) :
  PDE X (.Call (.Attribute (.Name x p) "get" apos) [e] [] cpos) (aGz tab non te):=by
 obtain ⟨a,es,ep,hm,hsm,hk,ks,look,nol⟩:=T
 intro pins s σ H Q I ⟨ρ,M,Q',re,hm',q,kq⟩
 refine wpAny_Call_method_late hbase hfew hline rfl (iK I hg hm ?_ hd)
 have mo:=mapOf_K (prog:=X.prog) (w:=X.w) I.kIn hk ks
 refine ⟨"dict","dict.get",PySem.F.plainAttrs_dict,PySem.F.slot_dict_get,PySem.F.type_dict_get,mo.typeIs,?_,?_⟩
 ·intro b e;cases e;exact ⟨_,I.kIn _ _ hk,rfl⟩
 ·have hA:=(kS he oZ hs:PDA X [e] (jB te mK)) cpos pins s σ H (LA X.K H (aKW tab non Q')) I ⟨ρ,M,_,re,hm',q,fun vs H' z=>z⟩
  rw [hs] at hA ⊢
  refine Calls.callWith_builtin (by show (false || (backTo cpos (starEach [] X.env)).any (·.1)) = false;rw [hplain]<;>rfl) (Calls.evalArgs_plain (thn hA fun us s1 ⟨vs,H1,I1,rv,ds,M1,rs,hm1,ex,q1⟩=>?_))
  match ds,q1 with
  | [.str k],q1 =>
   obtain ⟨v,rfl,r1⟩:=fD rs
   obtain rfl:=bC r1
   obtain ⟨u,rfl,ru⟩:=sR rv
   obtain ⟨t,rfl⟩:=ru
   have mo1:=mapOf_K (prog:=X.prog) (w:=X.w) I1.kIn hk ks
   refine call_meetsIn PySem.F.slot_dict_get mo1.typeIs PySem.F.entry_dict_get (PySem.F.args_dict_get_2 _ _) (meets_dict_get (PySem.strKind X.prog X.w) a (strKind_is X.prog X.w k t) hsm) ⟨_,mo1,?_⟩
   rcases q1 with ⟨n,hn,q1⟩ | ⟨hn,q1⟩
   ·obtain ⟨t',hf⟩:=look k n hn
    rw [find_K hk hf]
    exact ⟨.int n,H1,I1.tok _,⟨_,rfl⟩,kq _ _ ⟨.int n,M1,bU,hm1,ex,q1⟩⟩
   ·rw [find_K hk (nol k hn)]
    exact ⟨.non,H1,I1.tok _,rfl,kq _ _ ⟨.non,M1,sS,hm1,ex,q1⟩⟩
end
section
variable {X:Cx} {pins:List (Addr × Obj)} {σ:L2.St} {H:Hp} {s:Shared} {M:Model} {A:Around} {E:Value->Shared->Prop} {e T:Addr} {cls:Value} {od:Option Addr}
end
section
variable {X:Cx} {pins:List (Addr × Obj)} {σ:L2.St} {H:Hp} {s:Shared} {x f:Str} {C:Addr} {k:Nat} {i:Int}
end
section
variable {X:Cx} {x:Str} {V:Int->DM->Prop} {e:Expr} {te:DE} {np cpos pos:Pos} {k:Nat}
theorem mE (R:aAv X x V) (hr:eD k X.A) (hk:2<=k) (he:ZE X e te) (hg:Gl X x:=by rfl) (hd:(x == ("__debug__":Str)) = false:=by decide) (hst:starEach [e] X.env = (false,eval e X.env) :: starEach [] X.env:=by rfl) (hpl:(backTo cpos (starEach [] X.env)).any (·.1) = false:=by rfl):ZS X (.Raise (some (.Call (.Name x np) [e] [] cpos)) none pos) (aAP V te):=.i (aEq R hr hk he.o hg hd hst hpl)
end
section
variable {X:Cx} {e:Expr} {es:List Expr} {t:DA} {fn f:Str} {ps:List Str} {cond:List D->DM->Int->Prop} {C:Addr} {k1 k:Nat} {V:Int->DM->Prop} {pf pc:Pos}
theorem pP (hH:eT X.prog X.w X.K X.mg X.base k1 fn ps C f cond) (hr:eD k X.A) (hk1:k1<=k) (PO:aD8 X C f V) (ha:ZA X (e :: es) t) (hg:Gl X fn:=by rfl) (hdb:(fn == ("__debug__":Str)) = false:=by decide) (he:starEach (e :: es) X.env = (false,eval e X.env) :: starEach es X.env:=by rfl) (hpl:(backTo pc (starEach es X.env)).any (·.1) = false:=by rfl):ZE X (.Call (.Name fn pf) (e :: es) [] pc) (aCS V cond t):=.i (aFc hH hr hk1 PO ha.o hg hdb he hpl)
end
section
variable {P:Program} {w:World} {K:Frag} {mg:Str->Option Value} {base:Heap}
end
section
variable {X:Cx} {pins:List (Addr × Obj)} {σ:L2.St} {H:Hp} {s:Shared} {a e:Addr} {o:Obj} {fs:List (Str × V)}
end
section
variable {X:Cx} {a:Expr} {e:Expr} {es:List Expr} {t:DA} {x f n cm fl:Str} {ps:List Str} {sp:DSp} {cond:List D->DM->Int->Prop} {C Cm:Addr} {k1 k2 k i j:Nat} {ts:Addr->Int->DS} {b0:Stmt} {suite:List Stmt} {px pf pc pa pcm ph pos:Pos}
end
section
variable {X:Cx} {n f:Str} {C a dx:Addr} {o oD:Obj} {p pos:Pos} {j:Nat} {i:Int} {tk:Tok}
theorem aDM (ho:ExY o C dx) (hl:lookIn f oD = some (some (.int i tk))) (ek:aAV X.K C) (fk:vR X.K C f) (hj:X.N[j]? = some n:=by rfl) (hnl:Vis X.env.scope n:=by first | exact Or.inl rfl | exact Or.inr (Or.inl rfl) | exact Or.inr (Or.inr rfl)) (hd1:(n == ("__debug__":Str)) = false:=by decide) (hd2:(n == ("__classdict__":Str)) = false:=by decide) (hb:attributeBase (.Name n p) f X.env (eval (.Name n p) X.env) = eval (.Name n p) X.env:=by rfl):ZE (Exc (Pn X dx oD) a o) (.Attribute (.Name n p) f pos) (aMo j a i):=.i (aJ5 ho hl ek fk hj hnl hd1 hd2 hb)
end
section
variable {X:Cx} {x:Str} {tab:List (Str × Int)} {non:List Str} {p apos cpos:Pos} {e:Expr} {te:DE}
theorem aFA (T:aEd X.w X.K X.mg x tab non) (he:ZE X e te) (hg:Gl X x:=by rfl) (hd:(x == ("__debug__":Str)) = false:=by decide) (hbase:attributeBase (.Name x p) "get" X.env (eval (.Name x p) X.env) = eval (.Name x p) X.env:=by rfl) (hfew:((backTo cpos (starEach [e] X.env)).all (fun x=>!x.1) && (backToKw cpos (keywordEach [] X.env)).all (fun x=>x.1.isSome)
   && decide ([e].length + ([]:List Keyword).length + (if ([]:List Keyword).isEmpty then 0 else 1) < 30)) = true:=by rfl) (hline:(apos.endLine == cpos.line) = true:=by rfl) (hs:starEach [e] X.env = (false,eval e X.env) :: starEach [] X.env:=by rfl) (hplain:(backTo cpos (starEach [] X.env)).any (·.1) = false:=by rfl):ZE X (.Call (.Attribute (.Name x p) "get" apos) [e] [] cpos) (aGz tab non te):=.i (aIE T he.o hg hd hbase hfew hline hs hplain)
end
def aNA (w:World) (a:Addr) (Q:DQ) (ds:List D) (M2:DM):Prop:=match ds with
 | [.str k,dv]=>∃ kvs,M2 (.d a) = some (aMU w kvs)/\(kvs.map (·.1)).Nodup/\Q (((kvs.find? fun p=>decide (p.1 = k)).map (·.2)).getD dv) M2
 | _=>False
def aOh (w:World) (to te ti:DE):DE:=fun ρ M Q=>to ρ M fun x M1=>match x with
 | .ref a=>(∃ kvs,M1 (.d a) = some (aMU w kvs)/\(kvs.map (·.1)).Nodup)/\jB te (jB ti mK) ρ M1 (aNA w a Q)
 | _=>False
section
variable {X:Cx} {o e e2:Expr} {to te ti:DE} {apos cpos pos:Pos}
end
section
open PySem.W PySem.Calls
variable {prog:Program} {w:World} {A:Around} {E:Value->Shared->Prop} {s:Shared} {K:Frag} {x C D:Addr} {ox:Obj} {od:Option Obj}
end
section
variable {X:Cx} {n c:Str} {C Cc a dx:Addr} {o oD:Obj} {p p1 p2 pos:Pos} {j:Nat}
end
theorem aE4.nm {K:Frag} {mg:Str->Option Value} {x:Str} {C:Addr} (h:aE4 K mg x C):mg x = some (.ref C):=h.1
def aIU (g:Bool->Bool) (ta:DE) (tn:DA):DE:=fun ρ M Q=>ta ρ M fun x M1=>tn ρ M1 fun ds M2=>match x,ds with
 | .int k,[.int i,.int j]=>Q (.bl (g (decide (i<=k/\k < j)))) M2
 | _,_=>False
section
variable {X:Cx} {a n m:Expr} {ta:DE} {tn:DA} {pos p pos':Pos}
end
section
variable {X:Cx} {o e e2:Expr} {to te ti:DE} {apos cpos pos:Pos}
end
section
variable {prog:Program} {w:World} {A:Around} {E:Value->Shared->Prop} {s:Shared} {K:Frag} {x C D:Addr} {ox:Obj} {od:Option Obj}
end
section
variable {X:Cx} {n c:Str} {C Cc a dx:Addr} {o oD:Obj} {p p1 p2 pos:Pos} {j:Nat}
end
section
variable {X:Cx} {a n m:Expr} {ta:DE} {tn:DA} {pos p pos':Pos}
end
end Dd
namespace Ty
open PySem PySem.Builtin PySem.Builtin.Str PySem.StrLaws
noncomputable abbrev cl (x:Str):List Nat:=x.cps.toList
noncomputable abbrev one (c:Nat):Str:=⟨#[c]⟩
theorem ext {x y:Str} (h:cl x = cl y):x = y:=Str.ext' (Array.toList_inj.mp h)
theorem len_cl (x:Str):x.length = (cl x).length:=rfl
theorem cl_app (x y:Str):cl (x ++ y) = cl x ++ cl y:=by
 show (x.cps ++ y.cps).toList = _
 rw [Array.toList_append]
theorem mY (x:Str) (c limit:Nat):∀ (l:List Nat) (st:Array Nat × Nat),(∀ i ∈ l,st.2<=i)->l.Pairwise (· < ·) ->
  (forIn l st (occBody x (one c) x.length limit)).run.fst.toList = st.1.toList ++ (l.filter fun i=>decide ((cl x)[i]? = some c)).take (limit - st.1.size)
 | [],st,_,_=>by
  rw [List.filter_nil,List.take_nil,append_nil];rfl
 | a :: l,st,hf,hp=>by
  rw [List.forIn_cons]
  unfold occBody
  have ha:=hf a (mem_cons_self ..)
  rw [List.pairwise_cons] at hp
  have so:=subAt_one x c a
  by_cases hc:(cl x)[a]? = some c
  ·have h1:=so.mpr hc
   rw [List.filter_cons_of_pos (by simpa using hc)]
   by_cases hs:st.1.size < limit
   ·rw [if_pos ⟨⟨⟨hs,ha⟩,h1.1⟩,h1.2⟩]
    have ih:=mY x c limit l (st.1.push a,a + (one c).length) (fun i hi=>hp.1 i hi) hp.2
    refine ih.trans ?_
    rw [Array.toList_push,Array.size_push,append_assoc,show limit - st.1.size = (limit - (st.1.size + 1)) + 1 by omega,List.take_succ_cons]
    rfl
   ·rw [if_neg fun z=>hs z.1.1.1]
    have ih:=mY x c limit l st (fun i hi=>hf i (mem_cons_of_mem _ hi)) hp.2
    refine ih.trans ?_
    rw [show limit - st.1.size = 0 by omega,take_zero,take_zero]
  ·rw [List.filter_cons_of_neg (by simpa using hc),if_neg fun z=>hc (so.mp ⟨z.1.2,z.2⟩)]
   exact mY x c limit l st (fun i hi=>hf i (mem_cons_of_mem _ hi)) hp.2
theorem aD7 (x:Str) (c limit:Nat):occurrences x (one c) 0 x.length limit = ((range' 0 (x.length + 1)).filter fun i=>decide ((cl x)[i]? = some c)).take limit:=by
 rw [occ_eq]
 have:=mY x c limit (range' 0 (x.length + 1 - 0)) (#[],0) (fun _ _=>Nat.zero_le _) List.pairwise_lt_range'
 rw [this]
 rfl
theorem oQ (c:Nat):∀ (L:List Nat) (k:Nat),((range' k (L.length + 1)).filter fun i=>decide (L[i - k]? = some c)).length = L.count c
 | [],k=>by simp [range'_succ]
 | a :: L,k=>by
  rw [length_cons,range'_succ,List.filter_cons]
  have e:((range' (k + 1) (L.length + 1)).filter fun i=>decide ((a :: L)[i - k]? = some c)) = ((range' (k + 1) (L.length + 1)).filter fun i=>decide (L[i - (k + 1)]? = some c)):=by
   refine List.filter_congr fun i hi=>?_
   obtain ⟨h1,_⟩:=List.mem_range'_1.mp hi
   rw [show i - k = (i - (k + 1)) + 1 by omega,List.getElem?_cons_succ]
  rw [e,Nat.sub_self,List.getElem?_cons_zero,List.count_cons]
  by_cases h:a = c
  ·subst h
   rw [if_pos (by simp),length_cons,oQ a L (k + 1)]
   simp
  ·rw [if_neg (by simpa using h),oQ c L (k + 1),if_neg (by simpa using h)]
   rfl
theorem occ_count (x:Str) (c:Nat):(occurrences x (one c) 0 x.length (x.length + 1)).length = (cl x).count c:=by
 rw [aD7,length_take]
 have h:=oQ c (cl x) 0
 simp only [Nat.sub_zero] at h
 rw [len_cl,h]
 have:=List.count_le_length (a:=c) (l:=cl x)
 omega
noncomputable def jl (c:Nat):List (List Nat)->List Nat
 | []=>[]
 | [x]=>x
 | x :: y :: r=>x ++ c :: jl c (y :: r)
theorem aBJ (c:Nat):∀ ss:List Str,cl (Str.join (one c) ss) = jl c (ss.map cl)
 | []=>rfl
 | [_]=>rfl
 | x :: y :: r=>by
  show cl (x ++ one c ++ Str.join (one c) (y :: r)) = _
  rw [cl_app,cl_app,aBJ c (y :: r)]
  show cl x ++ [c] ++ jl c (map cl (y :: r)) = cl x ++ c :: jl c (map cl (y :: r))
  rw [append_assoc];rfl
theorem cl_join (c:Nat) (ss:List Str):cl (glued (one c) ss) = jl c (ss.map cl):=by rw [glued_eq_join,aBJ]
theorem aBM (c:Nat):∀ ps:List (List Nat),ps ≠ []->(jl c ps).count c + 1 = ps.length + (ps.map fun p=>p.count c).sum
 | [],h=>absurd rfl h
 | [x],_=>by
  show x.count c + 1 = 1 + (x.count c + 0)
  omega
 | x :: y :: r,_=>by
  have ih:=aBM c (y :: r) (fun e=>nomatch e)
  show (x ++ c :: jl c (y :: r)).count c + 1 = _
  rw [List.count_append,List.count_cons_self,map_cons,sum_cons,length_cons]
  omega
theorem aGv {c:Nat}:∀ {a b u v:List Nat},c ∉ a->c ∉ b->a ++ c :: u = b ++ c :: v->a = b/\u = v
 | [],[],u,v,_,_,h=>⟨rfl,(List.cons.inj h).2⟩
 | [],y :: b,u,v,_,hb,h=>absurd (List.cons.inj h).1 (fun e=>hb (e ▸ mem_cons_self ..))
 | x :: a,[],u,v,ha,_,h=>absurd (List.cons.inj h).1 (fun e=>ha (e ▸ mem_cons_self ..))
 | x :: a,y :: b,u,v,ha,hb,h=>by
  obtain ⟨e,h⟩:=List.cons.inj h
  obtain ⟨e2,e3⟩:=aGv (fun z=>ha (mem_cons_of_mem _ z)) (fun z=>hb (mem_cons_of_mem _ z)) h
  exact ⟨by rw [e,e2],e3⟩
theorem jl_inj {c:Nat}:∀ {ps ss:List (List Nat)},ps ≠ []->ss ≠ []->(∀ p ∈ ps,c ∉ p)->(∀ s ∈ ss,c ∉ s)->jl c ps = jl c ss->ps = ss
 | [],_,h,_,_,_,_=>absurd rfl h
 | _,[],_,h,_,_,_=>absurd rfl h
 | [x],[y],_,_,_,_,h=>by rw [show x = y from h]
 | [x],y :: z :: r,_,_,hp,_,h=>by
  have h:x = y ++ c :: jl c (z :: r):=h
  exact absurd (by rw [h];simp) (hp x (mem_cons_self ..))
 | x :: y :: r,[z],_,_,_,hs,h=>by
  have h:x ++ c :: jl c (y :: r) = z:=h
  exact absurd (by rw [<- h];simp) (hs z (mem_cons_self ..))
 | x :: y :: r,x' :: y' :: r',_,_,hp,hs,h=>by
  have h:x ++ c :: jl c (y :: r) = x' ++ c :: jl c (y' :: r'):=h
  obtain ⟨e1,e2⟩:=aGv (hp x (mem_cons_self ..)) (hs x' (mem_cons_self ..)) h
  have e3:y :: r = y' :: r':=jl_inj (by simp) (by simp) (fun p m=>hp p (mem_cons_of_mem _ m)) (fun s m=>hs s (mem_cons_of_mem _ m)) e2
  rw [e1,e3]
theorem parts_len (x:Str) (cuts:List Nat) (w:Nat):(partsBetween x cuts w).length = cuts.length + 1:=by
 unfold partsBetween
 simp
theorem map_cl_inj:∀ {ps ss:List Str},ps.map cl = ss.map cl->ps = ss
 | [],[],_=>rfl
 | [],_ :: _,h=>nomatch h
 | _ :: _,[],h=>nomatch h
 | p :: ps,s :: ss,h=>by
  rw [map_cons,map_cons] at h
  obtain ⟨e,h⟩:=List.cons.inj h
  rw [ext e,map_cl_inj h]
theorem aCa:∀ {ns:List Nat},ns.sum = 0->∀ n ∈ ns,n = 0
 | n :: ns,h,m,hm=>by
  rw [sum_cons] at h
  rcases List.mem_cons.mp hm with rfl | hm
  ·omega
  ·exact aCa (by omega) m hm
theorem split_eq {x:Str} {c:Nat} {ss:List Str} (h:x = glued (one c) ss) (n0:ss ≠ []) (hn:∀ s ∈ ss,c ∉ cl s):partsBetween x (occurrences x (one c) 0 x.length (x.length + 1)) (one c).length = ss:=by
 have g:=glued_between_self x (one c) (x.length + 1)
 generalize hps:partsBetween x (occurrences x (one c) 0 x.length (x.length + 1)) (one c).length = ps at g ⊢
 have pl:ps.length = (cl x).count c + 1:=by rw [<- hps,parts_len,occ_count]
 have pn:ps ≠ []:=fun e=>by rw [e] at pl;cases pl
 have ej:jl c (ps.map cl) = cl x:=by rw [<- cl_join,g]
 have ct:=aBM c (ps.map cl) (fun e=>pn (List.map_eq_nil_iff.mp e))
 rw [ej,length_map,pl] at ct
 have z:((ps.map cl).map fun p=>p.count c).sum = 0:=by omega
 refine map_cl_inj (jl_inj (c:=c) (fun e=>pn (List.map_eq_nil_iff.mp e)) (fun e=>n0 (List.map_eq_nil_iff.mp e)) (fun p hp=>?_) (fun s hs=>?_) ?_)
 ·have:=aCa z _ (mem_map_of_mem hp)
  exact List.count_eq_zero.mp this
 ·obtain ⟨t,ht,rfl⟩:=List.mem_map.mp hs
  exact hn t ht
 ·rw [ej,h,cl_join]
theorem yI (c:Nat):∀ (a b:List Nat) (k:Nat),c ∉ a->∃ r,((range' k ((a ++ c :: b).length + 1)).filter fun i=>decide ((a ++ c :: b)[i - k]? = some c)) = (k + a.length) :: r
 | [],b,k,_=>by
  rw [nil_append,length_cons,range'_succ,List.filter_cons_of_pos (by simp)]
  exact ⟨_,rfl⟩
 | y :: a,b,k,h=>by
  obtain ⟨r,e⟩:=yI c a b (k + 1) (fun z=>h (mem_cons_of_mem _ z))
  rw [cons_append,length_cons,range'_succ,List.filter_cons_of_neg (by
   rw [Nat.sub_self,List.getElem?_cons_zero]
   simp
   exact fun e=>h (e ▸ mem_cons_self ..))]
  refine ⟨r,?_⟩
  rw [show k + (y :: a).length = k + 1 + a.length by rw [length_cons];omega,<- e]
  refine List.filter_congr fun i hi=>?_
  obtain ⟨h1,_⟩:=List.mem_range'_1.mp hi
  rw [show i - k = (i - (k + 1)) + 1 by omega,List.getElem?_cons_succ]
theorem part_found {x:Str} {c:Nat} {a b:List Nat} (h:cl x = a ++ c :: b) (hn:c ∉ a):occurrences x (one c) 0 x.length 1 = [a.length]:=by
 rw [aD7,len_cl,h]
 obtain ⟨r,e⟩:=yI c a b 0 hn
 simp only [Nat.sub_zero,Nat.zero_add] at e
 rw [e];rfl
theorem part_none {x:Str} {c:Nat} (h:c ∉ cl x):occurrences x (one c) 0 x.length 1 = []:=by
 have:=found_one x c
 rw [decide_eq_false h] at this
 cases e:occurrences x (one c) 0 x.length 1 with
 | nil=>rfl
 | cons i r=>rw [e] at this;cases this
theorem cl_sub (x:Str) (i j:Nat):cl (strSub x i j) = ((cl x).drop i).take (j - i):=strSub_toList x i j
end Ty
namespace Dd
open PySem PySem.Spec PyProof.Rows L2 Mz
open PySem.Builtin.Str (glued occurrences partsBetween strSub subAt)
theorem uR {n:Nat} (h:n<=1000000):n<=sizeLine:=Nat.le_trans h (by decide)
def aJF:D2:=fun x y M Q=>match x,y with
 | .str i,.str j=>i.length + j.length<=1000000/\Q (.str (i ++ j)) M
 | _,_=>False
def aJx:D2:=fun x y M Q=>match x,y with
 | .str i,.int n=>(n = 0 ∨ n = 1)/\Q (.str (if n = 1 then i else Str.empty)) M
 | _,_=>False
def aM7:DSp:=fun ds M Q=>match ds with
 | [.int i]=>i.natAbs.log2 < 1920/\Q (.str (toString i)) M
 | _=>False
def aJz:DSp:=fun ds M Q=>match ds with
 | [.str x]=>∃ n,PySem.intText? x = some n/\x.length<=640/\Q (.int n) M
 | _=>False
section
variable {X:Cx}
theorem aA5:OpD X (binaryOp .Add) aJF:=fun pins s σ H x y v u Q I rx ry ⟨dx,dy,M,Q',r1,r2,hm,q,k⟩=>by
 match dx,dy,q with
 | .str i,.str j,q =>
  obtain ⟨hl,q⟩:=q
  obtain rfl:=bC r1
  obtain rfl:=bC r2
  exact aDd pins s σ H _ _ v u Q I rx ry ⟨i,j,rfl,rfl,uR hl,k _ H ⟨_,M,eS,hm,.refl H,q⟩⟩
theorem aIz:OpD X (binaryOp .Mult) aJx:=fun pins s σ H x y v u Q I rx ry ⟨dx,dy,M,Q',r1,r2,hm,q,k⟩=>by
 match dx,dy,q with
 | .str i,.int n,q =>
  obtain ⟨hn,q⟩:=q
  obtain rfl:=bC r1
  obtain rfl:=aT r2
  obtain ⟨t,rfl⟩:=rx
  obtain ⟨t2,rfl⟩:=ry
  rcases hn with rfl | rfl
  ·refine SB.mul ⟨by decide,fun h=>absurd (by decide) h,fun h=>absurd (by decide) h⟩ fun t' tk=>?_
   exact ⟨.str Str.empty,H,I.tok _,⟨_,rfl⟩,k _ H ⟨.str Str.empty,M,eS,hm,.refl H,q⟩⟩
  ·refine SB.mul ⟨by decide,fun _ h=>absurd h (by simp),fun _ h=>absurd h (by simp)⟩ fun t' tk=>?_
   exact ⟨.str i,H,I.tok _,⟨_,rfl⟩,k _ H ⟨.str i,M,eS,hm,.refl H,q⟩⟩
theorem aCW:gK X (.type "str") aM7:=gK.of aA8 fun vs H M ds Q rs hm q=>by
 match ds,q with
 | [.int i],q =>
  obtain ⟨hl,q⟩:=q
  obtain ⟨v,rfl,rv⟩:=fD rs
  obtain rfl:=aT rv
  exact ⟨i,rfl,hl,_,M,eS,hm,.refl H,q⟩
theorem aDN:gK X (.type "int") aJz:=by
 intro pins s σ H xs us Q I rs ⟨ds,M,Q',r1,hm,q,k⟩
 match ds,q with
 | [.str x],q =>
  obtain ⟨n,hn,hl,q⟩:=q
  obtain ⟨v,rfl,rv⟩:=fD r1
  obtain rfl:=bC rv
  obtain ⟨u,rfl,ru⟩:=sR rs
  obtain ⟨t,rfl⟩:=ru
  exact PySem.W.KIN.call_text hn hl ⟨.int n,H,I.tok _,⟨_,rfl⟩,k _ H ⟨_,M,bU,hm,.refl H,q⟩⟩
theorem zV:∀ {ss:List Str} {its:List Value},cG (ss.map V.str) its->∃ l:List (Str × Tok),its = strValues l/\l.map (·.1) = ss
 | [],_,.nil=>⟨[],rfl,rfl⟩
 | x :: ss,_,.cons r rr=>by
  obtain ⟨t,rfl⟩:=r
  obtain ⟨l,e1,e2⟩:=zV rr
  exact ⟨(x,t) :: l,by rw [e1];rfl,by rw [map_cons,e2]⟩
theorem aAa:∀ (ss:List Str) (tk:Nat),cG (ss.map V.str) (strsFrom tk ss)
 | [],_=>.nil
 | x :: ss,tk=>.cons ⟨tk,rfl⟩ (aAa ss (tk + 1))
theorem aCO (n:Nat):∀ (ss:List Str) (a:Nat),ss.foldl (fun acc p=>acc + p.length + n) a = a + (ss.map (·.length)).sum + ss.length * n
 | [],a=>by simp
 | x :: ss,a=>by
  rw [foldl_cons,aCO n ss,map_cons,sum_cons,length_cons,Nat.add_mul]
  omega
def aMW:V->List V->Hp->VK->Prop:=fun x vs H Q=>∃ sep a ss,x = .str sep/\vs = [.ref a]/\H a = some (.lst (ss.map V.str))/\(ss.map (·.length)).sum + ss.length * sep.length<=1000000/\Q (.str (glued sep ss)) H
theorem aIZ:MtM X "str.join" aMW:=by
 intro pins s σ H x vs v us Q I rx rv ⟨sep,a,ss,e1,e2,hH,hl,q⟩
 subst e1 e2
 obtain ⟨t,rfl⟩:=rx
 obtain ⟨u,rfl,ru⟩:=rv.one
 cases ru
 obtain ⟨z,its,n,r,hz,e⟩:=I.lstM hH
 obtain ⟨l,rfl,rfl⟩:=zV r
 refine call_meets PySem.F.slot_str_join (typeIs_str _ _ _) PySem.F.entry_str_join (PySem.F.args_str_join_2 _ _) (meets_str_join_list sep t a l ?_) ⟨⟨_,e,rfl,_,rfl⟩,?_⟩
 ·unfold Builtin.Str.tooLong
  rw [List.foldl_toArray,aCO]
  have:=uR hl
  exact decide_eq_false (by omega)
 ·match l,q with
  | [p],q=>exact ⟨.str p.1,H,I,⟨_,rfl⟩,q⟩
  | [],q=>exact ⟨Nat.zero_le _,.str _,H,I.tok _,⟨_,rfl⟩,q⟩
  | p :: p2 :: l,q =>
   refine ⟨?_,.str _,H,I.tok _,⟨_,rfl⟩,q⟩
   refine uR ?_
   rw [size_glued,length_map]
   rw [length_map] at hl
   rw [Nat.sub_mul]
   omega
def aLn:V->List V->Hp->VK->Prop:=fun x vs H Q=>∃ y c ss,x = .str y/\vs = [.str (Ty.one c)]/\y = glued (Ty.one c) ss/\ss ≠ []/\(∀ s ∈ ss,c ∉ Ty.cl s)/\c < 256/\y.length<=900000/\∀ p,H p = none->Q (.ref p) (upd H p (.lst (ss.map V.str)))
theorem aFp:MtM X "str.split" aLn:=by
 intro pins s σ H x vs v us Q I rx rv ⟨y,c,ss,e1,e2,hy,n0,hn,hc,hl,q⟩
 subst e1 e2
 obtain ⟨t,rfl⟩:=rx
 obtain ⟨u,rfl,ru⟩:=rv.one
 obtain ⟨t2,rfl⟩:=ru
 have sp:=Ty.split_eq hy n0 hn
 have lz:ss.length<=sizeLine:=by
  have:=Ty.parts_len y (occurrences y (Ty.one c) 0 y.length (y.length + 1)) (Ty.one c).length
  rw [sp] at this
  have h2:=PySem.StrLaws.occ_length_le y (Ty.one c) 0 y.length (y.length + 1)
  refine uR ?_
  omega
 have fin:∀ (its:List Value) (tk:Nat),cG (ss.map V.str) its->EP X pins σ Q (.ref s.heap.objs.size) { s with heap:=s.heap.push { cls:=.type "list",data:=.seq its.toArray },toks:=tk }:=fun its tk hv =>
  ⟨.ref _,_,I.lnew hv (by rw [length_map];exact lz),rfl,q _ I.fresh⟩
 by_cases ho:(occurrences y (Ty.one c) 0 y.length (y.length + 1)).isEmpty = true
 ·have e0:occurrences y (Ty.one c) 0 y.length (y.length + 1) = []:=List.isEmpty_iff.mp ho
  have es:ss = [y]:=by
   rw [e0] at sp
   rw [<- sp]
   show [strSub y 0 y.length] = [y]
   rw [show strSub y 0 y.length = y from Ty.ext (by rw [Ty.cl_sub,drop_zero,Nat.sub_zero,Ty.len_cl,take_length])]
  have fin1:=fin [.str y t] s.toks (by rw [es];exact .cons ⟨t,rfl⟩ .nil)
  by_cases h1:(decide (y.length < (Ty.one c).length) || decide (Builtin.Str.strKind y < Builtin.Str.strKind (Ty.one c))) = true
  ·exact call_meets PySem.F.slot_str_split (typeIs_str _ _ _) PySem.F.entry_str_split (PySem.F.args_str_split_2 _ _) (meets_str_split_cannot_occur y (Ty.one c) t t2 h1) fin1
  ·exact call_meets PySem.F.slot_str_split (typeIs_str _ _ _) PySem.F.entry_str_split (PySem.F.args_str_split_2 _ _) (meets_str_split_not_found y (Ty.one c) t t2 (by simpa using h1) rfl ho) fin1
 ·have ho':(occurrences y (Ty.one c) 0 y.length (y.length + 1)).isEmpty = false:=by simpa using ho
  have l1:1<=y.length:=by
   have h2:=Ty.occ_count y c
   have h3:(occurrences y (Ty.one c) 0 y.length (y.length + 1)).length ≠ 0:=fun z=>ho (by rw [List.length_eq_zero_iff.mp z];rfl)
   have h4:=List.count_le_length (a:=c) (l:=Ty.cl y)
   rw [Ty.len_cl]
   omega
  have kc:Builtin.Str.strKind (Ty.one c) = 1:=by
   unfold Builtin.Str.strKind
   rw [if_pos (by simpa using hc)]
  have ky:1<=Builtin.Str.strKind y:=by
   unfold Builtin.Str.strKind
   split
   ·exact Nat.le_refl _
   ·split<;>decide
  have h1:(decide (y.length < (Ty.one c).length) || decide (Builtin.Str.strKind y < Builtin.Str.strKind (Ty.one c))) = false:=by
   rw [kc,decide_eq_false (show ¬ y.length < (Ty.one c).length by show ¬ y.length < 1;omega),decide_eq_false (by omega)];rfl
  refine call_meets PySem.F.slot_str_split (typeIs_str _ _ _) PySem.F.entry_str_split (PySem.F.args_str_split_2 _ _) (meets_str_split_sep y (Ty.one c) t t2 h1 rfl ho' (uR (by omega)) (by rw [sp];exact lz)) ?_
  rw [sp]
  exact fin _ _ (aAa ss _)
def aMT:V->List V->Hp->VK->Prop:=fun x vs H Q=>∃ y c,x = .str y/\vs = [.str (Ty.one c)]/\y.length<=900000 /\
 (
  (c ∉ Ty.cl y/\∀ p,H p = none->Q (.ref p) (upd H p (.tup [.str y,.str Str.empty,.str Str.empty]))) ∨
  (∃ a b:Str,Ty.cl y = Ty.cl a ++ c :: Ty.cl b/\c ∉ Ty.cl a/\∀ p,H p = none->Q (.ref p) (upd H p (.tup [.str a,.str (Ty.one c),.str b]))))
theorem aHX:MtM X "str.partition" aMT:=by
 intro pins s σ H x vs v us Q I rx rv ⟨y,c,e1,e2,hl,q⟩
 subst e1 e2
 obtain ⟨t,rfl⟩:=rx
 obtain ⟨u,rfl,ru⟩:=rv.one
 obtain ⟨t2,rfl⟩:=ru
 refine call_meets PySem.F.slot_str_partition (typeIs_str _ _ _) PySem.F.entry_str_partition (PySem.F.args_str_partition_2 _ _) (meets_str_partition y (Ty.one c) t t2 rfl (uR (by omega))) ?_
 rcases q with ⟨hc,q⟩ | ⟨a,b,hy,hc,q⟩
 ·rw [Ty.part_none hc]
  exact ⟨.ref _,_,I.laid (t':=s.toks + 1) (o:=.tup [.str y,.str Str.empty,.str Str.empty]) (fun b ob q=>Heap.get?_push_of_some _ q) (Nat.le_refl _) ⟨(show (3:Nat)<=sizeLine by decide),_,.cons ⟨_,rfl⟩ (.cons ⟨_,rfl⟩ (.cons ⟨_,rfl⟩ .nil)),IsTup.new _ _⟩,rfl,q _ I.fresh⟩
 ·rw [Ty.part_found hy hc]
  have ea:strSub y 0 (Ty.cl a).length = a:=Ty.ext (by rw [Ty.cl_sub,drop_zero,Nat.sub_zero,hy,List.take_left])
  have eb:strSub y ((Ty.cl a).length + (Ty.one c).length) y.length = b:=Ty.ext (by
   rw [Ty.cl_sub,hy,show (Ty.cl a).length + (Ty.one c).length = (Ty.cl a ++ [c]).length by rw [length_append];rfl,show Ty.cl a ++ c :: Ty.cl b = (Ty.cl a ++ [c]) ++ Ty.cl b by rw [append_assoc];rfl,List.drop_left]
   refine take_of_length_le ?_
   rw [Ty.len_cl,hy]
   rw [length_append,length_append,length_cons,length_cons,length_nil]
   omega)
  show EP X pins σ Q (.ref s.heap.objs.size) { s with toks:=s.toks + 1 + 1,heap:=s.heap.push { cls:=.type "tuple",data:=.seq [.str (strSub y 0 (Ty.cl a).length) s.toks,.str (Ty.one c) t2,.str (strSub y ((Ty.cl a).length + (Ty.one c).length) y.length) (s.toks + 1)].toArray } }
  rw [ea,eb]
  exact ⟨.ref _,_,I.laid (t':=s.toks + 1 + 1) (o:=.tup [.str a,.str (Ty.one c),.str b]) (fun b ob q=>Heap.get?_push_of_some _ q) (Nat.le_refl _) ⟨(show (3:Nat)<=sizeLine by decide),_,.cons ⟨_,rfl⟩ (.cons ⟨_,rfl⟩ (.cons ⟨_,rfl⟩ .nil)),IsTup.new _ _⟩,rfl,q _ I.fresh⟩
noncomputable def startB (x y:Str):Bool:=decide (0 + y.length<=x.length) && subAt x y 0
def aLc:V->List V->Hp->VK->Prop:=fun x vs H Q=>∃ y z,x = .str y/\vs = [.str z]/\Q (.bl (startB y z)) H
theorem aFi:MtM X "str.startswith" aLc:=by
 intro pins s σ H x vs v us Q I rx rv ⟨y,z,e1,e2,q⟩
 subst e1 e2
 obtain ⟨t,rfl⟩:=rx
 obtain ⟨u,rfl,ru⟩:=rv.one
 obtain ⟨t2,rfl⟩:=ru
 exact call_gives PySem.F.slot_str_startswith (typeIs_str _ _ _) PySem.F.entry_str_startswith (PySem.F.args_str_startswith_2 _ _) (gives_str_startswith y z t t2) ⟨.bl _,H,I,rfl,q⟩
noncomputable def ascB (x:Str):Bool:=x.cps.all (· < 128)
noncomputable def digB (x:Str):Bool:=x.length > 0 && x.cps.all Unicode.isDigit
def aPp:V->List V->Hp->VK->Prop:=fun x vs H Q=>∃ y,x = .str y/\vs = []/\Q (.bl (ascB y)) H
def aPb:V->List V->Hp->VK->Prop:=fun x vs H Q=>∃ y,x = .str y/\vs = []/\Q (.bl (digB y)) H
theorem aK1:MtM X "str.isascii" aPp:=by
 intro pins s σ H x vs v us Q I rx rv ⟨y,e1,e2,q⟩
 subst e1 e2
 obtain ⟨t,rfl⟩:=rx
 obtain rfl:=rv.zero
 exact call_gives PySem.F.slot_str_isascii (typeIs_str _ _ _) PySem.F.entry_str_isascii (PySem.F.args_str_isascii_1 _) (gives_str_isascii y t) ⟨.bl _,H,I,rfl,q⟩
theorem aKK:MtM X "str.isdigit" aPb:=by
 intro pins s σ H x vs v us Q I rx rv ⟨y,e1,e2,q⟩
 subst e1 e2
 obtain ⟨t,rfl⟩:=rx
 obtain rfl:=rv.zero
 exact call_gives PySem.F.slot_str_isdigit (typeIs_str _ _ _) PySem.F.entry_str_isdigit (PySem.F.args_str_isdigit_1 _) (gives_str_isdigit y t) ⟨.bl _,H,I,rfl,q⟩
theorem aIF:SlR X fun x lo hi H Q=>∃ y i,x = .str y/\lo = some i/\hi = none/\y.length<=1000000/\Q (.str (Txt.slice y (some i) none)) H:=by
 intro pins s σ H x v vl vu lo hi sl Q I rx hs pl pu ⟨y,i,e1,e2,e3,hl,q⟩
 subst e1 e2 e3
 obtain ⟨t,rfl⟩:=rx
 cases pl with
 | int _ tl =>
  cases pu
  exact ⟨"str",_,PySem.F.slot_str_getitem.lookup,typeIs_str _ _ _,wpAny_getItem_str_slice (l:=some (i,tl)) (u:=none) (st:=none) hs rfl (post_val_or_str ⟨Nat.le_trans (Txt.slice_le y _ _) (uR hl),fun t' k=>⟨.str _,H,I.tok _,⟨_,rfl⟩,q⟩⟩)⟩
end
open PySem.Builtin.Str (glued)
section
variable {prog:Program} {w:World} {A:Around} {E:Value->Shared->Prop} {s:Shared}
theorem aCg (hh:A.handled = none) (I l:Addr) (hne:l ≠ I) (items:Array Value) (h1:1<=items.size) :
  Walks prog w A I [I,l] [I] (items.size - 1) (fun i v=>items[1 + i]? = some v) (fun i h=>h.IsListIter I l (1 + i)/\h.IsList l items) where
 sub:=fun b hb=>by simp at hb;simp [hb]
 frame:=fun _ _ _ x hk=>⟨x.1.at fun o e=>hk I (by simp) o e,x.2.at fun o e=>hk l (by simp) o e⟩
 item:=fun i s Q E hi x hQ=>by
  have hx:items[1 + i]? = some (items[1 + i]'(by omega)):=Array.getElem?_eq_getElem (by omega)
  refine wpAny_pyNext_list_item x.1 x.2 hx fun h' hit' hs'=>?_
  exact hQ _ h' s.toks hx ⟨hit',x.2.at fun o eo=>(hs'.2 l hne).trans eo⟩ fun b o hb eo=>hs'.extBut b o (fun h=>hb (by simp [h])) eo
 done:=fun s Q E x hQ=>by
  exact wpAny_pyNext_list_end hh x.1 x.2 (by rw [Array.getElem?_eq_none];omega) fun h' he'=>hQ h' s.toks fun b o hb eo=>he' b o (fun h=>hb (by simp [h])) eo
 self:=fun _ _ _ _ x hQ=>wpAny_pyIter_listiter x.1 hQ
theorem vZ {t:Addr} {v0:Value} {vs:List Value} {Q:List Value->Shared->Prop} (hh:A.handled = none) (ht:s.heap.IsList t (v0 :: vs).toArray) (hz:vs.length<=sizeLine)
  (hQ:∀ (h':Heap) (tk:Nat),(∀ b o,s.heap.get? b = some o->h'.get? b = some o)->Q [v0,.ref h'.objs.size] { s with heap:=h'.push { cls:=.type "list",data:=.seq vs.toArray },toks:=tk }):wpAny (model prog w) A (unpackItems (.ref t) 2 (some 1)) Q E s:=by
 have hlt:t ≠ s.heap.objs.size:=by obtain ⟨o,ho,_⟩:=ht;exact Nat.ne_of_lt (Heap.lt_size ho)
 unfold unpackItems
 refine wpAny_bind ?_
 ·unfold notIterableAtAll
  refine wpAny_bind (wpAny_specialOf ht.typeIs slot_list_iter.lookup ?_)
  refine wpAny_pure ?_
  simp only [Bool.false_eq_true,if_false]
  refine wpAny_bind (wpAny_holding (wpAny_pyIter_list ht ?_))
  refine wpAny_bind (wpAny_holding (uT hlt 1 0 _ _ ⟨_,Heap.get?_push_size _ rfl,rfl,rfl⟩ (kY ht _) (by simp) fun h₁ hit₁ hs₁=>?_))
  have hall:List.take 1 (List.drop 0 (v0 :: vs).toArray.toList) = [v0]:=rfl
  rw [hall]
  rw [if_neg (by simp)]
  have ht₁:h₁.IsList t (v0 :: vs).toArray:=qW (kY ht _) hs₁ hlt
  have W:=(aCg (prog:=prog) (w:=w) (A:=A.in1) hh s.heap.objs.size t hlt (v0 :: vs).toArray (by simp)).toS
  refine wpAny_bind (wpAny_holding (wpAny_collect_iter (T:="list_iterator") (.inr (.inr (.inl rfl))) W ?_ ?_ ?_ (by simp) ?_ ?_))
  ·intro i s' x
   exact x.1.typeIs
  ·exact ⟨hit₁,ht₁⟩
  ·intro b hb
   have le:s.heap.objs.size < h₁.objs.size:=Heap.lt_size hit₁.choose_spec.1
   rcases List.mem_cons.mp hb with rfl | hb
   ·exact le
   ·rw [List.mem_singleton.mp hb]
    exact Heap.lt_size ht₁.choose_spec.1
  ·intro s' acc mv it
   have ea:acc.toList = vs:=by
    refine List.ext_getElem? fun j=>?_
    have hs:=it.1
    by_cases hj:j < acc.size
    ·have e1:acc[j]? = some acc[j]:=Array.getElem?_eq_getElem hj
     have e2:=it.2 j _ e1
     rw [Array.getElem?_toList,e1,<- e2,List.getElem?_toArray,Nat.add_comm 1 j,List.getElem?_cons_succ]
    ·have hl:acc.size = vs.length:=by rw [hs];simp
     rw [List.getElem?_eq_none (by rw [Array.length_toList];omega),List.getElem?_eq_none (by omega)]
   rw [ea]
   rw [if_neg (by omega),show 2 - 1 - 1 = 0 from rfl,Nat.sub_zero,take_length,drop_length]
   refine wpAny_bind (wpAny_newList ?_ hz)
   refine wpAny_pure ?_
   have es:s' = { s with heap:=s'.heap,toks:=s'.toks }:=by
    obtain ⟨hp,gg,dd,tt,oo⟩:=s'
    have g1:=mv.gens
    have g2:=mv.drawn
    have g3:=mv.os
    dsimp only at g1 g2 g3
    subst g1 g2 g3
    rfl
   rw [es]
   refine hQ s'.heap s'.toks fun b o e=>?_
   have nb:b ≠ s.heap.objs.size:=Nat.ne_of_lt (Heap.lt_size e)
   exact mv.heap b o (by simp [nb]) (hs₁.extBut b o nb (Heap.get?_push_of_some _ e))
  ·simp;exact hz
end
section
variable {X:Cx} {pos:Pos} {e a b o e1 e2 e3:Expr} {es:List Expr} {te ta tb to t1 t2 t3:DE} {apos cpos:Pos}
def aGd (t:DGs):DG:=fun d ρ M Q=>match d with
 | .ref a=>∃ d0 ds,M a = some (d0 :: ds)/\∀ p:Addr,M p = none->t [d0,.ref p] ρ (bH M p ds) Q
 | _=>False
theorem aH9 {k:Nat} {t:DGs} {ps:Pos} (hc:X.calm = true) (h:aAU X [e1,e2] t) (heq:(assignEach [e1,.Starred e2 ps] X.env).map (·.2) = (assignEach [e1,e2] X.env).map (·.2):=by rfl)
  (hn:(assignEach [e1,.Starred e2 ps] X.env).length = 2:=by rfl) (hst:(assignEach [e1,.Starred e2 ps] X.env).findIdx? (·.1) = some 1:=by rfl):PDG X (.Tuple [e1,.Starred e2 ps] k pos) (aGd t):=by
 intro pins s σ H v u Q I r ⟨d,ρ,M,Q',rd,re,hm,q,k'⟩
 match d,q with
 | .ref p,q =>
  obtain ⟨d0,ds,hp,q⟩:=q
  obtain rfl:=bE rd
  cases r
  obtain ⟨us,hu,ru⟩:=hm.l p _ hp
  obtain ⟨u0,us',rfl,ru0,ru'⟩:=aW ru
  obtain ⟨z,its,nn,rv,hlen,e1'⟩:=I.lstM hu
  obtain ⟨v0,vs,rfl,rv0,rvs⟩:∃ v0 vs,its = v0 :: vs/\cS u0 v0/\cG us' vs:=by cases rv with | cons r t=>exact ⟨_,_,rfl,r,t⟩
  rw [assign_Tuple]
  refine wpAny_bind (wpAny_standAt ?_)
  unfold unpack
  rw [hn,hst]
  have hz:us'.length<=sizeLine:=by rw [length_cons] at z;omega
  refine wpAny_bind (wpAny_holding (vZ (I.ok.hd hc) ⟨_,e1',rfl,_,rfl⟩ (by rw [<- rvs.length];exact hz) fun h' tk hk=>?_))
  rw [heq]
  have I1:Inv X pins σ H { s with heap:=h',toks:=tk }:=I.kept (t':=tk) fun b o e=>hk b o e
  have I2:=I1.lnew (t':=tk) rvs hz
  have hn1:=I1.fresh
  exact h pins _ σ _ [u0,.ref h'.objs.size] [v0,.ref h'.objs.size] Q I2 (.cons rv0 (.cons rfl .nil)) ⟨[d0,.ref h'.objs.size],ρ,bH M h'.objs.size ds,Q',bJ (ru0.ext (Ext.new hn1 _)) (bJ gP cP),re.ext (Ext.new hn1 _),hm.lnew hn1 ru',q _ (hm.fresh hn1),fun σ' H' ⟨ρ2,M2,r2,hm2,ex2,q2⟩=>k' σ' H' ⟨ρ2,M2,r2,hm2,(Ext.new hn1 _).trans ex2,q2⟩⟩
theorem aAc {K:Frag} {H:Hp}:∀ {ss:List Str} {us:List V},bZ K H (ss.map D.str) us->us = ss.map V.str
 | [],us,r=>by rw [bV r];rfl
 | x :: ss,us,r=>by
  obtain ⟨v,r2,rfl,hv,hr⟩:=aW r
  obtain rfl:=bC hv
  rw [aAc hr];rfl
theorem aAd {K:Frag} {H:Hp}:∀ (ss:List Str),bZ K H (ss.map D.str) (ss.map V.str)
 | []=>cP
 | x :: ss=>bJ eS (aAd ss)
def aJg (sep:Str) (Q:DQ) (ds:List D) (M2:DM):Prop:=match ds with
 | [.ref a]=>∃ ss:List Str,M2 a = some (ss.map D.str)/\(ss.map (·.length)).sum + ss.length * sep.length<=1000000/\Q (.str (glued sep ss)) M2
 | _=>False
def aFe (to te:DE):DE:=fun ρ M Q=>to ρ M fun x M1=>match x with
 | .str sep=>jB te mK ρ M1 (aJg sep Q)
 | _=>False
theorem aIb (ho:PDE X o to) (he:PDE X e te) (hse:starEach [e] X.env = (false,eval e X.env) :: starEach [] X.env:=by rfl)
  (hbase:attributeBase o "join" X.env (eval o X.env) = eval o X.env:=by rfl)
  (hfew:((backTo cpos (starEach [e] X.env)).all (fun x=>!x.1) && (backToKw cpos (keywordEach [] X.env)).all (fun x=>x.1.isSome)
   && decide ([e].length + ([]:List Keyword).length + (if ([]:List Keyword).isEmpty then 0 else 1) < 30)) = true:=by rfl)
  (hline:(apos.endLine == cpos.line) = true:=by rfl) (hplain:(backTo cpos (starEach [] X.env)).any (·.1) = false:=by rfl) :
  PDE X (.Call (.Attribute o "join" apos) [e] [] cpos) (aFe to te) :=
 cO (aB1 PySem.F.plainAttrs_str PySem.F.slot_str_join PySem.F.type_str_join aIZ ho (kS he oZ hse) hbase hfew hline hse hplain) fun σ H Q ⟨ρ,M,Q',re,hm,q,k⟩=>⟨ρ,M,_,re,hm,q,fun v H1 ⟨d,M1,rd,hm1,e1,q1⟩=>by
  match d,q1 with
  | .str sep,q1 =>
   obtain rfl:=bC rd
   refine ⟨rfl,ρ,M1,_,re.ext e1,hm1,q1,fun vs H2 ⟨dvs,M2,rs,hm2,e2,q2⟩=>?_⟩
   match dvs,q2 with
   | [.ref a],q2 =>
    obtain ⟨ss,ha,hl,q2⟩:=q2
    obtain ⟨w,rfl,rw'⟩:=fD rs
    obtain rfl:=bE rw'
    obtain ⟨us,hu,ru⟩:=hm2.l a _ ha
    obtain rfl:=aAc ru
    exact ⟨sep,a,ss,rfl,rfl,hu,hl,k _ _ ⟨_,M2,eS,hm2,e1.trans e2,q2⟩⟩⟩
def aGk (y:Str) (Q:DQ) (ds:List D) (M2:DM):Prop:=match ds with
 | [.str z]=>∃ c ss,z = Ty.one c/\y = glued (Ty.one c) ss/\ss ≠ []/\(∀ s ∈ ss,c ∉ Ty.cl s)/\c < 256/\y.length<=900000/\∀ p:Addr,M2 p = none->Q (.ref p) (bH M2 p (ss.map D.str))
 | _=>False
def aC4 (to te:DE):DE:=fun ρ M Q=>to ρ M fun x M1=>match x with
 | .str y=>jB te mK ρ M1 (aGk y Q)
 | _=>False
theorem aFf (ho:PDE X o to) (he:PDE X e te) (hse:starEach [e] X.env = (false,eval e X.env) :: starEach [] X.env:=by rfl)
  (hbase:attributeBase o "split" X.env (eval o X.env) = eval o X.env:=by rfl)
  (hfew:((backTo cpos (starEach [e] X.env)).all (fun x=>!x.1) && (backToKw cpos (keywordEach [] X.env)).all (fun x=>x.1.isSome)
   && decide ([e].length + ([]:List Keyword).length + (if ([]:List Keyword).isEmpty then 0 else 1) < 30)) = true:=by rfl)
  (hline:(apos.endLine == cpos.line) = true:=by rfl) (hplain:(backTo cpos (starEach [] X.env)).any (·.1) = false:=by rfl) :
  PDE X (.Call (.Attribute o "split" apos) [e] [] cpos) (aC4 to te) :=
 cO (aB1 PySem.F.plainAttrs_str PySem.F.slot_str_split PySem.F.type_str_split aFp ho (kS he oZ hse) hbase hfew hline hse hplain) fun σ H Q ⟨ρ,M,Q',re,hm,q,k⟩=>⟨ρ,M,_,re,hm,q,fun v H1 ⟨d,M1,rd,hm1,e1,q1⟩=>by
  match d,q1 with
  | .str y,q1 =>
   obtain rfl:=bC rd
   refine ⟨rfl,ρ,M1,_,re.ext e1,hm1,q1,fun vs H2 ⟨dvs,M2,rs,hm2,e2,q2⟩=>?_⟩
   match dvs,q2 with
   | [.str z],q2 =>
    obtain ⟨c,ss,ez,ey,n0,hn,hc,hl,q2⟩:=q2
    obtain ⟨w,rfl,rw'⟩:=fD rs
    obtain rfl:=bC rw'
    exact ⟨y,c,ss,rfl,by rw [ez],ey,n0,hn,hc,hl,fun p hp=>k _ _ ⟨.ref p,_,gP,hm2.lnew hp (aAd ss),(e1.trans e2).trans (Ext.new hp _),q2 p (hm2.fresh hp)⟩⟩⟩
def aJD (y:Str) (Q:DQ) (ds:List D) (M2:DM):Prop:=match ds with
 | [.str z]=>∃ c,z = Ty.one c/\y.length<=900000/\((c ∉ Ty.cl y/\Q (.tup [.str y,.str Str.empty,.str Str.empty]) M2) ∨ (∃ a b:Str,Ty.cl y = Ty.cl a ++ c :: Ty.cl b/\c ∉ Ty.cl a/\Q (.tup [.str a,.str (Ty.one c),.str b]) M2))
 | _=>False
def aGG (to te:DE):DE:=fun ρ M Q=>to ρ M fun x M1=>match x with
 | .str y=>jB te mK ρ M1 (aJD y Q)
 | _=>False
theorem aIR (ho:PDE X o to) (he:PDE X e te) (hse:starEach [e] X.env = (false,eval e X.env) :: starEach [] X.env:=by rfl)
  (hbase:attributeBase o "partition" X.env (eval o X.env) = eval o X.env:=by rfl)
  (hfew:((backTo cpos (starEach [e] X.env)).all (fun x=>!x.1) && (backToKw cpos (keywordEach [] X.env)).all (fun x=>x.1.isSome)
   && decide ([e].length + ([]:List Keyword).length + (if ([]:List Keyword).isEmpty then 0 else 1) < 30)) = true:=by rfl)
  (hline:(apos.endLine == cpos.line) = true:=by rfl) (hplain:(backTo cpos (starEach [] X.env)).any (·.1) = false:=by rfl) :
  PDE X (.Call (.Attribute o "partition" apos) [e] [] cpos) (aGG to te) :=
 cO (aB1 PySem.F.plainAttrs_str PySem.F.slot_str_partition PySem.F.type_str_partition aHX ho (kS he oZ hse) hbase hfew hline hse hplain) fun σ H Q ⟨ρ,M,Q',re,hm,q,k⟩=>⟨ρ,M,_,re,hm,q,fun v H1 ⟨d,M1,rd,hm1,e1,q1⟩=>by
  match d,q1 with
  | .str y,q1 =>
   obtain rfl:=bC rd
   refine ⟨rfl,ρ,M1,_,re.ext e1,hm1,q1,fun vs H2 ⟨dvs,M2,rs,hm2,e2,q2⟩=>?_⟩
   match dvs,q2 with
   | [.str z],q2 =>
    obtain ⟨c,ez,hl,q2⟩:=q2
    obtain ⟨w,rfl,rw'⟩:=fD rs
    obtain rfl:=bC rw'
    refine ⟨y,c,rfl,by rw [ez],hl,?_⟩
    rcases q2 with ⟨hc,q2⟩ | ⟨a,b,hy,hc,q2⟩
    ·exact .inl ⟨hc,fun p hp=>k _ _ ⟨.tup _,M2,cI (.of dN) (bJ eS (bJ eS (bJ eS cP))),hm2.new hp _,(e1.trans e2).trans (Ext.new hp _),q2⟩⟩
    ·exact .inr ⟨a,b,hy,hc,fun p hp=>k _ _ ⟨.tup _,M2,cI (.of dN) (bJ eS (bJ eS (bJ eS cP))),hm2.new hp _,(e1.trans e2).trans (Ext.new hp _),q2⟩⟩⟩
def aFt (y:Str) (Q:DQ) (ds:List D) (M2:DM):Prop:=match ds with
 | [.str z]=>Q (.bl (startB y z)) M2
 | _=>False
def aDt (to te:DE):DE:=fun ρ M Q=>to ρ M fun x M1=>match x with
 | .str y=>jB te mK ρ M1 (aFt y Q)
 | _=>False
theorem aFH (ho:PDE X o to) (he:PDE X e te) (hse:starEach [e] X.env = (false,eval e X.env) :: starEach [] X.env:=by rfl)
  (hbase:attributeBase o "startswith" X.env (eval o X.env) = eval o X.env:=by rfl)
  (hfew:((backTo cpos (starEach [e] X.env)).all (fun x=>!x.1) && (backToKw cpos (keywordEach [] X.env)).all (fun x=>x.1.isSome)
   && decide ([e].length + ([]:List Keyword).length + (if ([]:List Keyword).isEmpty then 0 else 1) < 30)) = true:=by rfl)
  (hline:(apos.endLine == cpos.line) = true:=by rfl) (hplain:(backTo cpos (starEach [] X.env)).any (·.1) = false:=by rfl) :
  PDE X (.Call (.Attribute o "startswith" apos) [e] [] cpos) (aDt to te) :=
 cO (aB1 PySem.F.plainAttrs_str PySem.F.slot_str_startswith PySem.F.type_str_startswith aFi ho (kS he oZ hse) hbase hfew hline hse hplain) fun σ H Q ⟨ρ,M,Q',re,hm,q,k⟩=>⟨ρ,M,_,re,hm,q,fun v H1 ⟨d,M1,rd,hm1,e1,q1⟩=>by
  match d,q1 with
  | .str y,q1 =>
   obtain rfl:=bC rd
   refine ⟨rfl,ρ,M1,_,re.ext e1,hm1,q1,fun vs H2 ⟨dvs,M2,rs,hm2,e2,q2⟩=>?_⟩
   match dvs,q2 with
   | [.str z],q2 =>
    obtain ⟨w,rfl,rw'⟩:=fD rs
    obtain rfl:=bC rw'
    exact ⟨y,z,rfl,rfl,k _ _ ⟨_,M2,eB,hm2,e1.trans e2,q2⟩⟩⟩
def aJS (to:DE):DE:=fun ρ M Q=>to ρ M fun x M1=>match x with
 | .str y=>Q (.bl (ascB y)) M1
 | _=>False
def aMD (to:DE):DE:=fun ρ M Q=>to ρ M fun x M1=>match x with
 | .str y=>Q (.bl (digB y)) M1
 | _=>False
theorem aKN (ho:PDE X o to) (hbase:attributeBase o "isascii" X.env (eval o X.env) = eval o X.env:=by rfl) (hline:(apos.endLine == cpos.line) = true:=by rfl) :
  PDE X (.Call (.Attribute o "isascii" apos) [] [] cpos) (aJS to) :=
 cO (aDp PySem.F.plainAttrs_str PySem.F.slot_str_isascii PySem.F.type_str_isascii aK1 ho hbase hline) fun σ H Q ⟨ρ,M,Q',re,hm,q,k⟩=>⟨ρ,M,_,re,hm,q,fun v H1 ⟨d,M1,rd,hm1,e1,q1⟩=>by
  match d,q1 with
  | .str y,q1 =>
   obtain rfl:=bC rd
   exact ⟨rfl,y,rfl,rfl,k _ _ ⟨_,M1,eB,hm1,e1,q1⟩⟩⟩
theorem aLP (ho:PDE X o to) (hbase:attributeBase o "isdigit" X.env (eval o X.env) = eval o X.env:=by rfl) (hline:(apos.endLine == cpos.line) = true:=by rfl) :
  PDE X (.Call (.Attribute o "isdigit" apos) [] [] cpos) (aMD to) :=
 cO (aDp PySem.F.plainAttrs_str PySem.F.slot_str_isdigit PySem.F.type_str_isdigit aKK ho hbase hline) fun σ H Q ⟨ρ,M,Q',re,hm,q,k⟩=>⟨ρ,M,_,re,hm,q,fun v H1 ⟨d,M1,rd,hm1,e1,q1⟩=>by
  match d,q1 with
  | .str y,q1 =>
   obtain rfl:=bC rd
   exact ⟨rfl,y,rfl,rfl,k _ _ ⟨_,M1,eB,hm1,e1,q1⟩⟩⟩
end
section
variable {X:Cx} {pos p0 p1 p2 p3 p4:Pos} {e e1 e2:Expr} {te t1 t2:DE} {lo hi:Option Expr} {tl th:DO} {c:Str}
def aJp (x:D) (lo hi:Option Int) (M:DM) (Q:DQ):Prop:=match x,lo,hi with
 | .str y,some i,none=>y.length<=1000000/\Q (.str (Txt.slice y (some i) none)) M
 | _,_,_=>False
def aKT (te:DE) (tl th:DO):DE:=fun ρ M Q=>te ρ M fun x M1=>tl ρ M1 fun l M2=>th ρ M2 fun h M3=>aJp x l h M3 Q
theorem aED (he:PDE X e te) (hl:PO X lo (xQ X.K tl)) (hu:PO X hi (xQ X.K th)):PDE X (.Subscript e (.Slice lo hi none p2) pos) (aKT te tl th) :=
 cO (yN aIF he hl hu) fun σ H Q ⟨ρ,M,Q',re,hm,q,k⟩=>⟨ρ,M,_,re,hm,q,fun v H1 ⟨d,M1,rd,hm1,e1,q1⟩=>⟨ρ,M1,_,re.ext e1,hm1,q1,fun l H2 ⟨M2,hm2,e2,q2⟩=>⟨ρ,M2,_,(re.ext e1).ext e2,hm2,q2,fun h H3 ⟨M3,hm3,e3,q3⟩=>by
  match d,l,h,q3 with
  | .str y,some i,none,q3 =>
   obtain rfl:=bC rd
   exact ⟨y,i,rfl,rfl,rfl,q3.1,k _ _ ⟨.str _,M3,eS,hm3,(e1.trans e2).trans e3,q3.2⟩⟩⟩⟩⟩
def aJL (te:DE):DE:=fun ρ M Q=>te ρ M fun x M1=>match x with
 | .int i=>i.natAbs.log2 < 1920/\Q (.str (toString i)) M1
 | _=>False
theorem aMl (he:PDE X e te):PDE X (.JoinedStr [.FormattedValue e (-1) none p1] pos) (aJL te):=by
 intro pins s σ H Q I ⟨ρ,M,Q',re,hm,q,k⟩
 refine JoinedStr_one (FormattedValue_plain (thn (he pins s σ H (LQ X.K H _) I ⟨ρ,M,_,re,hm,q,fun _ _ z=>z⟩) fun u s1 ⟨y,H1,I1,ry,d,M1,rd,hm1,ex,q1⟩=>?_))
 match d,q1 with
 | .int i,q1 =>
  obtain rfl:=aT rd
  obtain ⟨t,rfl⟩:=ry
  exact formatField_int_small q1.1 ⟨.str _,H1,I1.tok _,⟨_,rfl⟩,k _ _ ⟨.str _,M1,eS,hm1,ex,q1.2⟩⟩
def aJO (c:Str) (te:DE):DE:=fun ρ M Q=>te ρ M fun x M1=>match x with
 | .int i=>i.natAbs.log2 < 1920/\(c ++ Str.ofString (toString i)).length<=1000000/\Q (.str (c ++ Str.ofString (toString i))) M1
 | _=>False
theorem aKe {j} (he:PDE X e te) (hc:c.length<=1000000:=by decide):PDE X (.JoinedStr [.Constant (.str c) j p0,.FormattedValue e (-1) none p1] pos) (aJO c te):=by
 intro pins s σ H Q I ⟨ρ,M,Q',re,hm,q,k⟩
 refine JoinedStr_many (joinParts_cons (Calls.Constant_str ⟨?_,?_⟩))
 ·rw [Str.empty_append];exact uR hc
 rw [Str.empty_append]
 refine joinParts_cons (FormattedValue_plain (thn (he pins _ σ H (LQ X.K H _) (I.tok _) ⟨ρ,M,_,re,hm,q,fun _ _ z=>z⟩) fun u s1 ⟨y,H1,I1,ry,d,M1,rd,hm1,ex,q1⟩=>?_))
 match d,q1 with
 | .int i,q1 =>
  obtain rfl:=aT rd
  obtain ⟨t,rfl⟩:=ry
  exact formatField_int_small q1.1 ⟨uR q1.2.1,joinParts_nil ⟨.str _,H1,I1.tok _,⟨_,rfl⟩,k _ _ ⟨.str _,M1,eS,hm1,ex,q1.2.2⟩⟩ (uR q1.2.1)⟩
def aKa (c:Str) (t1 t2:DE):DE:=fun ρ M Q=>t1 ρ M fun x M1=>match x with
 | .int i=>i.natAbs.log2 < 1920/\(Str.ofString (toString i) ++ c).length<=1000000/\t2 ρ M1 fun y M2=>match y with
  | .int n=>n.natAbs.log2 < 1920/\(Str.ofString (toString i) ++ c ++ Str.ofString (toString n)).length<=1000000/\Q (.str (Str.ofString (toString i) ++ c ++ Str.ofString (toString n))) M2
  | _=>False
 | _=>False
theorem aMi {j} (h1:PDE X e1 t1) (h2:PDE X e2 t2):PDE X (.JoinedStr [.FormattedValue e1 (-1) none p1,.Constant (.str c) j p0,.FormattedValue e2 (-1) none p2] pos) (aKa c t1 t2):=by
 intro pins s σ H Q I ⟨ρ,M,Q',re,hm,q,k⟩
 refine JoinedStr_many (joinParts_cons (FormattedValue_plain (thn (h1 pins s σ H (LQ X.K H _) I ⟨ρ,M,_,re,hm,q,fun _ _ z=>z⟩) fun u s1 ⟨y,H1,I1,ry,d,M1,rd,hm1,ex,q1⟩=>?_)))
 match d,q1 with
 | .int i,q1 =>
  obtain rfl:=aT rd
  obtain ⟨t,rfl⟩:=ry
  obtain ⟨l1,l2,q1⟩:=q1
  refine formatField_int_small l1 ⟨by rw [Str.empty_append];exact int_text_fits l1,?_⟩
  rw [Str.empty_append]
  refine joinParts_cons (Calls.Constant_str ⟨uR l2,?_⟩)
  refine joinParts_cons (FormattedValue_plain (thn (h2 pins _ σ H1 (LQ X.K H1 _) ((I1.tok _).tok _) ⟨ρ,M1,_,re.ext ex,hm1,q1,fun _ _ z=>z⟩) fun u2 s2 ⟨y2,H2,I2,ry2,d2,M2,rd2,hm2,ex2,q2⟩=>?_))
  match d2,q2 with
  | .int n,q2 =>
   obtain rfl:=aT rd2
   obtain ⟨t2,rfl⟩:=ry2
   exact formatField_int_small q2.1 ⟨uR q2.2.1,joinParts_nil ⟨.str _,H2,I2.tok _,⟨_,rfl⟩,k _ _ ⟨.str _,M2,eS,hm2,ex.trans ex2,q2.2.2⟩⟩ (uR q2.2.1)⟩
noncomputable def aDH:Value->Bool
 | .none=>true
 | _=>false
noncomputable def yE:D->Bool
 | .non=>true
 | _=>false
def aOd (g:Bool->Bool):D2:=fun x y M Q=>match x,y with
 | .non,.ref a=>∃ ds,M a = some ds/\ds.all (bR 60) = true/\Q (.bl (g (ds.any yE))) M
 | _,_=>False
theorem aDy {H:Hp} {d:D} {w:V} {y:Value} (h:Rep X.K H d w) (r:cS w y) (p:bR 60 d = true):aDH y = yE d/\eqD d .non = yE d:=by
 cases d with
 | non=>rw [dI h] at r;cases (show y = Value.none from r);exact ⟨rfl,rfl⟩
 | bl b=>rw [cL h] at r;cases (show y = Value.bool b from r);exact ⟨rfl,rfl⟩
 | int i=>rw [aT h] at r;obtain ⟨t,rfl⟩:=r;exact ⟨rfl,rfl⟩
 | str i=>rw [bC h] at r;obtain ⟨t,rfl⟩:=r;exact ⟨rfl,rfl⟩
 | tup xs=>obtain ⟨a,us,rfl,sq,ru⟩:=cM h;cases r;exact ⟨rfl,rfl⟩
 | fz xs=>cases p
 | ref a=>cases p
theorem aD2 {H:Hp}:∀ {ds:List D} {us:List V} {its:List Value},ds.all (bR 60) = true->bZ X.K H ds us->cG us its->its.any aDH = ds.any yE
 | [],us,its,_,r,rv=>by rw [bV r] at rv;cases rv;rfl
 | d :: ds,us,its,p,r,rv=>by
  obtain ⟨w,rr,rfl,hw,hr⟩:=aW r
  rw [all_cons,Bool.and_eq_true] at p
  cases rv with
  | cons q ws=>rw [any_cons,any_cons,(aDy hw q p.1).1,aD2 p.2 hr ws]
theorem aDZ {H:Hp} {pins:List (Addr × Obj)} {σ:L2.St} {s:Shared} (I:Inv X pins σ H s) {A:Around} (hu:A.units + 60 < cLine):∀ {ds:List D} {us:List V} {its:List Value},ds.all (bR 60) = true->bZ X.K H ds us->cG us its->∀ y ∈ its,SeqAt.EqAt A s y .none (aDH y)
 | [],us,its,_,r,rv,y,hy=>by rw [bV r] at rv;cases rv;exact nomatch hy
 | d :: ds,us,its,p,r,rv,y,hy=>by
  obtain ⟨w,rr,rfl,hw,hr⟩:=aW r
  rw [all_cons,Bool.and_eq_true] at p
  cases rv with
  | cons q ws =>
   rcases List.mem_cons.mp hy with rfl | hy
   ·have:=aGV I 60 hu (d:=d) (d':=.non) p.1 rfl hw sS q rfl
    rw [(aDy hw q p.1).2] at this
    rw [(aDy hw q p.1).1];exact this
   ·exact aDZ I hu p.2 hr ws y hy
theorem pN {k:Nat} (hr:eD k X.A):OpD X (compareOp .NotIn) (aOd not):=fun pins s σ H x y v u Q I rx ry ⟨dx,dy,M,Q',r1,r2,hm,q,k⟩=>by
 match dx,dy,q with
 | .non,.ref a,q =>
  obtain ⟨ds,ha,hp,q⟩:=q
  obtain rfl:=dI r1
  cases (show v = Value.none from rx)
  obtain rfl:=bE r2
  cases ry
  obtain ⟨us,hu,ru⟩:=hm.l a _ ha
  obtain ⟨zz,its,nn,rv,hlen,e1⟩:=I.lstM hu
  have un:=hr.un
  refine SeqAt.notIn_listAt aDH ⟨_,e1,rfl,_,rfl⟩ (fun y hy=>aDZ I (by show X.A.units + 1 + 60 < cLine;omega) hp ru rv y (by simpa using hy)) ?_
  rw [<- Array.any_toList,aD2 hp ru rv]
  exact ⟨.bl _,H,I,rfl,k _ H ⟨_,M,eB,hm,.refl H,q⟩⟩
def aOO (K:Frag) (T1 T2:String) (te:DE):DE:=fun ρ M Q=>te ρ M fun d M1=>∃ T k,tyD d = some T/\PySem.W.kitAny K (.type T) [.type T1,.type T2] = some k/\Q (.bl k) M1
end
section
variable {prog:Program} {w:World} {A:Around} {E:Value->Shared->Prop} {s:Shared}
end
section
variable {X:Cx} {pos:Pos} {e a b o e1 e2 e3:Expr} {es:List Expr} {te ta tb to t1 t2 t3:DE} {apos cpos:Pos}
theorem tF {k:Nat} {t:DGs} {ps:Pos} (hc:X.calm = true) (h:ZGs X [e1,e2] t) (heq:(assignEach [e1,.Starred e2 ps] X.env).map (·.2) = (assignEach [e1,e2] X.env).map (·.2):=by rfl) (hn:(assignEach [e1,.Starred e2 ps] X.env).length = 2:=by rfl) (hst:(assignEach [e1,.Starred e2 ps] X.env).findIdx? (·.1) = some 1:=by rfl):ZG X (.Tuple [e1,.Starred e2 ps] k pos) (aGd t):=.i (aH9 hc h.o heq hn hst)
theorem pJ (ho:ZE X o to) (he:ZE X e te) (hse:starEach [e] X.env = (false,eval e X.env) :: starEach [] X.env:=by rfl) (hbase:attributeBase o "join" X.env (eval o X.env) = eval o X.env:=by rfl) (hfew:((backTo cpos (starEach [e] X.env)).all (fun x=>!x.1) && (backToKw cpos (keywordEach [] X.env)).all (fun x=>x.1.isSome)
   && decide ([e].length + ([]:List Keyword).length + (if ([]:List Keyword).isEmpty then 0 else 1) < 30)) = true:=by rfl) (hline:(apos.endLine == cpos.line) = true:=by rfl) (hplain:(backTo cpos (starEach [] X.env)).any (·.1) = false:=by rfl):ZE X (.Call (.Attribute o "join" apos) [e] [] cpos) (aFe to te):=.i (aIb ho.o he.o hse hbase hfew hline hplain)
theorem fM (ho:ZE X o to) (he:ZE X e te) (hse:starEach [e] X.env = (false,eval e X.env) :: starEach [] X.env:=by rfl) (hbase:attributeBase o "split" X.env (eval o X.env) = eval o X.env:=by rfl) (hfew:((backTo cpos (starEach [e] X.env)).all (fun x=>!x.1) && (backToKw cpos (keywordEach [] X.env)).all (fun x=>x.1.isSome)
   && decide ([e].length + ([]:List Keyword).length + (if ([]:List Keyword).isEmpty then 0 else 1) < 30)) = true:=by rfl) (hline:(apos.endLine == cpos.line) = true:=by rfl) (hplain:(backTo cpos (starEach [] X.env)).any (·.1) = false:=by rfl):ZE X (.Call (.Attribute o "split" apos) [e] [] cpos) (aC4 to te):=.i (aFf ho.o he.o hse hbase hfew hline hplain)
theorem xS (ho:ZE X o to) (he:ZE X e te) (hse:starEach [e] X.env = (false,eval e X.env) :: starEach [] X.env:=by rfl) (hbase:attributeBase o "partition" X.env (eval o X.env) = eval o X.env:=by rfl) (hfew:((backTo cpos (starEach [e] X.env)).all (fun x=>!x.1) && (backToKw cpos (keywordEach [] X.env)).all (fun x=>x.1.isSome)
   && decide ([e].length + ([]:List Keyword).length + (if ([]:List Keyword).isEmpty then 0 else 1) < 30)) = true:=by rfl) (hline:(apos.endLine == cpos.line) = true:=by rfl) (hplain:(backTo cpos (starEach [] X.env)).any (·.1) = false:=by rfl):ZE X (.Call (.Attribute o "partition" apos) [e] [] cpos) (aGG to te):=.i (aIR ho.o he.o hse hbase hfew hline hplain)
theorem pX (ho:ZE X o to) (he:ZE X e te) (hse:starEach [e] X.env = (false,eval e X.env) :: starEach [] X.env:=by rfl) (hbase:attributeBase o "startswith" X.env (eval o X.env) = eval o X.env:=by rfl) (hfew:((backTo cpos (starEach [e] X.env)).all (fun x=>!x.1) && (backToKw cpos (keywordEach [] X.env)).all (fun x=>x.1.isSome)
   && decide ([e].length + ([]:List Keyword).length + (if ([]:List Keyword).isEmpty then 0 else 1) < 30)) = true:=by rfl) (hline:(apos.endLine == cpos.line) = true:=by rfl) (hplain:(backTo cpos (starEach [] X.env)).any (·.1) = false:=by rfl):ZE X (.Call (.Attribute o "startswith" apos) [e] [] cpos) (aDt to te):=.i (aFH ho.o he.o hse hbase hfew hline hplain)
theorem aEk (ho:ZE X o to) (hbase:attributeBase o "isascii" X.env (eval o X.env) = eval o X.env:=by rfl) (hline:(apos.endLine == cpos.line) = true:=by rfl):ZE X (.Call (.Attribute o "isascii" apos) [] [] cpos) (aJS to):=.i (aKN ho.o hbase hline)
theorem aDE (ho:ZE X o to) (hbase:attributeBase o "isdigit" X.env (eval o X.env) = eval o X.env:=by rfl) (hline:(apos.endLine == cpos.line) = true:=by rfl):ZE X (.Call (.Attribute o "isdigit" apos) [] [] cpos) (aMD to):=.i (aLP ho.o hbase hline)
end
section
variable {X:Cx} {pos p0 p1 p2 p3 p4:Pos} {e e1 e2:Expr} {te t1 t2:DE} {lo hi:Option Expr} {tl th:DO} {c:Str}
theorem xG (he:ZE X e te) (hl:ZO X lo tl) (hu:ZO X hi th):ZE X (.Subscript e (.Slice lo hi none p2) pos) (aKT te tl th):=.i (aED he.o hl.o hu.o)
theorem aI9 (he:ZE X e te):ZE X (.JoinedStr [.FormattedValue e (-1) none p1] pos) (aJL te):=.i (aMl he.o)
theorem aHK {j} (he:ZE X e te) (hc:c.length<=1000000:=by decide):ZE X (.JoinedStr [.Constant (.str c) j p0,.FormattedValue e (-1) none p1] pos) (aJO c te):=.i (aKe (j:=j) he.o hc)
theorem aH6 {j} (h1:ZE X e1 t1) (h2:ZE X e2 t2):ZE X (.JoinedStr [.FormattedValue e1 (-1) none p1,.Constant (.str c) j p0,.FormattedValue e2 (-1) none p2] pos) (aKa c t1 t2):=.i (aMi (j:=j) h1.o h2.o)
end
end Dd
namespace Ty
open PySem PySem.Builtin.Str PySem.NumText PyProof.Rows
noncomputable def nt (n:Int):Str:=Str.ofString (toString n)
noncomputable def dg (m:Nat):List Nat:=(Nat.toDigits 10 m).map Char.toNat
theorem dg_all (m:Nat):AllDigits (dg m):=fun c hc=>by
 obtain ⟨ch,hch,e⟩:=List.mem_map.mp hc
 have r:=digit_range (Nat.isDigit_of_mem_toDigits (by decide) (by decide) hch)
 rw [<- e];exact r
theorem dg_ne (m:Nat):dg m ≠ []:=fun e=>by
 have h:=toDigits_len_ge 10 m
 rw [List.map_eq_nil_iff.mp e] at h
 exact absurd h (by decide)
theorem aFC (m:Nat):digitsVal (dg m) = m:=PySem.W.KIN.val_back m
theorem aEn {m:Nat} (h:¬ m < 10):dg m = dg (m / 10) ++ dg (m % 10):=by
 have hm:m % 10 < 10:=Nat.mod_lt m (by decide)
 have t:Nat.toDigits 10 (m / 10) ++ Nat.toDigits 10 (m % 10) = Nat.toDigits 10 (10 * (m / 10) + m % 10):=Nat.toDigits_append_toDigits (by decide) (by omega) hm
 rw [Nat.div_add_mod] at t
 unfold dg
 rw [<- t,map_append]
theorem xX {m:Nat} (h:m < 10):dg m = [48 + m]:=by
 unfold dg
 rw [Nat.toDigits_of_lt_base h]
 have:∀ d:Nat,d < 10->(Nat.digitChar d).toNat = 48 + d:=by decide
 rw [map_cons,map_nil,this m h]
theorem dg_head (m:Nat):∀ c,(dg m).head? = some c->c = 48->m = 0:=by
 induction m using Nat.strongRecOn with
 | _ m ih =>
  intro c hc e
  by_cases h:m < 10
  ·rw [xX h] at hc
   have:48 + m = c:=Option.some.inj hc
   omega
  ·rw [aEn h] at hc
   obtain ⟨y,ys,ey⟩:=List.exists_cons_of_ne_nil (dg_ne (m / 10))
   rw [ey,cons_append,List.head?_cons] at hc
   replace hc:(dg (m / 10)).head? = some c:=by rw [ey,List.head?_cons];exact hc
   have:=ih (m / 10) (by omega) c hc e
   omega
theorem aMs (m:Nat):∀ k,1<=k->m < 10 ^ k->(dg m).length<=k:=by
 induction m using Nat.strongRecOn with
 | _ m ih =>
  intro k hk hm
  by_cases h:m < 10
  ·rw [xX h];exact hk
  ·have k2:2<=k:=by
    rcases Nat.lt_or_ge 1 k with z | z
    ·exact z
    ·have:k = 1:=by omega
     rw [this] at hm
     omega
   rw [aEn h,length_append,xX (Nat.mod_lt m (by decide))]
   have:=ih (m / 10) (by omega) (k - 1) (by omega) (by
    refine Nat.div_lt_of_lt_mul ?_
    rw [Nat.mul_comm,<- Nat.pow_succ,Nat.succ_eq_add_one,show k - 1 + 1 = k by omega]
    exact hm)
   show (dg (m / 10)).length + 1<=k
   omega
theorem aKQ (m:Nat):cl (nt (m:Int)) = dg m:=PySem.W.KIN.signs_num m
theorem aJ9 (m:Nat):cl (nt (Int.negSucc m)) = 45 :: dg (m + 1):=by
 show (Str.ofString (toString (Int.negSucc m))).cps.toList = _
 rw [signs_ofString]
 show ("-" ++ Nat.repr (m + 1)).toList.map Char.toNat = _
 rw [String.toList_append,map_append,Nat.toList_repr]
 rfl
theorem nt_cases (n:Int):(0<=n/\cl (nt n) = dg n.natAbs) ∨ (n < 0/\cl (nt n) = 45 :: dg n.natAbs):=by
 cases n with
 | ofNat m=>exact .inl ⟨Int.natCast_nonneg m,aKQ m⟩
 | negSucc m=>exact .inr ⟨Int.negSucc_lt_zero m,aJ9 m⟩
theorem nt_not {n:Int} {c:Nat} (h:c ≠ 45) (h2:¬ (48<=c/\c<=57)):c ∉ cl (nt n):=fun z=>by
 rcases nt_cases n with ⟨_,e⟩ | ⟨_,e⟩
 ·rw [e] at z;exact h2 (dg_all _ c z)
 ·rw [e] at z
  rcases List.mem_cons.mp z with z | z
  ·exact h z
  ·exact h2 (dg_all _ c z)
theorem nt_len {n:Int} (h:n.natAbs < 2 ^ 120):(nt n).length<=38:=by
 have:=aMs n.natAbs 37 (by decide) (Nat.lt_of_lt_of_le h (by decide))
 rw [len_cl]
 rcases nt_cases n with ⟨_,e⟩ | ⟨_,e⟩
 ·rw [e];omega
 ·rw [e,length_cons];omega
theorem nt_int {n:Int} (h:n.natAbs < 2 ^ 120):PySem.intText? (nt n) = some n:=by
 have hl:=nt_len h
 rcases nt_cases n with ⟨h0,e⟩ | ⟨h0,e⟩
 ·have hd:AllDigits (nt n).cps.toList:=by rw [show (nt n).cps.toList = dg n.natAbs from e];exact dg_all _
  have hn:(nt n).cps.toList ≠ []:=by rw [show (nt n).cps.toList = dg n.natAbs from e];exact dg_ne _
  have:=intText_digits hd hn (by omega)
  rw [this,show (nt n).cps.toList = dg n.natAbs from e,aFC]
  congr 1;omega
 ·have:=intText_neg (x:=nt n) e (dg_all _) (dg_ne _) (by omega)
  rw [this,aFC]
  congr 1;omega
theorem log_small {n:Int} (h:n.natAbs < 2 ^ 120):n.natAbs.log2 < 1920:=by
 by_cases z:n.natAbs = 0
 ·rw [z];decide
 ·exact Nat.lt_trans ((Nat.log2_lt z).mpr h) (by decide)
theorem ascii_dg {x:Str} {m:Nat} (h:cl x = dg m):Dd.ascB x = true/\Dd.digB x = true:=by
 have hd:=dg_all m
 have hn:=dg_ne m
 have isd:∀ c,48<=c->c<=57->Unicode.isDigit c = true:=fun c h1 h2=>by
  have:∀ k:Fin 10,Unicode.isDigit (48 + k.val) = true:=by decide +kernel
  have:=this ⟨c - 48,by omega⟩
  rw [show 48 + (c - 48) = c by omega] at this
  exact this
 constructor
 ·unfold Dd.ascB
  rw [<- Array.all_toList,show x.cps.toList = dg m from h,all_eq_true]
  intro c hc
  have:=hd c hc
  exact decide_eq_true (by omega)
 ·unfold Dd.digB
  have l0:x.length > 0:=by rw [len_cl,h];exact List.length_pos_iff.mpr hn
  rw [decide_eq_true l0,Bool.true_and,<- Array.all_toList,show x.cps.toList = dg m from h,all_eq_true]
  intro c hc
  have:=hd c hc
  exact isd c this.1 this.2
theorem start_one (x:Str) (c:Nat):Dd.startB x (one c) = decide ((cl x).head? = some c):=by
 unfold Dd.startB
 have so:=PySem.StrLaws.subAt_one x c 0
 rw [<- List.head?_eq_getElem?] at so
 by_cases h:(cl x).head? = some c
 ·rw [decide_eq_true h]
  obtain ⟨h1,h2⟩:=so.mpr h
  rw [decide_eq_true h1,h2];rfl
 ·rw [decide_eq_false h]
  refine Bool.eq_false_iff.mpr fun z=>h (so.mp ?_)
  rw [Bool.and_eq_true,decide_eq_true_eq] at z
  exact z
theorem cut_one {x:Str} {c:Nat} {r:List Nat} (h:cl x = c :: r):cl (Txt.slice x (some 1) none) = r:=by
 have hl:x.length = r.length + 1:=by rw [len_cl,h];rfl
 have e:=PyProof.Rows.slice_from_eq (x:=x) (i:=1) (b:=(x.length:Int)) (by decide) (by omega) rfl
 rw [e]
 show ((x.cps.toList.drop (1:Int).toNat).take ((x.length:Int) - 1).toNat).toArray.toList = r
 rw [show x.cps.toList = c :: r from h,List.toList_toArray,show (1:Int).toNat = 1 from rfl,List.drop_succ_cons,drop_zero]
 exact take_of_length_le (by omega)
end Ty
namespace Dd
open PySem PySem.Spec PyProof.Rows L2 Mz
section
variable {prog:Program} {w:World} {A:Around} {E:Value->Shared->Prop} {s:Shared}
theorem aEW {l b:Addr} {Q:Value->Shared->Prop} (ha:s.TypeIs (.ref l) "list") (hb:s.TypeIs (.ref b) "list") (hc:wpAny (model prog w) A (call (.builtin "list.__iadd__") [.ref l,.ref b]) Q E s):wpAny (model prog w) A (inplaceOp .Add (.ref l) (.ref b)) Q E s:=by
 unfold inplaceOp
 refine wpAny_holding ?_
 have hlk:typeLookup (.type "list") (dunderI "add") = pure (some (.builtin "list.__iadd__")):=PySem.F.slot_list_iadd.lookup
 have hq:isSeqSlot (some (.builtin "list.__iadd__")) = true:=by decide +kernel
 have hfi:fillsInplaceSlot (.type "list") "add" (Operator.Add == .Add) = pure false:=by
  unfold fillsInplaceSlot
  show (typeLookup (.type "list") (dunderI "add") >>= fun fi=>pure (fi.isSome && !isSeqSlot fi)) = pure false
  rw [hlk,pure_bind,hq];rfl
 refine wpAny_bind (wpAny_typeOf ha (wpAny_bind (wpAny_of_eq hfi ?_)))
 show wpAny _ A (if false = true then _ else _) Q E s
 rw [if_neg Bool.false_ne_true]
 refine wpAny_bind (wpAny_binaryOp1_none (nm:="add") ha hb noFill_list_add ?_)
 refine wpAny_bind (wpAny_of_eq (PySem.seqSlot_of hlk hq) ?_)
 exact wpAny_bind (wpAny_rule hc)
end
section
variable {X:Cx} {x:Str} {e:Expr} {te:DE} {pos:Pos}
def aDj:D2:=fun x y M Q=>match x,y with
 | .ref l,.ref b=>∃ xs zs,M l = some xs/\M b = some zs/\xs.length + zs.length<=1000/\Q (.ref l) (bH M l (xs ++ zs))
 | _,_=>False
theorem aH0:OpD X (inplaceOp .Add) aDj:=fun pins s σ H x y v u Q I rx ry ⟨dx,dy,M,Q',r1,r2,hm,q,k⟩=>by
 match dx,dy,q with
 | .ref l,.ref b,q =>
  obtain ⟨xs,zs,hx,hz,hl,q⟩:=q
  obtain rfl:=bE r1
  obtain rfl:=bE r2
  cases rx
  cases ry
  obtain ⟨us,hu,ru⟩:=hm.l l _ hx
  obtain ⟨ws,hw,rw'⟩:=hm.l b _ hz
  obtain ⟨z,its,n,r,hl1,e⟩:=I.lstM hu
  obtain ⟨z2,its2,n2,r3,hl2,e2⟩:=I.lstM hw
  have lx:=ru.length
  have lz:=rw'.length
  have hs1:=fA hl
  have hsz:its.toArray.size + its2.toArray.size<=sizeLine:=by rw [size_toArray,size_toArray];omega
  have hlong:¬ (!its.toArray.isEmpty && Builtin.List.listTooLong (its.toArray.size + its2.toArray.size)) = true:=by
   rw [aGc hsz,Bool.and_false]
   exact Bool.false_ne_true
  refine aEW ⟨_,e,rfl⟩ ⟨_,e2,rfl⟩ (call_meets PySem.F.slot_list_iadd ⟨_,e,rfl⟩ PySem.F.entry_list_iadd (PySem.F.args_list_iadd_2 _ _)
   (AutoSeq1.list___iadd___list_list_0 l its.toArray n b its2.toArray n2 hlong (by rw [size_toArray];omega) (by omega)) ⟨e,e2,?_⟩)
  refine ⟨.ref l,_,I.lset (its':=its ++ its2) hu e (by simp) (r.append r3) ?_,rfl,k _ _ ⟨.ref l,_,gP,hm.put hu (ru.append rw'),Ext.put hu _,q⟩⟩
  rw [length_append]
  omega
def aDO (i:Nat) (te:DE):DS:=fun E ρ M=>match ρ[i]? with
 | some (some z)=>te ρ M fun d M1=>aDj z d M1 fun r M2=>E.nx (ρ.set i (some r)) M2
 | _=>False
theorem aHT {i:Nat} {pos':Pos} (hN:X.N.Nodup) (he:PDE X e te) (hi:X.N[i]? = some x:=by rfl) (hx:Loc X.env.scope x:=by first | exact Or.inl rfl | exact Or.inr rfl) (hf:X.fn x = true ∨ X.env.scope.names.lookup x = some .local:=by first | exact .inl rfl | exact .inr rfl | assumption) :
  PDS X (.AugAssign (.Name x pos') .Add e pos) (aDO i te) :=
 iL (aGD (i:=i) hN hi hx he (aH0 (X:=X)) hf) fun E σ H ⟨ρ,M,Dn,re,hm,q,k⟩=>by
  unfold aDO at q
  split at q
  ·rename_i z e1
   obtain ⟨v,e2,rv⟩:=re.get i _ e1
   refine ⟨_,e2,ρ,M,_,re,hm,q,fun w H1 ⟨d,M1,rd,hm1,ex,q1⟩=>?_⟩
   exact ⟨z,d,M1,_,rv.ext ex,rd,hm1,q1,fun u H2 ⟨r,M2,rr,hm2,ex2,q2⟩=>k.nx _ H2 ⟨_,M2,(re.ext (ex.trans ex2)).set rr i,hm2,ex.trans ex2,q2⟩⟩
  ·exact q.elim
end
section
variable {prog:Program} {w:World} {A:Around} {E:Value->Shared->Prop} {s:Shared}
end
section
variable {X:Cx} {x:Str} {e:Expr} {te:DE} {pos:Pos}
theorem aHv {i:Nat} {pos':Pos} (hN:X.N.Nodup) (he:ZE X e te) (hi:X.N[i]? = some x:=by rfl) (hx:Loc X.env.scope x:=by first | exact Or.inl rfl | exact Or.inr rfl) (hf:X.fn x = true ∨ X.env.scope.names.lookup x = some .local:=by first | exact .inl rfl | exact .inr rfl | assumption):ZS X (.AugAssign (.Name x pos') .Add e pos) (aDO i te):=.i (aHT (i:=i) hN he.o hi hx hf)
end
inductive XC where
 | x (C:Addr)
 | y (C:Addr) (f:Str) (i:Int)
abbrev XV:=XC->cR->DM->Prop
def aO1 (X:Cx) (H1:Hp) (s1:Shared) (M1:DM) (ev:Value) (s':Shared):XC->Prop
 | .x C=>CXr X.prog X.w X.stack H1 s1 (fun c _ H'=>c = .ref C/\∃ M',cH X.K M' H'/\aZ M1 M') ev s'
 | .y C f i=>CXy X.prog X.w X.stack H1 s1 (XW X.K C f M1 i) ev s'
def XOk (X:Cx) (pins:List (Addr × Obj)) (H:Hp) (V:XV) (E':Value->Shared->Prop):Prop :=
 ∀ xc σ H1 s1 M1 ρ ev s',Inv X pins σ H1 s1->fP X.K H1 ρ σ->Ext H H1->V xc ρ M1->aO1 X H1 s1 M1 ev s' xc->E' ev s'
theorem XOk.at {X:Cx} {pins:List (Addr × Obj)} {H H':Hp} {V:XV} {E':Value->Shared->Prop} (h:XOk X pins H V E') (e:Ext H H'):XOk X pins H' V E' :=
 fun xc σ H1 s1 M1 ρ ev s' I re ex v y=>h xc σ H1 s1 M1 ρ ev s' I re (e.trans ex) v y
def aNg (X:Cx) (t:XV->DS) (pins:List (Addr × Obj)) (En:pY) (E':Value->Shared->Prop) (σ:L2.St) (H:Hp):Prop :=
 ∃ ρ M De V,fP X.K H ρ σ/\cH X.K M H/\t V De ρ M/\jF X.K H De En/\XOk X pins H V E'
def PBt (X:Cx) (st:Stmt) (t:XV->DS):Prop:=∀ pins s σ H En (E':Value->Shared->Prop),Inv X pins σ H s->aNg X t pins En E' σ H->wpAny (model X.prog X.w) X.A (exec st X.env) (SP X pins En) E' s
def aGj (X:Cx) (sts:List Stmt) (t:XV->DS):Prop:=∀ pins s σ H En (E':Value->Shared->Prop),Inv X pins σ H s->aNg X t pins En E' σ H->wpAny (model X.prog X.w) X.A (execs sts X.env) (SP X pins En) E' s
@[irreducible] def ZBt (X:Cx) (st:Stmt) (t:XV->DS):Prop:=PBt X st t
theorem ZBt.o {X:Cx} {e:Stmt} {t:XV->DS} (h:ZBt X e t):PBt X e t:=by unfold ZBt at h;exact h
theorem ZBt.i {X:Cx} {e:Stmt} {t:XV->DS} (h:PBt X e t):ZBt X e t:=by unfold ZBt;exact h
@[irreducible] def aCd (X:Cx) (st:List Stmt) (t:XV->DS):Prop:=aGj X st t
theorem aCd.o {X:Cx} {e:List Stmt} {t:XV->DS} (h:aCd X e t):aGj X e t:=by unfold aCd at h;exact h
theorem aCd.i {X:Cx} {e:List Stmt} {t:XV->DS} (h:aGj X e t):aCd X e t:=by unfold aCd;exact h
def aOS (t:DS):XV->DS:=fun _=>t
def aMY (t u:XV->DS):XV->DS:=fun V E ρ M=>t V { E with nx:=u V E } ρ M
def aOW (tc:DT) (t u:XV->DS):XV->DS:=fun V E ρ M=>tc ρ M fun c M1=>if c = true then t V E ρ M1 else u V E ρ M1
def kK (X:Cx) (k:Nat) (f:Str) (ps:List Str) (ds:List D) (M1:DM):XC->Prop
 | .x C=>∃ k1 cond,k1<=k/\rQ X.prog X.w X.K X.mg X.base k1 f ps C cond/\cond ds M1
 | .y C fl i=>∃ k1 cond,k1<=k/\eT X.prog X.w X.K X.mg X.base k1 f ps C fl cond/\cond ds M1 i
def aDz (R:List D->DM->XC->Prop) (sp:DSp) (t:DA) (nx:fY->D->cR->DM->Prop):XV->DS:=fun V D ρ M=>t ρ M fun ds M1=>(∃ xc,R ds M1 xc/\V xc ρ M1) ∨ sp ds M1 fun d M2=>nx D d ρ M2
def aGE (i:Nat):fY->D->cR->DM->Prop:=fun D d ρ M=>D.nx (ρ.set i (some d)) M
def aM3:fY->D->cR->DM->Prop:=fun D d _ M=>D.rt d M
section
variable {X:Cx} {st:Stmt} {cT a b:List Stmt} {t:DS} {tb ub:XV->DS} {c:Expr} {tc:DT} {pos:Pos}
theorem aIN (h:PBt X st tb):aGj X [st] tb:=fun pins s σ H En E' I hq=>by
 refine wpAny_execs_cons (thn (h pins s σ H En E' I hq) fun f s1 q=>?_)
 cases f with
 | next=>exact wpAny_execs_nil q
 | ret v=>exact q
 | brk=>exact q
 | cont=>exact q
end
section
variable {X:Cx} {e:Expr} {es:List Expr} {t:DA} {x f:Str} {ps:List Str} {sp:DSp} {R:List D->DM->XC->Prop} {k2 k i:Nat} {px pf pc pa:Pos}
theorem aIV {pins:List (Addr × Obj)} {σ:L2.St} {H1:Hp} {s1:Shared} {M1:DM} {ds:List D} {us:List Value} {vs:List V} {Q:Value->Shared->Prop} {E:Value->Shared->Prop} {f':Addr} {Q':DQ}
  (hh:Has X.prog X.w X.K X.mg X.base k2 f ps sp) (hr:eD k X.A) (hk2:k2<=k) (hmf:X.mg f = some (.ref f'))
  (I1:Inv X pins σ H1 s1) (rv:cG vs us) (rs:bZ X.K H1 ds vs) (hm1:cH X.K M1 H1) (q:sp ds M1 Q')
  (hQ:∀ u s',EP X pins σ (LQ X.K H1 Q') u s'->Q u s'):wpAny (model X.prog X.w) X.A (call (.ref f') us) Q E s1:=by
 obtain ⟨f1,fd,F,hm,_,hb⟩:=hh
 have hf:f1 = f':=by have:=hm.symm.trans hmf;cases this;rfl
 subst hf
 have hsp:oI X.K sp vs H1 (LQ X.K H1 Q') (fun _ _ _=>False):=⟨ds,M1,Q',rs,hm1,q,fun v H' z=>z⟩
 have hl:(us ++ []).length = ps.length:=by rw [append_nil,<- rv.length];exact F.len _ _ _ _ hsp
 have hbb:=hb s1 us I1.kIn hl
 rw [append_nil] at hbb
 refine wpAny_call (codeAny_mono (F.run X.A X.stack s1 H1 ⟨us,[]⟩ us vs _ _ (hr.mono hk2) I1.env0 hbb rv hsp) fun r s' hq=>?_)
 cases r with
 | error ev=>exact False.elim hq
 | ok fl =>
  cases fl with
  | ret u=>exact hQ u s' (I1.after hq)
  | next=>exact False.elim hq
  | brk=>exact False.elim hq
  | cont=>exact False.elim hq
theorem aOH {pins:List (Addr × Obj)} {σ:L2.St} {H H1:Hp} {s1:Shared} {M1:DM} {ds:List D} {us:List Value} {vs:List V} {ρ:cR} {V:XV} {Q:Value->Shared->Prop} {E':Value->Shared->Prop} {f':Addr} {Q':DQ}
  (hR:∀ ds M1 xc,R ds M1 xc->kK X k f ps ds M1 xc) (hh:Has X.prog X.w X.K X.mg X.base k2 f ps sp) (hr:eD k X.A) (hk2:k2<=k) (hmf:X.mg f = some (.ref f'))
  (I1:Inv X pins σ H1 s1) (re:fP X.K H1 ρ σ) (ex:Ext H H1) (rv:cG vs us) (rs:bZ X.K H1 ds vs) (hm1:cH X.K M1 H1) (xo:XOk X pins H V E')
  (q:(∃ xc,R ds M1 xc/\V xc ρ M1) ∨ sp ds M1 Q') (hQ:∀ u s',EP X pins σ (LQ X.K H1 Q') u s'->Q u s'):wpAny (model X.prog X.w) X.A (call (.ref f') us) Q E' s1:=by
 rcases q with ⟨xc,hr1,v⟩ | q
 ·cases xc with
  | x C =>
   obtain ⟨k1,cond,hk1,hH,hc⟩:=hR _ _ _ hr1
   exact aHG hH hh hr hk1 hk2 hmf I1 rv rs hm1 (Q':=fun _ _=>False) (.inl ⟨hc,fun ev s' y=>xo (.x C) σ H1 s1 M1 ρ ev s' I1 re ex v y⟩) fun u s' ⟨_,_,_,_,_,_,_,_,_,z⟩=>z.elim
  | y C fl j =>
   obtain ⟨k1,cond,hk1,hH,hc⟩:=hR _ _ _ hr1
   exact aGZ hH hh hr hk1 hk2 hmf I1 rv rs hm1 (Q':=fun _ _=>False) (.inl ⟨j,hc,fun ev s' y=>xo (.y C fl j) σ H1 s1 M1 ρ ev s' I1 re ex v y⟩) fun u s' ⟨_,_,_,_,_,_,_,_,_,z⟩=>z.elim
 ·exact aIV hh hr hk2 hmf I1 rv rs hm1 q hQ
theorem aKw (hR:∀ ds M1 xc,R ds M1 xc->kK X k f ps ds M1 xc) (hh:Has X.prog X.w X.K X.mg X.base k2 f ps sp) (hr:eD k X.A) (hk2:k2<=k) (hN:X.N.Nodup) (ha:PDA X (e :: es) t) (hi:X.N[i]? = some x:=by rfl) (hxl:X.env.scope.names.lookup x = some .local:=by rfl)
  (hX:∀ e s,X.xe e s->False:=by exact fun _ _ z=>z) (hg:Gl X f:=by rfl) (hdb:(f == ("__debug__":Str)) = false:=by decide)
  (he:starEach (e :: es) X.env = (false,eval e X.env) :: starEach es X.env:=by rfl) (hpl:(backTo pc (starEach es X.env)).any (·.1) = false:=by rfl)
  (hsw:swapsWith (.Call (.Name f pf) (e :: es) [] pc) (some (.Name x px)) pa.line X.env = pure false:=by rfl) :
  PBt X (.Assign [.Name x px] (.Call (.Name f pf) (e :: es) [] pc) pa) (aDz R sp t (aGE i)):=fun pins s σ H En E' I ⟨ρ,M,De,V,re,hm,q,k',xo⟩=>by
 obtain ⟨f',fd,F,hmf,hk,hb⟩:=id hh
 refine wpAny_Assign_Name (wpAny_Call_Name_kw (iK I hg hmf ?_ hdb)) hsw
 refine callWith_K (h₀:=X.base) I.ok.mod.kin hk (wpAny_mono (ha pc pins s σ H (LA X.K H _) I ⟨ρ,M,_,re,hm,q,fun vs H' z=>z⟩) (fun us s1 ⟨vs,H1,I1,rv,ds,M1,rs,hm1,ex,q1⟩=>⟨I1.kIn,?_⟩) fun ev s' z=>(hX ev s' z).elim) he hpl
 refine aOH hR hh hr hk2 hmf I1 (re.ext ex) ex rv rs hm1 xo q1 fun u s' ⟨v,H2,I2,rr,d,M2,rd,hm2,ex2,q2⟩=>?_
 exact lY I2 hN hi (.inl hxl) rr (fun s3 I3=>⟨_,H2,I3,k'.nx _ H2 ⟨_,M2,(re.ext (ex.trans ex2)).set rd i,hm2,ex.trans ex2,q2⟩⟩) (.inr hxl)
end
def aFx (tb:XV->DS) (v:fY->XV):DS:=fun De ρ M=>tb (v De) De ρ M
section
variable {X:Cx} {n cm f1 f2:Str} {CX C1 C2 Cm:Addr} {j:Nat} {tX:Addr->DS} {t1 t2:Addr->Int->DS} {body suite:List Stmt} {b0:Stmt} {tb:XV->DS} {pcm ph pos:Pos}
end
section
variable {X:Cx} {o e:Expr} {to te:DE}
def aG9 (p:Addr) (Q:DQ) (ys:List D) (M2:DM):Prop:=match ys with
 | [.bl k]=>∃ bs:List Bool,M2 p = some (bs.map D.bl)/\Q (.int ((bs.countP (· == k):Nat):Int)) M2
 | _=>False
def aMC (to te:DE):DE:=fun ρ M Q=>to ρ M fun x M1=>match x with
 | .ref p=>(∃ ds,M1 p = some ds)/\jB te mK ρ M1 (aG9 p Q)
 | _=>False
end
section
variable {X:Cx} {n cm f1:Str} {CX C1 Cm:Addr} {j:Nat} {tX:Addr->DS} {t1:Addr->Int->DS} {body suite:List Stmt} {b0:Stmt} {tb:XV->DS} {pcm ph pos:Pos}
end
def rY (C:Addr) (f:Str) (cond:List D->DM->Int->Prop):List D->DM->XC->Prop:=fun ds M xc=>∃ i,xc = .y C f i/\cond ds M i
def rOr (R1 R2:List D->DM->XC->Prop):List D->DM->XC->Prop:=fun ds M xc=>R1 ds M xc ∨ R2 ds M xc
section
variable {X:Cx} {f fl:Str} {ps:List Str} {C:Addr} {k k1:Nat} {R1 R2:List D->DM->XC->Prop}
theorem aCl {cond:List D->DM->Int->Prop} (h:eT X.prog X.w X.K X.mg X.base k1 f ps C fl cond) (hk:k1<=k):∀ ds M1 xc,rY C fl cond ds M1 xc->kK X k f ps ds M1 xc:=fun ds M1 xc ⟨i,e,hc⟩=>by
 subst e
 exact ⟨k1,cond,hk,h,hc⟩
theorem aEx (h1:∀ ds M1 xc,R1 ds M1 xc->kK X k f ps ds M1 xc) (h2:∀ ds M1 xc,R2 ds M1 xc->kK X k f ps ds M1 xc):∀ ds M1 xc,rOr R1 R2 ds M1 xc->kK X k f ps ds M1 xc:=fun ds M1 xc h=>h.elim (h1 ds M1 xc) (h2 ds M1 xc)
end
section
variable {X:Cx} {n c:Str} {C Cc a:Addr} {o:Obj} {p p1 p2 pos:Pos} {j:Nat}
end
section
variable {X:Cx} {st:Stmt} {cT a b:List Stmt} {t:DS} {tb ub:XV->DS} {c:Expr} {tc:DT} {pos:Pos}
theorem aFq (h:ZBt X st tb):aCd X [st] tb:=.i (aIN h.o)
end
section
variable {X:Cx} {e:Expr} {es:List Expr} {t:DA} {x f:Str} {ps:List Str} {sp:DSp} {R:List D->DM->XC->Prop} {k2 k i:Nat} {px pf pc pa:Pos}
theorem aIk (hR:∀ ds M1 xc,R ds M1 xc->kK X k f ps ds M1 xc) (hh:Has X.prog X.w X.K X.mg X.base k2 f ps sp) (hr:eD k X.A) (hk2:k2<=k) (hN:X.N.Nodup) (ha:ZA X (e :: es) t) (hi:X.N[i]? = some x:=by rfl) (hxl:X.env.scope.names.lookup x = some .local:=by rfl) (hX:∀ e s,X.xe e s->False:=by exact fun _ _ z=>z) (hg:Gl X f:=by rfl) (hdb:(f == ("__debug__":Str)) = false:=by decide) (he:starEach (e :: es) X.env = (false,eval e X.env) :: starEach es X.env:=by rfl) (hpl:(backTo pc (starEach es X.env)).any (·.1) = false:=by rfl) (hsw:swapsWith (.Call (.Name f pf) (e :: es) [] pc) (some (.Name x px)) pa.line X.env = pure false:=by rfl):ZBt X (.Assign [.Name x px] (.Call (.Name f pf) (e :: es) [] pc) pa) (aDz R sp t (aGE i)):=.i (aKw hR hh hr hk2 hN ha.o hi hxl hX hg hdb he hpl hsw)
end
section
variable {X:Cx} {n cm f1 f2:Str} {CX C1 C2 Cm:Addr} {j:Nat} {tX:Addr->DS} {t1 t2:Addr->Int->DS} {body suite:List Stmt} {b0:Stmt} {tb:XV->DS} {pcm ph pos:Pos}
end
section
variable {X:Cx} {o e:Expr} {to te:DE}
end
section
variable {X:Cx} {n cm f1:Str} {CX C1 Cm:Addr} {j:Nat} {tX:Addr->DS} {t1:Addr->Int->DS} {body suite:List Stmt} {b0:Stmt} {tb:XV->DS} {pcm ph pos:Pos}
end
section
variable {X:Cx} {f fl:Str} {ps:List Str} {C:Addr} {k k1:Nat} {R1 R2:List D->DM->XC->Prop}
end
section
variable {X:Cx} {n c:Str} {C Cc a:Addr} {o:Obj} {p p1 p2 pos:Pos} {j:Nat}
end
section
variable {prog:Program} {w:World} {A:Around} {I S:Addr} {fp wr:List Addr} {n:Nat} {P:Nat->Value->Prop} {St:Nat->Heap->Prop} {R:Result->Shared->Prop} {dv:Value}
end
section
variable {prog:Program} {w:World} {A:Around} {E:Value->Shared->Prop} {s:Shared} {l:Addr} {xs:Array (Int × Tok)} {dv:Value}
end
section
variable {X:Cx} {pos p kp:Pos} {e d:Expr} {te td:DE}
def aN9 (te td:DE):DE:=fun ρ M Q=>te ρ M fun x M1=>td ρ M1 fun y M2=>match x,y with
 | .ref a,.int k=>∃ ns:List Int,M2 a = some (ns.map D.int)/\∀ m:Int,(ns = []->m = k)->(∀ n ∈ ns,n<=m)->Q (.int m) M2
 | _,_=>False
end
section
variable {prog:Program} {w:World} {A:Around} {I S:Addr} {fp wr:List Addr} {n:Nat} {P:Nat->Value->Prop} {St:Nat->Heap->Prop} {R:Result->Shared->Prop} {dv:Value}
end
section
variable {prog:Program} {w:World} {A:Around} {E:Value->Shared->Prop} {s:Shared} {l:Addr} {xs:Array (Int × Tok)} {dv:Value}
end
section
variable {X:Cx} {pos p kp:Pos} {e d:Expr} {te td:DE}
end
def aOt:DSp:=fun ds M Q=>match ds with
 | [.int i]=>i.natAbs.log2 < 1920/\Q (.str (toString i)) M
 | [.str x]=>Q (.str x) M
 | _=>False
section
variable {X:Cx}
end
section
variable {X:Cx} {n cm fl:Str} {C Cm:Addr} {j:Nat} {ts:Addr->Int->DS} {b0:Stmt} {suite:List Stmt} {pcm ph pos:Pos}
theorem aB3 {pins:List (Addr × Obj)} {σ:L2.St} {H1:Hp} {s1 s':Shared} {M1:DM} {ρ:cR} {De:fY} {En:pY} {ev:Value} {i:Int} (ok:X.Ok) (hs:X.stack = X.env :: X.outer) (hf:X.env.frame = some X.env.locals) (hex:X.ex = [])
  (hX:∀ e s,X.xe e s->False) (hN:X.N.Nodup) (hj:X.N[j]? = some n) (hnl:X.env.scope.names.lookup n = some .local)
  (hcm:X.mg cm = some (.ref Cm)) (hgc:Gl X cm) (hdc:(cm == ("__debug__":Str)) = false) (hmt:exmOne X.K (.ref C) (.ref Cm) = some true)
  {hs0 cT:List ExceptHandler} (hsk:∀ h ∈ hs0,∃ c p nm bd ph Cc,h = .ExceptHandler (some (.Name c p)) nm bd ph/\X.mg c = some (.ref Cc)/\Gl X c/\(c == ("__debug__":Str)) = false/\exmOne X.K (.ref C) (.ref Cc) = some false)
  (hsu:∀ a o dx oD t,ExY o C dx->lookIn fl oD = some (some (.int i t))->kM (Exc (Pn X dx oD) a o) (b0 :: suite) (ts a i))
  (I1:Inv X pins σ H1 s1) (re:fP X.K H1 ρ σ) (k:jF X.K H1 De En) (q:∀ a,ts a i (De.un j) (ρ.set j (some (.ref a))) M1)
  (h:CXy X.prog X.w X.stack H1 s1 (XW X.K C fl M1 i) ev s') :
  wpAny (model X.prog X.w) X.A (noteFrame ev X.env) (fun _ s₂=>wpAny (model X.prog X.w) X.A (setFlight ev none)
   (fun _ s₃=>wpAny (model X.prog X.w) X.A (handleBy ev X.env (hs0 ++ .ExceptHandler (some (.Name cm pcm)) (some n) (b0 :: suite) ph :: cT)) (SP X pins En) X.xe s₃) X.xe s₂) X.xe s':=by
 obtain ⟨a,cls,T,H',od,rfl,os,bare,un,hok,tr,na,nT,ha,hT,rfl,dx,M',rfl,hm',sub,hxd⟩:=h
 have I2:Inv X pins σ H' s':=I1.call' (ch:=[]) os un hok bare (fun b z=>absurd z (by simp))
 have fa:FpN X pins H' a:=I1.fpN hex na ha
 have fT:FpN X pins H' T:=I1.fpN hex nT hT
 have ex:Ext H1 H':=⟨un.tups,un.frzs⟩
 refine xJ I2 hs hf hex I2.ok.frames tr fa fT fun s3 T3 I3 t3 f3=>?_
 refine kU I3 t3 f3 fun s4 I4 t4=>?_
 have noF:∀ {s:Shared} {oe:Obj} {vs:Array Value},Inv X pins σ H' s->s.heap.get? a = some oe->oe.data = .fields vs->a ∉ X.fs:=fun {s oe vs} I he hd hb=>by
  obtain ⟨_,o,ho,hnf⟩:=I.funs.mem hb
  rw [he] at ho;cases ho;exact hnf vs hd
 have inn:∀ {s:Shared} {T fl},Inv X pins σ H' s->TrY (some dx) s.heap a (.ref C) T fl->∃ oe,oe.cls = .ref C/\s.heap.get? a = some oe/\Inv (Exc X a oe) pins σ H' s:=fun {s T fl} I t=>by
  obtain ⟨oe,vs,oT,ts,he,hc,hd,_⟩:=t
  exact ⟨oe,hc.1,he,aFN I he ha fa.2.1 (noF I he hd) fun v z=>by rw [hd] at z;cases z⟩
 obtain ⟨o4,hc4,he4,J4⟩:=inn I4 t4
 have LT:∀ M:Model,Looks M s4.heap (typeOf (.ref a)) (.ref C):=fun M=>hc4 ▸ (PySem.W.Looks.ld he4).andThen .now
 induction hs0 with
 | cons h hs0 ih =>
  obtain ⟨c,p,nm,bd,ph',Cc,rfl,h1,h2,h3,h4⟩:=hsk h (mem_cons_self ..)
  rw [cons_append]
  refine wpAny_handleBy_cons (codeAny_handlers_test ?_) (by intro z;cases z)
  refine iK (X:=Exc X a o4) J4 h2 h1 ?_ h3
  refine (PySem.W.exm_one J4.kIn (LT _) h4).here ?_
  simp only [Bool.false_eq_true,if_false]
  exact ih fun x hx=>hsk x (mem_cons_of_mem _ hx)
 | nil =>
 rw [nil_append]
 refine wpAny_handleBy_cons (codeAny_handlers_test ?_) (by intro z;cases z)
 refine iK (X:=Exc X a o4) J4 hgc hcm ?_ hdc
 refine (PySem.W.exm_one J4.kIn (LT _) hmt).here ?_
 simp only [if_true]
 refine codeAny_handlers_suite_as ?_
 refine kU I4 t4 f3 fun s5 I5 t5=>?_
 obtain ⟨oe,vs,oT,tts,he5,hc5,hd5,_⟩:=t5
 refine tO (v:=.ref a) I5 hN hj (.inl hnl) rfl (fun s6 I6 ⟨b,hsb,hb⟩=>?_) (.inr hnl)
 have hne:a ≠ b:=by
  rcases hb with hb | hb
  ·rw [hb];exact fa.2.1
  ·exact fun z=>fa.2.2.2.1 n b hb z.symm
 have he6:s6.heap.get? a = some oe:=(hsb.2 a hne).trans he5
 obtain ⟨oD,I7,hlk⟩:=aNo I6 hxd
 obtain ⟨tk,hlk⟩:=hlk fl i rfl
 have ha':delH H' dx a = none:=by
  unfold delH;split
  ·rfl
  ·exact ha
 have J6:Inv (Exc (Pn X dx oD) a oe) pins (σ.set j (some (.ref a))) (delH H' dx) s6:=aFN (X:=Pn X dx oD) I7 he6 ha' fa.2.1 (noF I5 he5 hd5) fun v z=>by rw [hd5] at z;cases z
 have ex2:=ex.trans (Ext.delX hxd)
 have run:=hsu a oe dx oD tk ⟨hc5.1,hc5.2,_,hd5⟩ hlk pins s6 (σ.set j (some (.ref a))) (delH H' dx) (aGa En j) J6 ⟨_,M1,De.un j,(re.ext ex2).set gP j,aEo (hm'.sub sub) hxd,q a,(k.at ex2).un j⟩
 refine wpAny_mono run (fun fl s7 h7=>?_) fun x s7 h7=>(hX x s7 h7).elim
 cases fl with
 | next =>
  obtain ⟨σ',H7,I7,q7⟩:=h7
  exact pV (aBb ok (wD (aCQ ok) I7)) hN hj hnl fun s8 I8=>⟨_,H7,I8,q7⟩
 | brk =>
  obtain ⟨σ',H7,I7,q7⟩:=h7
  exact pV (aBb ok (wD (aCQ ok) I7)) hN hj hnl fun s8 I8=>⟨_,H7,I8,q7⟩
 | cont =>
  obtain ⟨σ',H7,I7,q7⟩:=h7
  exact pV (aBb ok (wD (aCQ ok) I7)) hN hj hnl fun s8 I8=>⟨_,H7,I8,q7⟩
 | ret u =>
  obtain ⟨v,σ',H7,I7,r7,q7⟩:=h7
  exact pV (aBb ok (wD (aCQ ok) I7)) hN hj hnl fun s8 I8=>⟨v,_,H7,I8,r7,q7⟩
end
noncomputable def xW2 (C1:Addr) (f1:Str) (C2:Addr) (f2:Str) (j:Nat) (t1 t2:Addr->Int->DS) (De:fY):XV:=fun xc ρ M=>match xc with
 | .x _=>False
 | .y C f i=>(C = C1/\f = f1/\∀ a,t1 a i (De.un j) (ρ.set j (some (.ref a))) M) ∨ (C = C2/\f = f2/\∀ a,t2 a i (De.un j) (ρ.set j (some (.ref a))) M)
section
variable {X:Cx} {n c1 c2 f1 f2:Str} {C1 C2 D1 D2:Addr} {j:Nat} {t1 t2:Addr->Int->DS} {body s1 s2:List Stmt} {b1 b2:Stmt} {h3:ExceptHandler} {tb:XV->DS} {p1 p2 ph1 ph2 pos:Pos}
theorem aHe (hb:aGj X body tb) (hN:X.N.Nodup) (hc1:X.mg c1 = some (.ref D1)) (hc2:X.mg c2 = some (.ref D2)) (hm1:exmOne X.K (.ref C1) (.ref D1) = some true) (hm2:exmOne X.K (.ref C2) (.ref D2) = some true) (hm3:exmOne X.K (.ref C2) (.ref D1) = some false)
  (hs1:∀ i a o dx oD t,ExY o C1 dx->lookIn f1 oD = some (some (.int i t))->kM (Exc (Pn X dx oD) a o) (b1 :: s1) (t1 a i))
  (hs2:∀ i a o dx oD t,ExY o C2 dx->lookIn f2 oD = some (some (.int i t))->kM (Exc (Pn X dx oD) a o) (b2 :: s2) (t2 a i))
  (hj:X.N[j]? = some n:=by rfl) (hnl:X.env.scope.names.lookup n = some .local:=by rfl)
  (hs:X.stack = X.env :: X.outer:=by rfl) (hf:X.env.frame = some X.env.locals:=by rfl) (hex:X.ex = []:=by rfl) (hX:∀ e s,X.xe e s->False:=by exact fun _ _ z=>z)
  (hg1:Gl X c1:=by rfl) (hd1:(c1 == ("__debug__":Str)) = false:=by decide) (hg2:Gl X c2:=by rfl) (hd2:(c2 == ("__debug__":Str)) = false:=by decide) :
  PDS X (.Try body [.ExceptHandler (some (.Name c1 p1)) (some n) (b1 :: s1) ph1,.ExceptHandler (some (.Name c2 p2)) (some n) (b2 :: s2) ph2,h3] [] [] pos) (aFx tb (xW2 C1 f1 C2 f2 j t1 t2)):=by
 intro pins s σ H En I ⟨ρ,M,De,re,hm,q,k'⟩
 refine wpAny_Try_except ?_
 refine wpAny_mono (hb pins s σ H En _ I ⟨ρ,M,De,_,re,hm,q,k',?_⟩) (fun f s1 z=>?_) fun _ _ z=>z
 ·intro xc σ' H1 s1 M1 ρ' ev s' I1 re1 ex v y
  cases xc with
  | x C=>exact v.elim
  | y C f i =>
   rcases v with ⟨rfl,rfl,v⟩ | ⟨rfl,rfl,v⟩
   ·exact aB3 (hs0:=[]) I.ok hs hf hex hX hN hj hnl hc1 hg1 hd1 hm1 (fun h hh=>by cases hh) (hs1 i) I1 re1 (k'.at ex) v y
   ·exact aB3 (hs0:=[_]) I.ok hs hf hex hX hN hj hnl hc2 hg2 hd2 hm2 (fun h hh=>⟨_,_,_,_,_,_,List.mem_singleton.mp hh,hc1,hg1,hd1,hm3⟩) (hs2 i) I1 re1 (k'.at ex) v y
 ·cases f with
  | next=>exact wpAny_execs_nil z
  | ret v=>exact z
  | brk=>exact z
  | cont=>exact z
end
section
variable {X:Cx} {n cm fl:Str} {C Cm:Addr} {j:Nat} {ts:Addr->Int->DS} {b0:Stmt} {suite:List Stmt} {pcm ph pos:Pos}
end
section
variable {X:Cx} {n c1 c2 f1 f2:Str} {C1 C2 D1 D2:Addr} {j:Nat} {t1 t2:Addr->Int->DS} {body s1 s2:List Stmt} {b1 b2:Stmt} {h3:ExceptHandler} {tb:XV->DS} {p1 p2 ph1 ph2 pos:Pos}
theorem aFa (hb:aCd X body tb) (hN:X.N.Nodup) (hc1:X.mg c1 = some (.ref D1)) (hc2:X.mg c2 = some (.ref D2)) (hm1:exmOne X.K (.ref C1) (.ref D1) = some true) (hm2:exmOne X.K (.ref C2) (.ref D2) = some true) (hm3:exmOne X.K (.ref C2) (.ref D1) = some false) (hs1:∀ i a o dx oD t,ExY o C1 dx->lookIn f1 oD = some (some (.int i t))->ZSs (Exc (Pn X dx oD) a o) (b1 :: s1) (t1 a i)) (hs2:∀ i a o dx oD t,ExY o C2 dx->lookIn f2 oD = some (some (.int i t))->ZSs (Exc (Pn X dx oD) a o) (b2 :: s2) (t2 a i)) (hj:X.N[j]? = some n:=by rfl) (hnl:X.env.scope.names.lookup n = some .local:=by rfl) (hs:X.stack = X.env :: X.outer:=by rfl) (hf:X.env.frame = some X.env.locals:=by rfl) (hex:X.ex = []:=by rfl) (hX:∀ e s,X.xe e s->False:=by exact fun _ _ z=>z) (hg1:Gl X c1:=by rfl) (hd1:(c1 == ("__debug__":Str)) = false:=by decide) (hg2:Gl X c2:=by rfl) (hd2:(c2 == ("__debug__":Str)) = false:=by decide):ZS X (.Try body [.ExceptHandler (some (.Name c1 p1)) (some n) (b1 :: s1) ph1,.ExceptHandler (some (.Name c2 p2)) (some n) (b2 :: s2) ph2,h3] [] [] pos) (aFx tb (xW2 C1 f1 C2 f2 j t1 t2)):=.i (aHe hb.o hN hc1 hc2 hm1 hm2 hm3 (fun i a o dx oD t h1 h2=>(hs1 i a o dx oD t h1 h2).o) (fun i a o dx oD t h1 h2=>(hs2 i a o dx oD t h1 h2).o) hj hnl hs hf hex hX hg1 hd1 hg2 hd2)
end
end Dd
namespace Lw
open PySem PySem.Spec PyProof.Rows L2 Dd Mz
local macro_rules | `(tactic| ac_nf) => `(tactic| try dsimp only [aOt, aN9, aFx, aOS, aMY, aOW, aDz, aGE, aM3, aMC, aG9, aDO, aDj, aJF, aJx, aM7, aJz, aJg, aFe, aGk, aC4, aJD, aGG, aFt, aDt, aJS, aMD, aGd, aKT, aJp, aJL, aJO, aKa, aOd, aOO, aOh, aNA, aIU, aAP, aLi, aCS, aOC, aMo, aGz, aKW, aLX, aFE, aGq, aKX, aGp, aK8, aOi, aMV, aNG, iA, aDv, fY.un, aLy, List.map, List.length_cons, List.length_nil, Nat.reduceAdd, Nat.reduceSub, List.reduceReplicate, List.cons_append, List.nil_append, List.set_cons_zero, List.set_cons_succ, List.getElem?_cons_zero, List.getElem?_cons_succ, gCn, gN, gNl, aKo, aKS, aNi, aNI, aNu, aNr, aNP, aNK, aN0, aIT, aIP, aHJ, aFg, aLO, aI6, aIK, aIc, aIr, aIg, aHL, aHV, aFv, aKf, aMK, aMO, aMR, aN2, ixT, ixF, aO0, aOg, aOr, aNY, aMJ, aK9, nI, jB, mK, dOp, aIo, dC, d2I, d2J, aNc, vK, aK0, dOr, aKi, aHg, aKH, aFI, aKJ, aKg, aKA, aHm, aLb, aHi, aKD, aC0, aEL, aMp, aGH, aI4, aMg, aGb, aHo, aDh, aKU, aHH, aIh, aLd, aMw, aNb, aNQ, aKF, zM, Option.join_some, aNB, aKs, aLF, dPt, aNk, dSl, aJ2, aJw, aJK, aDf, aGB, aOm, aAE, uO, aMI, aGI, aOE, aF1, aPi, aJ6, aHB, aGJ, isV, aJR, aL6, aMF, aKt, aKd, aLx, aJ1, aME, aMn, aKb, aKu, aKL, aKh, aJX, aJ8, aL5, aK7, aKO, aLw, aL4, aJQ, aJW, aLe, aLq, aKq, aKB, aMa])
local macro_rules | `(tactic| simp_arith) => `(tactic| try simp only [aF9, aFk, aJ4, cB, aK, id, decide_eq_true_eq, Bool.not_eq_true', decide_eq_false_iff_not])
noncomputable def top (i:Nat):Stmt:=PySem.Challenge.pw_arcmill_k26_whole_texts_by_lines.main.body.getD i (.Pass ⟨0,0,0,0⟩)
section
variable {P:Program} {w:World} {K:Frag} {mg:Str->Option Value} {base:Heap}
noncomputable abbrev gY:Stmt:=top 7
theorem jN:aR ["one","other"] ["one","other"] (aH gY):=⟨rfl,rfl,rfl,by decide +kernel,rfl,by decide +kernel,by decide +kernel⟩
theorem oE (hF:cE K mg "greatest_divisor" gY ["one","other"]) (lZ:mg "abs" = none):Has P w K mg base 101 "greatest_divisor" ["one","other"] eF:=by
 refine Has.mkZ hF jN (fun ds M Q ⟨a,b,e,_⟩=>by rw [e];rfl) fun f cdv A outer s H ds M Q E hr h=>?_
 obtain ⟨a,b,rfl,q⟩:=h
 refine ⟨_,(aF (pM PassesOwn.never (aN (fX hr) (aA 1) aC) (aE (pT (i:=0) (j:=1) rfl jN.nd (aB (aA 1) (aB (aO dO (aA 0) (aA 1)) aD)))))
  (aE (aM (cD wY lZ (aB (aA 0) aD))))),?_⟩
 refine pO (fun m ρ M'=>M' = M/\∃ x y:Int,ρ = [some (.int x),some (.int y)]/\m = y.natAbs/\Int.gcd x y = Int.gcd a b) _ ⟨rfl,a,b,rfl,rfl,rfl⟩ ?_
 rintro m ρ M' ⟨rfl,x,y,rfl,rfl,g⟩
 refine ⟨rfl,rfl,aOb (fun c=>?_) (fun c=>?_)⟩
 ·have c:y ≠ 0:=by simpa [eqD] using c
  exact ⟨c,_,aBw c,rfl,y,x.fmod y,rfl,rfl,(wP x y).trans g⟩
 ·have c:y = 0:=by simpa [eqD] using c
  subst c
  refine ⟨M',.refl _,?_⟩
  have e:(if x < 0 then -x else x) = (Int.gcd a b:Int):=by rw [<- g,Int.gcd_zero_right];split<;>omega
  rw [e]
  exact q
noncomputable abbrev aDl:Stmt:=top 8
theorem tD:aR ["one","other","shared","part","top","left"] ["one","other"] (aH aDl):=⟨rfl,rfl,rfl,by decide +kernel,rfl,by decide +kernel,by decide +kernel⟩
theorem aFj (hF:cE K mg "plus" aDl ["one","other"]) (bB:Has P w K mg base 101 "greatest_divisor" ["one","other"] eF):Has P w K mg base 102 "plus" ["one","other"] aBC:=by
 refine Has.mkZ hF tD sU fun f cdv A outer s H ds M Q E hr h=>?_
 obtain ⟨p,r,m,n,rfl,_,h1,h2,l,q⟩:=h
 refine ⟨_,(aF (aP (i:=2) tD.nd (aG bB hr (by decide) (aB (aI (aA 0) aC) (aB (aI (aA 1) aC) aD))))
  (aF (aP (i:=3) tD.nd (aO dS (aI (aA 0) aC) (aA 2)))
  (aF (aP (i:=4) tD.nd (aO dZ (aO bW (aI (aA 0) aC) (aO dS (aI (aA 1) aC) (aA 2))) (aO bW (aI (aA 1) aC) (aA 3))))
  (aF (aP (i:=5) tD.nd (aG bB hr (by decide) (aB (aA 4) (aB (aA 2) aD))))
  (aE (aM (aQ (aB (aO dS (aA 4) (aA 5)) (aB (aO bW (aA 3) (aO dS (aI (aA 1) aC) (aA 5))) aD))))))))),?_⟩
 obtain ⟨g0,l0,gd,ld,e1,e2⟩:=aPh p r _ _ _ _ rfl rfl rfl rfl
 have gr:(Int.gcd p.den r.den:Int) ∣ (r.den:Int):=Int.gcd_dvd_right _ _
 have bg:Bd m (Int.gcd p.den r.den:Int):=h1.2.dvd gd (eM p)
 refine ⟨_,_,rfl,vQ h1.2 (by omega) gd (eM p) g0,vQ h1.2 (by omega) gd (eM p) g0,cZ h1.1 (h2.2.fdiv gr) (by omega),cZ h2.1 (h1.2.fdiv gd) (by omega),_,_,rfl,?_⟩
 refine ⟨vQ bg (by omega) ld g0 l0,vQ bg (by omega) ld g0 l0,cZ (h1.2.fdiv gd) (h2.2.fdiv (Int.dvd_trans ld gr)) (by omega),by show (2:Nat)<=1000;decide,M,.refl _,?_⟩
 have q':Q (.tup [.int (p + r).num,.int ((p + r).den:Int)]) M:=q
 rw [<- e1,<- e2] at q'
 exact q'
noncomputable abbrev wE:Stmt:=top 9
theorem lW:aR ["one","other","falling","rising"] ["one","other"] (aH wE):=⟨rfl,rfl,rfl,by decide +kernel,rfl,by decide +kernel,by decide +kernel⟩
theorem aEV (hF:cE K mg "times" wE ["one","other"]) (bB:Has P w K mg base 101 "greatest_divisor" ["one","other"] eF):Has P w K mg base 102 "times" ["one","other"] aBQ:=by
 refine Has.mkZ hF lW sU fun f cdv A outer s H ds M Q E hr h=>?_
 obtain ⟨p,r,m,n,rfl,_,h1,h2,l,q⟩:=h
 refine ⟨_,(aF (aP (i:=2) lW.nd (aG bB hr (by decide) (aB (aI (aA 0) aC) (aB (aI (aA 1) aC) aD))))
  (aF (aP (i:=3) lW.nd (aG bB hr (by decide) (aB (aI (aA 1) aC) (aB (aI (aA 0) aC) aD))))
  (aE (aM (aQ (aB (aO bW (aO dS (aI (aA 0) aC) (aA 2)) (aO dS (aI (aA 1) aC) (aA 3))) (aB (aO bW (aO dS (aI (aA 0) aC) (aA 3)) (aO dS (aI (aA 1) aC) (aA 2))) aD))))))),?_⟩
 obtain ⟨f0,r0,fd,rd,e1,e2⟩:=aN6 p r _ _ rfl rfl
 have fl:(Int.gcd p.num r.den:Int) ∣ p.num:=Int.gcd_dvd_left _ _
 have rl:(Int.gcd r.num p.den:Int) ∣ r.num:=Int.gcd_dvd_left _ _
 refine ⟨_,_,rfl,_,_,rfl,vQ h2.2 (by omega) fd (eM r) f0,vQ h1.2 (by omega) rd (eM p) r0,cZ (h1.1.fdiv fl) (h2.1.fdiv rl) (by omega),vQ h1.2 (by omega) rd (eM p) r0,vQ h2.2 (by omega) fd (eM r) f0,cZ (h1.2.fdiv rd) (h2.2.fdiv fd) (by omega),by show (2:Nat)<=1000;decide,M,.refl _,?_⟩
 have q':Q (.tup [.int (p * r).num,.int ((p * r).den:Int)]) M:=q
 rw [<- e1,<- e2] at q'
 exact q'
noncomputable abbrev aBm:Stmt:=top 10
theorem aGW:aR ["one","other"] ["one","other"] (aH aBm):=⟨rfl,rfl,rfl,by decide +kernel,rfl,by decide +kernel,by decide +kernel⟩
theorem aE7 (hF:cE K mg "below" aBm ["one","other"]):Has P w K mg base 101 "below" ["one","other"] aB7:=by
 refine Has.mkZ hF aGW sU fun f cdv A outer s H ds M Q E hr h=>?_
 obtain ⟨p,r,m,n,rfl,_,h1,h2,l,q⟩:=h
 refine ⟨_,(aE (aM (cQ qK (aO bW (aI (aA 0) aC) (aI (aA 1) aC)) (aO bW (aI (aA 1) aC) (aI (aA 0) aC))))),?_⟩
 refine ⟨cZ h1.1 h2.2 (by omega),cZ h2.1 h1.2 (by omega),M,.refl _,?_⟩
 have e:decide (p.num * (r.den:Int) < r.num * (p.den:Int)) = decide (p < r):=decide_eq_decide.mpr (ltQ p r)
 show Q (.bl (decide (p.num * (r.den:Int) < r.num * (p.den:Int)))) M
 rw [e]
 exact q
noncomputable def oD (x y:Rat):Int:=if (x.den:Int) = (y.den:Int) then (x.den:Int) else (x.den:Int) * (y.den:Int)
noncomputable def oX (x y:Rat):Int:=if (x.den:Int) = (y.den:Int) then x.num else x.num * (y.den:Int)
noncomputable def oY (x y:Rat):Int:=if (x.den:Int) = (y.den:Int) then y.num else y.num * (x.den:Int)
theorem aDu (x y:Rat):0 < oD x y:=by
 have h1:(0:Int) < x.den:=by have:=x.den_pos;omega
 have h2:(0:Int) < y.den:=by have:=y.den_pos;omega
 unfold oD;split
 ·exact h1
 ·exact Int.mul_pos h1 h2
theorem aJj (x y:Rat):((oX x y:Int):Rat) = x * (oD x y:Int):=by
 have e:=gL x
 unfold oX oD;split
 ·rw [e]
 ·rw [Rat.intCast_mul,Rat.intCast_mul,e];grind
theorem aJB (x y:Rat):((oY x y:Int):Rat) = y * (oD x y:Int):=by
 have e:=gL y
 unfold oY oD;split
 ·rename_i h;rw [e,h]
 ·rw [Rat.intCast_mul,Rat.intCast_mul,e];grind
theorem aEO {x y:Rat} {n:Nat} (hx:BQ n x) (hy:BQ n y):Bd (n + n) (oX x y)/\Bd (n + n) (oY x y)/\Bd (n + n) (oD x y):=by
 unfold oX oY oD
 refine ⟨?_,?_,?_⟩
 ·split
  ·exact hx.1.mono (by omega)
  ·exact hx.1.mul hy.2
 ·split
  ·exact hy.1.mono (by omega)
  ·exact hy.1.mul hx.2
 ·split
  ·exact hx.2.mono (by omega)
  ·exact hx.2.mul hy.2
def iP:DSp:=fun ds M Q=>∃ x y n,ds = [PQ x y]/\BQ n x/\BQ n y/\n<=8998/\Q (.tup [.int (oX x y),.int (oY x y),.int (oD x y)]) M
noncomputable abbrev jG:Stmt:=top 13
theorem iQ:aR ["p","x","y"] ["p"] (aH jG):=⟨rfl,rfl,rfl,by decide +kernel,rfl,by decide +kernel,by decide +kernel⟩
theorem sP (hF:cE K mg "on_one_bottom" jG ["p"]):Has P w K mg base 101 "on_one_bottom" ["p"] iP:=by
 refine Has.mkZ hF iQ (fun ds M Q ⟨x,y,n,e,_⟩=>by rw [e];rfl) fun f cdv A outer s H ds M Q E hr h=>?_
 obtain ⟨x,y,n,rfl,hx,hy,hn,q⟩:=h
 refine ⟨_,(aF (fN (aA 0) (gO (n:=2) rfl (bA (aS (i:=1) iQ.nd) (bA (aS (i:=2) iQ.nd) eE))))
  (aF (aV (aN (bO hr) (aI (aA 1) aC) (aI (aA 2) aC)) (aE (aM (aQ (aB (aI (aA 1) aC) (aB (aI (aA 2) aC) (aB (aI (aA 1) aC) aD)))))) aU)
  (aE (aM (aQ (aB (aO bW (aI (aA 1) aC) (aI (aA 2) aC)) (aB (aO bW (aI (aA 2) aC) (aI (aA 1) aC)) (aB (aO bW (aI (aA 1) aC) (aI (aA 2) aC)) aD)))))))),?_⟩
 unfold oX oY oD at q
 ac_nf
 rw [cB]
 refine ⟨rfl,dif (fun c=>?_) (fun c=>?_)⟩
 ·rw [if_pos c,if_pos c,if_pos c] at q
  exact ⟨by decide,M,.refl _,q⟩
 ·rw [if_neg c,if_neg c,if_neg c] at q
  exact ⟨cZ hx.1 hy.2 (by omega),cZ hy.1 hx.2 (by omega),cZ hx.2 hy.2 (by omega),by decide,M,.refl _,q⟩
def aA7:DSp:=fun ds M Q=>∃ i,ds = [.int i]/\Q (.int (if 0 < i then 1 else if i = 0 then 0 else -1)) M
noncomputable abbrev aCY:Stmt:=top 14
theorem aI1:aR ["number"] ["number"] (aH aCY):=⟨rfl,rfl,rfl,by decide +kernel,rfl,by decide +kernel,by decide +kernel⟩
theorem aFh (hF:cE K mg "sign" aCY ["number"]):Has P w K mg base 101 "sign" ["number"] aA7:=by
 refine Has.mkZ hF aI1 (fun ds M Q ⟨x,e,_⟩=>by rw [e];rfl) fun f cdv A outer s H ds M Q E hr h=>?_
 obtain ⟨i,rfl,q⟩:=h
 refine ⟨_,(aF (aV (aN kT (aA 0) aC) (aE (aM aC)) aU)
  (aE (aM (cA (aN (bO hr) (aA 0) aC) aC (gF aC))))),?_⟩
 ac_nf
 refine dif (fun c=>?_) (fun c=>?_)
 ·rw [if_pos c] at q
  exact ⟨M,.refl _,q⟩
 ·rw [if_neg c] at q
  rw [cB]
  refine dif (fun d=>?_) (fun d=>?_)
  ·rw [if_pos d] at q
   exact ⟨M,.refl _,q⟩
  ·rw [if_neg d] at q
   exact ⟨M,.refl _,q⟩
noncomputable def fS (cx cy px py:Rat):Int:=(oX px py * oD cx cy - oX cx cy * oD px py) * (oX px py * oD cx cy - oX cx cy * oD px py) + (oY px py * oD cx cy - oY cx cy * oD px py) * (oY px py * oD cx cy - oY cx cy * oD px py)
theorem aJu (cx cy px py:Rat):((fS cx cy px py:Int):Rat) = ((px - cx) * (px - cx) + (py - cy) * (py - cy)) * (((oD cx cy:Int):Rat) * ((oD px py:Int):Rat)) * (((oD cx cy:Int):Rat) * ((oD px py:Int):Rat)):=by
 unfold fS
 simp only [Rat.intCast_add,Rat.intCast_mul,Rat.intCast_sub]
 rw [aJj,aJj,aJB,aJB]
 grind
def qF:DSp:=fun ds M Q=>∃ cx cy px py n,ds = [PQ cx cy,PQ px py]/\BQ n cx/\BQ n cy/\BQ n px/\BQ n py/\n<=4000/\Q (.tup [.int (fS cx cy px py),.int (oD px py)]) M
noncomputable abbrev nH:Stmt:=top 16
theorem dL:aR ["c","p","cx","cy","cd","px","py","pd","x","y"] ["c","p"] (aH nH):=⟨rfl,rfl,rfl,by decide +kernel,rfl,by decide +kernel,by decide +kernel⟩
theorem wX (hF:cE K mg "scaled_far" nH ["c","p"]) (gQ:Has P w K mg base 101 "on_one_bottom" ["p"] iP):Has P w K mg base 102 "scaled_far" ["c","p"] qF:=by
 refine Has.mkZ hF dL (fun ds M Q ⟨cx,cy,px,py,n,e,_⟩=>by rw [e];rfl) fun f cdv A outer s H ds M Q E hr h=>?_
 obtain ⟨cx,cy,px,py,n,rfl,h1,h2,h3,h4,hn,q⟩:=h
 refine ⟨_,(aF (fN (aG gQ hr (by decide) (aB (aA 0) aD)) (gO (n:=3) rfl (bA (aS (i:=2) dL.nd) (bA (aS (i:=3) dL.nd) (bA (aS (i:=4) dL.nd) eE)))))
  (aF (fN (aG gQ hr (by decide) (aB (aA 1) aD)) (gO (n:=3) rfl (bA (aS (i:=5) dL.nd) (bA (aS (i:=6) dL.nd) (bA (aS (i:=7) dL.nd) eE)))))
  (aF (aP (i:=8) dL.nd (aO nC (aO bW (aA 5) (aA 4)) (aO bW (aA 2) (aA 7))))
  (aF (aP (i:=9) dL.nd (aO nC (aO bW (aA 6) (aA 4)) (aO bW (aA 3) (aA 7))))
  (aE (aM (aQ (aB (aO dZ (aO bW (aA 8) (aA 8)) (aO bW (aA 9) (aA 9))) (aB (aA 7) aD))))))))),?_⟩
 ac_nf
 obtain ⟨a1,a2,a3⟩:=aEO h1 h2
 obtain ⟨b1,b2,b3⟩:=aEO h3 h4
 have dX:Bd (n + n + (n + n) + 1) (oX px py * oD cx cy - oX cx cy * oD px py):=(b1.mul a3).sub (a1.mul b3)
 have dY:Bd (n + n + (n + n) + 1) (oY px py * oD cx cy - oY cx cy * oD px py):=(b2.mul a3).sub (a2.mul b3)
 refine ⟨cx,cy,n,rfl,h1,h2,by omega,?_⟩
 ac_nf
 refine ⟨rfl,px,py,n,rfl,h3,h4,by omega,?_⟩
 ac_nf
 exact ⟨rfl,cZ b1 a3 (by omega),cZ a1 b3 (by omega),cZ b2 a3 (by omega),cZ a2 b3 (by omega),cZ dX dX (by omega),cZ dY dY (by omega),by decide,M,.refl _,q⟩
noncomputable def gG (cx cy px py:Rat):Rat:=(px - cx) * (px - cx) + (py - cy) * (py - cy)
theorem aJE {cx cy px py:Rat} {n:Nat} (h1:BQ n cx) (h2:BQ n cy) (h3:BQ n px) (h4:BQ n py):Bd (8 * n + 3) (fS cx cy px py):=by
 obtain ⟨a1,a2,a3⟩:=aEO h1 h2
 obtain ⟨b1,b2,b3⟩:=aEO h3 h4
 have dX:Bd (n + n + (n + n) + 1) (oX px py * oD cx cy - oX cx cy * oD px py):=(b1.mul a3).sub (a1.mul b3)
 have dY:Bd (n + n + (n + n) + 1) (oY px py * oD cx cy - oY cx cy * oD px py):=(b2.mul a3).sub (a2.mul b3)
 exact ((dX.mul dX).add (dY.mul dY)).mono (by omega)
theorem aIj (cx cy px py qx qy:Rat):(0 < fS cx cy px py * oD qx qy * oD qx qy - fS cx cy qx qy * oD px py * oD px py ↔ gG cx cy qx qy < gG cx cy px py) /\
  (fS cx cy px py * oD qx qy * oD qx qy - fS cx cy qx qy * oD px py * oD px py = 0 ↔ gG cx cy px py = gG cx cy qx qy):=by
 have e:((fS cx cy px py * oD qx qy * oD qx qy - fS cx cy qx qy * oD px py * oD px py:Int):Rat) = (gG cx cy px py - gG cx cy qx qy) * ((((oD cx cy:Int):Rat) * ((oD px py:Int):Rat) * ((oD qx qy:Int):Rat)) * (((oD cx cy:Int):Rat) * ((oD px py:Int):Rat) * ((oD qx qy:Int):Rat))):=by
  simp only [Rat.intCast_mul,Rat.intCast_sub]
  rw [aJu,aJu]
  unfold gG
  grind
 have c1:(0:Rat) < ((oD cx cy:Int):Rat):=Rat.intCast_pos.mpr (aDu _ _)
 have c2:(0:Rat) < ((oD px py:Int):Rat):=Rat.intCast_pos.mpr (aDu _ _)
 have c3:(0:Rat) < ((oD qx qy:Int):Rat):=Rat.intCast_pos.mpr (aDu _ _)
 have k0:(0:Rat) < (((oD cx cy:Int):Rat) * ((oD px py:Int):Rat) * ((oD qx qy:Int):Rat)) * (((oD cx cy:Int):Rat) * ((oD px py:Int):Rat) * ((oD qx qy:Int):Rat)):=Rat.mul_pos (Rat.mul_pos (Rat.mul_pos c1 c2) c3) (Rat.mul_pos (Rat.mul_pos c1 c2) c3)
 generalize (((oD cx cy:Int):Rat) * ((oD px py:Int):Rat) * ((oD qx qy:Int):Rat)) * (((oD cx cy:Int):Rat) * ((oD px py:Int):Rat) * ((oD qx qy:Int):Rat)) = κ at e k0
 generalize fS cx cy px py * oD qx qy * oD qx qy - fS cx cy qx qy * oD px py * oD px py = z at e ⊢
 generalize gG cx cy px py = u at e ⊢
 generalize gG cx cy qx qy = v at e ⊢
 constructor
 ·rw [<- Rat.intCast_pos,e]
  constructor
  ·intro h
   by_cases c:v < u
   ·exact c
   ·have:u - v<=0:=by grind
    have:=Rat.mul_nonneg (a:=v - u) (b:=κ) (by grind) (by grind)
    grind
  ·intro h
   exact Rat.mul_pos (by grind) k0
 ·constructor
  ·intro h
   rw [h] at e
   have:=(Rat.mul_eq_zero.mp e.symm).resolve_right (by grind)
   grind
  ·intro h
   have:(z:Rat) = 0:=by rw [e,h];grind
   exact Rat.intCast_eq_zero_iff.mp this
noncomputable def aFr (cx cy px py qx qy:Rat):Int:=if gG cx cy qx qy < gG cx cy px py then 1 else if gG cx cy px py = gG cx cy qx qy then 0 else -1
def yM:DSp:=fun ds M Q=>∃ cx cy px py qx qy n,ds = [PQ cx cy,PQ px py,PQ qx qy]/\BQ n cx/\BQ n cy/\BQ n px/\BQ n py/\BQ n qx/\BQ n qy/\n<=4000/\Q (.int (aFr cx cy px py qx qy)) M
noncomputable abbrev tZ:Stmt:=top 15
theorem jX:aR ["c","p","q","p_square","pd","q_square","qd"] ["c","p","q"] (aH tZ):=⟨rfl,rfl,rfl,by decide +kernel,rfl,by decide +kernel,by decide +kernel⟩
theorem aBT (hF:cE K mg "farther" tZ ["c","p","q"]) (jP:Has P w K mg base 102 "scaled_far" ["c","p"] qF) (aCV:Has P w K mg base 101 "sign" ["number"] aA7):Has P w K mg base 103 "farther" ["c","p","q"] yM:=by
 refine Has.mkZ hF jX (fun ds M Q ⟨cx,cy,px,py,qx,qy,n,e,_⟩=>by rw [e];rfl) fun f cdv A outer s H ds M Q E hr h=>?_
 obtain ⟨cx,cy,px,py,qx,qy,n,rfl,h1,h2,h3,h4,h5,h6,hn,q⟩:=h
 refine ⟨_,(aF (fN (aG jP hr (by decide) (aB (aA 0) (aB (aA 1) aD))) (gO (n:=2) rfl (bA (aS (i:=3) jX.nd) (bA (aS (i:=4) jX.nd) eE))))
  (aF (fN (aG jP hr (by decide) (aB (aA 0) (aB (aA 2) aD))) (gO (n:=2) rfl (bA (aS (i:=5) jX.nd) (bA (aS (i:=6) jX.nd) eE))))
  (aE (aM (aG aCV hr (by decide) (aB (aO nC (aO bW (aO bW (aA 3) (aA 6)) (aA 6)) (aO bW (aO bW (aA 5) (aA 4)) (aA 4))) aD)))))),?_⟩
 ac_nf
 have bP:=aJE h1 h2 h3 h4
 have bQ:=aJE h1 h2 h5 h6
 have dP:=(aEO h3 h4).2.2
 have dQ:=(aEO h5 h6).2.2
 refine ⟨cx,cy,px,py,n,rfl,h1,h2,h3,h4,hn,?_⟩
 ac_nf
 refine ⟨rfl,cx,cy,qx,qy,n,rfl,h1,h2,h5,h6,hn,?_⟩
 ac_nf
 refine ⟨rfl,cZ bP dQ (by omega),cZ (bP.mul dQ) dQ (by omega),cZ bQ dP (by omega),cZ (bQ.mul dP) dP (by omega),_,rfl,M,.refl _,?_⟩
 obtain ⟨e1,e2⟩:=aIj cx cy px py qx qy
 have e:(if 0 < fS cx cy px py * oD qx qy * oD qx qy - fS cx cy qx qy * oD px py * oD px py then 1 else if fS cx cy px py * oD qx qy * oD qx qy - fS cx cy qx qy * oD px py * oD px py = 0 then 0 else -1:Int) = aFr cx cy px py qx qy:=by
  unfold aFr
  by_cases c:gG cx cy qx qy < gG cx cy px py
  ·rw [if_pos c,if_pos (e1.mpr c)]
  ·rw [if_neg c,if_neg (fun z=>c (e1.mp z))]
   by_cases d:gG cx cy px py = gG cx cy qx qy
   ·rw [if_pos d,if_pos (e2.mpr d)]
   ·rw [if_neg d,if_neg (fun z=>d (e2.mp z))]
 rw [e]
 exact q
def aCC:DSp:=fun ds M Q=>ds = []/\Q (FR 0 0 0 1 1) M
noncomputable abbrev aBc:Stmt:=top 31
theorem aG3:aR [] [] (aH aBc):=⟨rfl,rfl,rfl,by decide +kernel,rfl,by decide +kernel,by decide +kernel⟩
theorem aE5 (hF:cE K mg "first" aBc []) (bG:fG K mg "MIDDLE" tE) (kD:fG K mg "ONE" aDx):Has P w K mg base 101 "first" [] aCC:=by
 refine Has.mkZ hF aG3 (fun ds M Q ⟨e,_⟩=>by rw [e];rfl) fun f cdv A outer s H ds M Q E hr h=>?_
 obtain ⟨rfl,q⟩:=h
 refine ⟨_,(aE (aM (aQ (aB (bF bG) (aB aC (aB aC (aB (bF kD) aD))))))),?_⟩
 ac_nf
 exact ⟨by decide,M,.refl _,q⟩
def gD:DSp:=fun ds M Q=>∃ t b,ds = [.int t,.int b]/\0 < b/\Bd 8999 b/\Q (FQ ((t:Rat) / (b:Rat))) M
noncomputable abbrev kW:Stmt:=top 79
theorem gJ:aR ["_law_top","_law_bottom","_law_one","_law_other"] ["_law_top","_law_bottom"] (aH kW):=⟨rfl,rfl,rfl,by decide +kernel,rfl,by decide +kernel,by decide +kernel⟩
theorem zD (hF:cE K mg "_law_ratio" kW ["_law_top","_law_bottom"]) (lZ:mg "abs" = none):Has P w K mg base 101 "_law_ratio" ["_law_top","_law_bottom"] gD:=by
 refine Has.mkZ hF gJ (fun ds M Q ⟨a,b,e,_⟩=>by rw [e];rfl) fun f cdv A outer s H ds M Q E hr h=>?_
 obtain ⟨t,b,rfl,hb,hB,q⟩:=h
 refine ⟨_,(aF (pT (i:=2) (j:=3) rfl gJ.nd (aB (cD wY lZ (aB (aA 0) aD)) (aB (aA 1) aD)))
  (aF (pM PassesOwn.never (aN kT (aA 3) aC) (aE (pT (i:=2) (j:=3) rfl gJ.nd (aB (aA 3) (aB (aO dO (aA 2) (aA 3)) aD)))))
  (aE (aM (aQ (aB (aO dS (aA 0) (aA 2)) (aB (aO dS (aA 1) (aA 2)) aD))))))),?_⟩
 have hb0:b ≠ 0:=by omega
 refine pO (fun m ρ M'=>M' = M/\∃ x y:Int,ρ = [some (.int t),some (.int b),some (.int x),some (.int y)]/\m = y.natAbs/\0<=x/\0<=y/\Int.gcd x y = Int.gcd t b) _ ⟨rfl,_,_,rfl,rfl,by split<;>omega,by omega,by
  split<;>simp [Int.neg_gcd]⟩ ?_
 rintro m ρ M' ⟨rfl,x,y,rfl,rfl,hx,hy,g⟩
 ac_nf
 refine dif (fun c=>?_) (fun c=>?_)
 ·have hy':y ≠ 0:=by omega
  exact ⟨hy',_,aBw hy',rfl,y,x.fmod y,rfl,rfl,hy,Int.fmod_nonneg_of_pos _ (by omega),(wP x y).trans g⟩
 ·have hy':y = 0:=by omega
  subst hy'
  have e:x = (Int.gcd t b:Int):=by rw [<- g,Int.gcd_zero_right];omega
  have fin:Q (.tup [.int (fT t b),.int (fB t b)]) M':=by rw [aDB hb0];exact q
  unfold fT fB at fin
  have s1:=aJs (t:=t) hb0
  have s2:=(hB.sg (t:=t) hb0).log (by decide)
  unfold sg at fin s1 s2
  rw [if_neg (by omega),<- e] at fin s1 s2
  exact ⟨⟨s1,Nat.lt_succ_of_lt s2⟩,⟨s1,Nat.lt_succ_of_lt s2⟩,by decide,M',.refl _,fin⟩
def nZ:DSp:=aBC
noncomputable abbrev rH:Stmt:=top 80
theorem aCj:aR ["_law_one","_law_other"] ["_law_one","_law_other"] (aH rH):=⟨rfl,rfl,rfl,by decide +kernel,rfl,by decide +kernel,by decide +kernel⟩
theorem aBp (hF:cE K mg "_law_plus" rH ["_law_one","_law_other"]) (bY:Has P w K mg base 101 "_law_ratio" ["_law_top","_law_bottom"] gD):Has P w K mg base 102 "_law_plus" ["_law_one","_law_other"] nZ:=by
 refine Has.mkZ hF aCj sU fun f cdv A outer s H ds M Q E hr h=>?_
 obtain ⟨p,r,m,n,rfl,_,h1,h2,l,q⟩:=h
 refine ⟨_,(aE (aM (aG bY hr (by decide) (aB (aO dZ (aO bW (aI (aA 0) aC) (aI (aA 1) aC)) (aO bW (aI (aA 1) aC) (aI (aA 0) aC))) (aB (aO bW (aI (aA 0) aC) (aI (aA 1) aC)) aD))))),?_⟩
 ac_nf
 exact ⟨cZ h1.1 h2.2 (by omega),cZ h2.1 h1.2 (by omega),cZ h1.2 h2.2 (by omega),_,_,rfl,Int.mul_pos (den_pos p) (den_pos r),(h1.2.mul h2.2).mono (by omega),M,.refl _,by rw [aNJ];exact q⟩
def mP:DSp:=aBQ
noncomputable abbrev kO:Stmt:=top 81
theorem sT:aR ["_law_one","_law_other"] ["_law_one","_law_other"] (aH kO):=⟨rfl,rfl,rfl,by decide +kernel,rfl,by decide +kernel,by decide +kernel⟩
theorem zL (hF:cE K mg "_law_times" kO ["_law_one","_law_other"]) (bY:Has P w K mg base 101 "_law_ratio" ["_law_top","_law_bottom"] gD):Has P w K mg base 102 "_law_times" ["_law_one","_law_other"] mP:=by
 refine Has.mkZ hF sT sU fun f cdv A outer s H ds M Q E hr h=>?_
 obtain ⟨p,r,m,n,rfl,_,h1,h2,l,q⟩:=h
 refine ⟨_,(aE (aM (aG bY hr (by decide) (aB (aO bW (aI (aA 0) aC) (aI (aA 1) aC)) (aB (aO bW (aI (aA 0) aC) (aI (aA 1) aC)) aD))))),?_⟩
 ac_nf
 exact ⟨cZ h1.1 h2.1 (by omega),cZ h1.2 h2.2 (by omega),_,_,rfl,Int.mul_pos (den_pos p) (den_pos r),(h1.2.mul h2.2).mono (by omega),M,.refl _,by rw [aLG];exact q⟩
theorem aHd {a b:Rat} (ha:0 < a) (hb:0 < b):0 < a / b:=by
 have e:a / b * b = a:=by grind
 rcases (show a / b < 0 ∨ a / b = 0 ∨ 0 < a / b by grind) with c | c | c
 ·have:=Rat.mul_pos (show 0 < -(a / b) by grind) hb
  grind
 ·rw [c] at e;grind
 ·exact c
theorem aBZ {x:Int} (h1:-10000000<=x) (h2:x<=10000000):Bd 24 x:=by unfold Bd;omega
theorem aHx {t b:Int} (h0:0 < b) (h1:-10000000<=t) (h2:t<=10000000) (h3:b<=10000000):BQ 24 ((t:Rat) / (b:Rat)):=.make (by omega) (aBZ h1 h2) (aBZ (by omega) h3)
def Wh (q:Rat):Prop:=∃ z:Int,q = (z:Rat)/\-20<=z/\z<=20
def nB:DSp:=fun ds M Q=>∃ a b,ds = [.int a,.int b]/\∀ q,BQ 24 q->(b.fmod 5 ≠ 4->b.fmod 3 ≠ 2->Wh q)->Q (FQ q) M
noncomputable abbrev pH:Stmt:=top 82
theorem aAX:aR ["_law_one","_law_other"] ["_law_one","_law_other"] (aH pH):=⟨rfl,rfl,rfl,by decide +kernel,rfl,by decide +kernel,by decide +kernel⟩
theorem zS (hF:cE K mg "_law_drawn" pH ["_law_one","_law_other"]) (bY:Has P w K mg base 101 "_law_ratio" ["_law_top","_law_bottom"] gD):Has P w K mg base 102 "_law_drawn" ["_law_one","_law_other"] nB:=by
 refine Has.mkZ hF aAX (fun ds M Q ⟨a,b,e,_⟩=>by rw [e];rfl) fun f cdv A outer s H ds M Q E hr h=>?_
 obtain ⟨a,b,rfl,q⟩:=h
 refine ⟨_,(aF (aV (aN (bO hr) (aO dO (aA 1) aC) aC) (aE (aM (aG bY hr (by decide) (aB (aO nC (aO dO (aO bW (aA 0) aC) aC) aC) (aB (aO dZ aC (aO dO (aO bW (aA 1) aC) aC)) aD))))) aU)
  (aE (aM (aG bY hr (by decide) (aB (aO nC (aO dO (aA 0) aC) aC) (aB (aO dZ aC (aO dO (aO dS (aA 0) aC) (aI (cK (aB aC (aB aC (aB aC aD)))) (aO dO (aA 1) aC)))) aD)))))),?_⟩
 ac_nf
 simp_arith
 refine ⟨by decide,?_⟩
 by_cases c:b.fmod 5 = 4
 ·rw [if_pos c]
  have h1:=Int.fmod_nonneg_of_pos (a * 7) (show (0:Int) < 1999999 by decide)
  have h2:=Int.fmod_lt_of_pos (a * 7) (show (0:Int) < 1999999 by decide)
  have h3:=Int.fmod_nonneg_of_pos (b * 13) (show (0:Int) < 999999 by decide)
  have h4:=Int.fmod_lt_of_pos (b * 13) (show (0:Int) < 999999 by decide)
  exact ⟨rB (by unfold Bd;decide),by decide,rB (by unfold Bd;decide),by decide,_,_,rfl,by omega,(aBZ (by omega) (by omega)).mono (by decide),M,.refl _,q _ (aHx (by omega) (by omega) (by omega) (by omega)) fun n=>absurd c n⟩
 ·rw [if_neg c]
  refine ⟨by decide,⟨by decide,by decide +kernel⟩,by decide,fun p hp=>⟨by decide,?_⟩⟩
  have s1:=aZ.new hp [.int 1,.int 1,.int 9]
  have h1:=Int.fmod_nonneg_of_pos a (show (0:Int) < 41 by decide)
  have h2:=Int.fmod_lt_of_pos a (show (0:Int) < 41 by decide)
  obtain ⟨k,hk,k0,k1,kw⟩:∃ k:Int,atI [D.int 1,.int 1,.int 9] (b.fmod 3) = some (.int k)/\0 < k/\k<=9/\(b.fmod 3 ≠ 2->k = 1):=by
   have h1:=Int.fmod_nonneg_of_pos b (show (0:Int) < 3 by decide)
   have h2:=Int.fmod_lt_of_pos b (show (0:Int) < 3 by decide)
   have:b.fmod 3 = 0 ∨ b.fmod 3 = 1 ∨ b.fmod 3 = 2:=by omega
   rcases this with e | e | e<;>rw [e]
   ·exact ⟨1,rfl,by decide,by decide,fun _=>rfl⟩
   ·exact ⟨1,rfl,by decide,by decide,fun _=>rfl⟩
   ·exact ⟨9,rfl,by decide,by decide,fun n=>absurd rfl n⟩
  refine ⟨_,_,aJ,hk,?_⟩
  ac_nf
  have h3:=Int.fmod_nonneg_of_pos (a.fdiv 41) k0
  have h4:=Int.fmod_lt_of_pos (a.fdiv 41) k0
  refine ⟨by omega,_,_,rfl,by omega,(aBZ (by omega) (by omega)).mono (by decide),M,s1,q _ (aHx (by omega) (by omega) (by omega) (by omega)) fun _ n=>⟨a.fmod 41 - 20,?_,by omega,by omega⟩⟩
  rw [show 1 + (a.fdiv 41).fmod k = 1 by have:=kw n;omega]
  show _ / (1:Rat) = _
  grind
theorem bqz:BQ 1 0:=⟨by unfold Bd;decide,by unfold Bd;decide⟩
theorem aEw {cx cy px py qx qy:Rat}:aFr cx cy px py qx qy = 0 ↔ gG cx cy px py = gG cx cy qx qy:=by
 unfold aFr
 by_cases c:gG cx cy qx qy < gG cx cy px py
 ·rw [if_pos c]
  exact ⟨fun z=>absurd z (by decide),fun z=>by rw [z] at c;exact absurd c Rat.lt_irrefl⟩
 ·rw [if_neg c]
  by_cases d:gG cx cy px py = gG cx cy qx qy
  ·rw [if_pos d];exact ⟨fun _=>d,fun _=>rfl⟩
  ·rw [if_neg d];exact ⟨fun z=>absurd z (by decide),fun z=>absurd z d⟩
inductive Pl where
 | go (a:Rat) | side (a b:Rat) | skip (a:Rat) | dot | left | right | rnd | mirror | grow (a:Rat) | quarter (a:Rat) | half (a:Rat) | arc (a b c d:Rat)
noncomputable def plD:Pl->D
 | .go a=>.tup [.str "go",FQ a]
 | .side a b=>.tup [.str "side",FQ a,FQ b]
 | .skip a=>.tup [.str "skip",FQ a]
 | .dot=>.tup [.str "dot"]
 | .left=>.tup [.str "left"]
 | .right=>.tup [.str "right"]
 | .rnd=>.tup [.str "round"]
 | .mirror=>.tup [.str "mirror"]
 | .grow a=>.tup [.str "grow",FQ a]
 | .quarter a=>.tup [.str "quarter",FQ a]
 | .half a=>.tup [.str "half",FQ a]
 | .arc a b c d=>.tup [.str "arc",FQ a,FQ b,FQ c,FQ d]
def plB (B:Nat):Pl->Prop
 | .go a=>BQ B a
 | .side a b=>BQ B a/\BQ B b
 | .skip a=>BQ B a
 | .grow a=>BQ B a/\0 < a
 | .quarter a=>BQ B a/\a ≠ 0
 | .half a=>BQ B a/\a ≠ 0
 | .arc a b c d=>BQ B a/\BQ B b/\BQ B c/\BQ B d/\¬ (a = 0/\b = 0)/\¬ (a = c/\b = d)/\gG a b 0 0 = gG a b c d
 | _=>True
inductive Lg where
 | st (x y u v:Rat) | bd (a b c d e f:Rat) (w:Int)
noncomputable def lgD:Lg->D
 | .st x y u v=>.tup [.str "straight",PQ x y,PQ u v]
 | .bd a b c d e f w=>.tup [.str "bend",PQ a b,PQ c d,PQ e f,.int w]
noncomputable def aHb:Pl->Option Lg
 | .go a=>some (.st 0 0 a 0)
 | .side a b=>some (.st 0 0 a b)
 | .dot=>some (.st 0 0 0 0)
 | .quarter a=>if 0 < a then some (.bd 0 a 0 0 a a 1) else some (.bd 0 a 0 0 (-a) a (-1))
 | .half a=>some (.bd 0 a 0 0 0 (a + a) (if 0 < a then 1 else -1))
 | .arc a b c d=>some (.bd a b 0 0 c d 1)
 | _=>none
noncomputable def aF6:Pl->Fm
 | .go a=>⟨a,0,0,1,1⟩
 | .side a b=>⟨a,b,0,1,1⟩
 | .skip a=>⟨a,0,0,1,1⟩
 | .dot=>⟨0,0,0,1,1⟩
 | .left=>⟨0,0,1,1,1⟩
 | .right=>⟨0,0,3,1,1⟩
 | .rnd=>⟨0,0,2,1,1⟩
 | .mirror=>⟨0,0,0,-1,1⟩
 | .grow a=>⟨0,0,0,1,a⟩
 | .quarter a=>if 0 < a then ⟨a,a,1,1,1⟩ else ⟨-a,a,3,1,1⟩
 | .half a=>⟨0,a + a,2,1,1⟩
 | .arc _ _ c d=>⟨c,d,0,1,1⟩
noncomputable def lgO:Option Lg->D
 | none=>.non
 | some l=>lgD l
inductive Rw where
 | pl (p:Pl) | ag (n:Nat) (rs:List Rw) | kp (rs:List Rw) | ev (rs:List Rw)
mutual
noncomputable def rwD:Rw->D
 | .pl p=>plD p
 | .ag n rs=>.tup [.str "again",.int (n:Int),.tup (dF rs)]
 | .kp rs=>.tup [.str "keep",.tup (dF rs)]
 | .ev rs=>.tup [.str "ever",.tup (dF rs)]
noncomputable def dF:List Rw->List D
 | []=>[]
 | r :: rs=>rwD r :: dF rs
end
theorem jW:∀ rs:List Rw,dF rs = rs.map rwD
 | []=>rfl
 | r :: rs=>by rw [dF,jW rs,map_cons]
def Dp:Nat->Rw->Prop
 | _,.pl _=>True
 | 0,_=>False
 | d + 1,.ag n rs=>(n:Int) < 2 ^ 60/\rs.length<=1000/\∀ r ∈ rs,Dp d r
 | d + 1,.kp rs=>rs.length<=1000/\∀ r ∈ rs,Dp d r
 | d + 1,.ev rs=>rs.length<=1000/\∀ r ∈ rs,Dp d r
def DpS:Nat->List Rw->Prop
 | 0,_=>False
 | d + 1,rs=>rs.length<=1000/\∀ r ∈ rs,Dp d r
theorem vI {d n:Nat} {rs:List Rw} (h:Dp d (.ag n rs)):(n:Int) < 2 ^ 60/\DpS d rs:=by
 cases d with
 | zero=>exact h.elim
 | succ d=>exact ⟨h.1,h.2.1,h.2.2⟩
theorem xZ {d:Nat} {rs:List Rw} (h:Dp d (.kp rs)):DpS d rs:=by
 cases d with
 | zero=>exact h.elim
 | succ d=>exact h
theorem aCw {d:Nat} {rs:List Rw} (h:Dp d (.ev rs)):DpS d rs:=by
 cases d with
 | zero=>exact h.elim
 | succ d=>exact h
theorem wB:∀ {d d':Nat} {r:Rw},Dp d r->d<=d'->Dp d' r
 | _,0,.pl _,_,_=>trivial
 | _,_ + 1,.pl _,_,_=>trivial
 | 0,_,.ag _ _,h,_=>h.elim
 | 0,_,.kp _,h,_=>h.elim
 | 0,_,.ev _,h,_=>h.elim
 | d + 1,0,_,_,l=>absurd l (by omega)
 | d + 1,d' + 1,.ag n rs,h,l=>⟨h.1,h.2.1,fun r hr=>wB (h.2.2 r hr) (by omega)⟩
 | d + 1,d' + 1,.kp rs,h,l=>⟨h.1,fun r hr=>wB (h.2 r hr) (by omega)⟩
 | d + 1,d' + 1,.ev rs,h,l=>⟨h.1,fun r hr=>wB (h.2 r hr) (by omega)⟩
noncomputable def inR:Rw->D
 | .pl _=>.non
 | .ag _ rs=>.tup (dF rs)
 | .kp rs=>.tup (dF rs)
 | .ev rs=>.tup (dF rs)
mutual
noncomputable def dnR:Rw->Nat
 | .pl _=>1
 | .ag n rs=>dnS rs * n
 | .kp rs=>dnS rs
 | .ev rs=>dnS rs
noncomputable def dnS:List Rw->Nat
 | []=>0
 | r :: rs=>dnR r + dnS rs
end
noncomputable abbrev LR:=Lg × Int × List Int
structure Ed where
 f:Fm
 a:Int
 rd:List Int
 ls:List LR
theorem aX {Q:DQ} {d:D} {M:DM} (q:Q d M):Dn Q d M:=⟨M,.refl _,q⟩
theorem oU {rs:List Rw} {i:Nat} {d:D} (h:(dF rs)[i]? = some d):∃ r,rs[i]? = some r/\d = rwD r:=by
 rw [jW,getElem?_map] at h
 obtain ⟨r,e,z⟩:=Option.map_eq_some_iff.mp h
 exact ⟨r,e,z.symm⟩
theorem lX (rs:List Rw):(dF rs).length = rs.length:=by rw [jW,length_map]
theorem iE {α:Type} {rs:List α} {i:Nat} {r:α} (h:rs[i]? = some r):rs.take (i + 1) = rs.take i ++ [r]:=by
 have hl:=(List.getElem?_eq_some_iff.mp h).1
 have e:rs[i] = r:=(List.getElem?_eq_some_iff.mp h).2
 rw [List.take_succ_eq_append_getElem hl,e]
theorem sE:∀ xs ys:List Rw,dnS (xs ++ ys) = dnS xs + dnS ys
 | [],ys=>by rw [nil_append,dnS,Nat.zero_add]
 | x :: xs,ys=>by rw [cons_append,dnS,dnS,sE xs ys,Nat.add_assoc]
noncomputable def lrD (x:LR):D:=.tup [lgD x.1,.int x.2.1,.tup (x.2.2.map D.int)]
def EdR (M M':DM) (d:D) (e:Ed):Prop:=∃ q:Addr,d = .tup [FmD e.f,.int e.a,.tup (e.rd.map D.int),.ref q]/\M q = none/\M' q = some (e.ls.map lrD)
structure aDF (M M':DM) (ps pe:Addr) (L Es:List D) (ls:List LR) (es:List Ed):Prop where
 s:M' ps = some (L ++ ls.map lrD)
 e:∃ Es',M' pe = some (Es ++ Es')/\Paired (EdR M M') Es' es
 o:∀ k:AK,k ≠ .l ps->k ≠ .l pe->∀ o,M k = some o->M' k = some o
theorem aDV {α β:Type} {F:α->β->Prop}:∀ {l₁:List α} {l₂:List β} {m₁:List α} {m₂:List β},Paired F l₁ l₂->Paired F m₁ m₂->Paired F (l₁ ++ m₁) (l₂ ++ m₂)
 | _,_,_,_,.nil,h=>h
 | _,_,_,_,.cons h₁ t,h=>.cons h₁ (aDV t h)
theorem aDF.trans {M M1 M2:DM} {ps pe:Addr} {L Es Es1:List D} {ls ls2:List LR} {es es2:List Ed} (a1:M ps = some L) (a2:M pe = some Es) (h:aDF M M1 ps pe L Es ls es) (e1:M1 pe = some Es1) (h2:aDF M1 M2 ps pe (L ++ ls.map lrD) Es1 ls2 es2):aDF M M2 ps pe L Es (ls ++ ls2) (es ++ es2):=by
 obtain ⟨Es',e,pr⟩:=h.e
 obtain ⟨Es2,e2,pr2⟩:=h2.e
 have eq:Es1 = Es ++ Es':=by rw [e] at e1;exact (Option.some.inj e1).symm
 subst eq
 refine ⟨by rw [map_append,<- append_assoc];exact h2.s,⟨Es' ++ Es2,by rw [<- append_assoc];exact e2,?_⟩,fun k n1 n2 o q=>h2.o k n1 n2 o (h.o k n1 n2 o q)⟩
 refine aDV (Paired.mapP pr fun d x ⟨q,z,f,l⟩=>⟨q,z,f,?_⟩) (Paired.mapP pr2 fun d x ⟨q,z,f,l⟩=>⟨q,z,?_,l⟩)
 ·have n1:(AK.l q) ≠ .l ps:=fun z=>by rw [z,a1] at f;cases f
  have n2:(AK.l q) ≠ .l pe:=fun z=>by rw [z,a2] at f;cases f
  exact h2.o _ n1 n2 _ l
 ·cases c:M q with
  | none=>rfl
  | some o =>
   have n1:(AK.l q) ≠ .l ps:=fun z=>by rw [z,h.s] at f;cases f
   have n2:(AK.l q) ≠ .l pe:=fun z=>by rw [z,e] at f;cases f
   have:=h.o _ n1 n2 _ c
   rw [f] at this;cases this
def pR:DSp:=fun ds M Q=>∃ (p r:Rat) (m n:Nat),ds = [FQ p,FQ r]/\(p ≠ 0/\r ≠ 0)/\BQ m p/\BQ n r/\(m<=4400 ∨ n<=4400)/\m + n<=1000000/\Q (FQ (p * r)) M
theorem aC1 {p:Rat} (h:p ≠ 0):p.num ≠ 0:=fun z=>h (Rat.num_eq_zero.mp z)
theorem aEB (hF:cE K mg "times" wE ["one","other"]) (bB:Has P w K mg base 101 "greatest_divisor" ["one","other"] eF):Has P w K mg base 102 "times" ["one","other"] pR:=by
 refine Has.mkZ hF lW (fun ds M Q ⟨_,_,_,_,z,_⟩=>by rw [z];rfl) fun f cdv A outer s H ds M Q E hr h=>?_
 obtain ⟨p,r,m,n,rfl,⟨p0,r0'⟩,h1,h2,sm,l,q⟩:=h
 refine ⟨_,(aF (aP (i:=2) lW.nd (aG bB hr (by decide) (aB (aI (aA 0) aC) (aB (aI (aA 1) aC) aD))))
  (aF (aP (i:=3) lW.nd (aG bB hr (by decide) (aB (aI (aA 1) aC) (aB (aI (aA 0) aC) aD))))
  (aE (aM (aQ (aB (aO bW (aO dS (aI (aA 0) aC) (aA 2)) (aO dS (aI (aA 1) aC) (aA 3))) (aB (aO bW (aO dS (aI (aA 0) aC) (aA 3)) (aO dS (aI (aA 1) aC) (aA 2))) aD))))))),?_⟩
 obtain ⟨f0,r0,fd,rd,e1,e2⟩:=aN6 p r _ _ rfl rfl
 have fl:(Int.gcd p.num r.den:Int) ∣ p.num:=Int.gcd_dvd_left _ _
 have rl:(Int.gcd r.num p.den:Int) ∣ r.num:=Int.gcd_dvd_left _ _
 have cf:∀ x,CFd x (Int.gcd p.num r.den:Int):=fun x=>by
  rcases sm with z | z
  ·exact vQ h1.1 (by omega) fl (aC1 p0) f0
  ·exact vQ h2.2 (by omega) fd (eM r) f0
 have cr:∀ x,CFd x (Int.gcd r.num p.den:Int):=fun x=>by
  rcases sm with z | z
  ·exact vQ h1.2 (by omega) rd (eM p) r0
  ·exact vQ h2.1 (by omega) rl (aC1 r0') r0
 refine ⟨_,_,rfl,_,_,rfl,cf _,cr _,cZ (h1.1.fdiv fl) (h2.1.fdiv rl) (by omega),cr _,cf _,cZ (h1.2.fdiv rd) (h2.2.fdiv fd) (by omega),by show (2:Nat)<=1000;decide,M,.refl _,?_⟩
 have q':Q (.tup [.int (p * r).num,.int ((p * r).den:Int)]) M:=q
 rw [<- e1,<- e2] at q'
 exact q'
def qH:DSp:=fun ds M Q=>∃ t b:Int,ds = [.int t,.int b]/\0 < b/\Bd 8999 (Int.gcd t b:Int)/\Q (FQ ((t:Rat) / (b:Rat))) M
theorem zN (hF:cE K mg "_law_ratio" kW ["_law_top","_law_bottom"]) (lZ:mg "abs" = none):Has P w K mg base 101 "_law_ratio" ["_law_top","_law_bottom"] qH:=by
 refine Has.mkZ hF gJ (fun ds M Q ⟨a,b,e,_⟩=>by rw [e];rfl) fun f cdv A outer s H ds M Q E hr h=>?_
 obtain ⟨t,b,rfl,hb,hB,q⟩:=h
 refine ⟨_,(aF (pT (i:=2) (j:=3) rfl gJ.nd (aB (cD wY lZ (aB (aA 0) aD)) (aB (aA 1) aD)))
  (aF (pM PassesOwn.never (aN kT (aA 3) aC) (aE (pT (i:=2) (j:=3) rfl gJ.nd (aB (aA 3) (aB (aO dO (aA 2) (aA 3)) aD)))))
  (aE (aM (aQ (aB (aO dS (aA 0) (aA 2)) (aB (aO dS (aA 1) (aA 2)) aD))))))),?_⟩
 have hb0:b ≠ 0:=by omega
 refine pO (fun m ρ M'=>M' = M/\∃ x y:Int,ρ = [some (.int t),some (.int b),some (.int x),some (.int y)]/\m = y.natAbs/\0<=x/\0<=y/\Int.gcd x y = Int.gcd t b) _ ⟨rfl,_,_,rfl,rfl,by split<;>omega,by omega,by
  split<;>simp [Int.neg_gcd]⟩ ?_
 rintro m ρ M' ⟨rfl,x,y,rfl,rfl,hx,hy,g⟩
 ac_nf
 refine dif (fun c=>?_) (fun c=>?_)
 ·have hy':y ≠ 0:=by omega
  exact ⟨hy',_,aBw hy',rfl,y,x.fmod y,rfl,rfl,hy,Int.fmod_nonneg_of_pos _ (by omega),(wP x y).trans g⟩
 ·have hy':y = 0:=by omega
  subst hy'
  have e:x = (Int.gcd t b:Int):=by rw [<- g,Int.gcd_zero_right];omega
  have fin:Q (.tup [.int (fT t b),.int (fB t b)]) M':=by rw [aDB hb0];exact q
  unfold fT fB at fin
  have s1:=aJs (t:=t) hb0
  have s2:x.natAbs.log2 < 8999:=by rw [e];exact hB.log (by decide)
  unfold sg at fin s1
  rw [if_neg (by omega),<- e] at fin s1
  exact ⟨⟨s1,Nat.lt_succ_of_lt s2⟩,⟨s1,Nat.lt_succ_of_lt s2⟩,by decide,M',.refl _,fin⟩
theorem aER (p r:Rat):Int.gcd (p.num * r.num) ((p.den:Int) * (r.den:Int)) ∣ r.den * r.num.natAbs:=by
 have h1:Nat.gcd p.num.natAbs p.den = 1:=p.reduced
 have h2:Nat.gcd r.num.natAbs r.den = 1:=r.reduced
 have e:Int.gcd (p.num * r.num) ((p.den:Int) * (r.den:Int)) = Nat.gcd (p.num.natAbs * r.num.natAbs) (p.den * r.den):=by
  rw [Int.gcd_eq_natAbs_gcd_natAbs,Int.natAbs_mul,Int.natAbs_mul,Int.natAbs_natCast,Int.natAbs_natCast]
 rw [e]
 have k1:Nat.gcd (p.num.natAbs * r.num.natAbs) (p.den * r.den) ∣ Nat.gcd (p.num.natAbs * r.num.natAbs) p.den * Nat.gcd (p.num.natAbs * r.num.natAbs) r.den:=Nat.gcd_mul_right_dvd_mul_gcd _ _ _
 refine Nat.dvd_trans k1 ?_
 rw [Nat.mul_comm r.den]
 refine Nat.mul_dvd_mul ?_ (Nat.gcd_dvd_right _ _)
 have g1:=Nat.gcd_dvd_left (p.num.natAbs * r.num.natAbs) p.den
 have g2:=Nat.gcd_dvd_right (p.num.natAbs * r.num.natAbs) p.den
 have co:Nat.Coprime (Nat.gcd (p.num.natAbs * r.num.natAbs) p.den) p.num.natAbs:=Nat.Coprime.coprime_dvd_left g2 (Nat.Coprime.symm h1)
 exact co.dvd_of_dvd_mul_left g1
theorem aFT {p r:Rat} {n:Nat} (h:BQ n r) (r0:r ≠ 0) (l:n + n<=8999):Bd 8999 (Int.gcd (p.num * r.num) ((p.den:Int) * (r.den:Int)):Int):=by
 have rp:0 < r.num.natAbs:=Int.natAbs_pos.mpr (aC1 r0)
 have le:=Nat.le_of_dvd (Nat.mul_pos r.den_pos rp) (aER p r)
 have b:Bd (n + n) ((r.den:Int) * r.num):=h.2.mul h.1
 refine Bd.mono ?_ l
 show (Int.gcd (p.num * r.num) ((p.den:Int) * (r.den:Int)):Int).natAbs < 2 ^ (n + n)
 have b:((r.den:Int) * r.num).natAbs < 2 ^ (n + n):=b
 rw [Int.natAbs_mul,Int.natAbs_natCast] at b
 rw [Int.natAbs_natCast]
 omega
theorem zT (hF:cE K mg "_law_times" kO ["_law_one","_law_other"]) (w_law_ratio:Has P w K mg base 101 "_law_ratio" ["_law_top","_law_bottom"] qH):Has P w K mg base 102 "_law_times" ["_law_one","_law_other"] pR:=by
 refine Has.mkZ hF sT (fun ds M Q ⟨_,_,_,_,z,_⟩=>by rw [z];rfl) fun f cdv A outer s H ds M Q E hr h=>?_
 obtain ⟨p,r,m,n,rfl,⟨p0,r0⟩,h1,h2,sm,l,q⟩:=h
 have bY:=w_law_ratio
 refine ⟨_,(aE (aM (aG bY hr (by decide) (aB (aO bW (aI (aA 0) aC) (aI (aA 1) aC)) (aB (aO bW (aI (aA 0) aC) (aI (aA 1) aC)) aD))))),?_⟩
 ac_nf
 refine ⟨cZ h1.1 h2.1 (by omega),cZ h1.2 h2.2 (by omega),_,_,rfl,Int.mul_pos (den_pos p) (den_pos r),?_,M,.refl _,by rw [aLG];exact q⟩
 rcases sm with z | z
 ·have:=aFT (p:=r) h1 p0 (by omega)
  rw [Int.mul_comm r.num,Int.mul_comm (r.den:Int)] at this
  exact this
 ·exact aFT h2 r0 (by omega)
theorem zG {d:D} {r:List D}:atI (d :: r) 0 = some d:=by
 unfold atI ixN
 rw [if_pos (by decide),if_pos (by rw [length_cons];omega)]
 rfl
mutual
noncomputable def drR:Rw->Bool
 | .pl p=>(aHb p).isSome
 | .ag n rs=>n != 0 && drS rs
 | .kp rs=>drS rs
 | .ev rs=>drS rs
noncomputable def drS:List Rw->Bool
 | []=>false
 | r :: rs=>drR r || drS rs
end
theorem aH8 (p:Pl) (n:Nat):bR (n + 3) (plD p) = true:=by cases p<;>rfl
theorem wI:∀ (d:Nat) (r:Rw) (k:Nat),Dp d r->bR (k + 2 * d + 3) (rwD r) = true
 | _,.pl p,k,_=>by rw [rwD];exact aH8 p _
 | d + 1,.ag n ws,k,h=>by
  have hw:∀ x ∈ dF ws,bR (k + 2 * d + 3) x = true:=fun x hx=>by
   rw [jW] at hx
   obtain ⟨r,hr,rfl⟩:=List.mem_map.mp hx
   exact wI d r k (h.2.2 r hr)
  rw [rwD,show k + 2 * (d + 1) + 3 = (k + 2 * d + 3) + 1 + 1 by omega]
  show ([D.str "again",.int (n:Int),.tup (dF ws)].all (bR (k + 2 * d + 3 + 1))) = true
  rw [all_cons,all_cons,all_cons]
  show (true && (true && (((dF ws).all (bR (k + 2 * d + 3))) && true))) = true
  rw [List.all_eq_true.mpr hw];rfl
 | d + 1,.kp ws,k,h=>by
  have hw:∀ x ∈ dF ws,bR (k + 2 * d + 3) x = true:=fun x hx=>by
   rw [jW] at hx
   obtain ⟨r,hr,rfl⟩:=List.mem_map.mp hx
   exact wI d r k (h.2 r hr)
  rw [rwD,show k + 2 * (d + 1) + 3 = (k + 2 * d + 3) + 1 + 1 by omega]
  show ([D.str "keep",.tup (dF ws)].all (bR (k + 2 * d + 3 + 1))) = true
  rw [all_cons,all_cons]
  show (true && (((dF ws).all (bR (k + 2 * d + 3))) && true)) = true
  rw [List.all_eq_true.mpr hw];rfl
 | d + 1,.ev ws,k,h=>by
  have hw:∀ x ∈ dF ws,bR (k + 2 * d + 3) x = true:=fun x hx=>by
   rw [jW] at hx
   obtain ⟨r,hr,rfl⟩:=List.mem_map.mp hx
   exact wI d r k (h.2 r hr)
  rw [rwD,show k + 2 * (d + 1) + 3 = (k + 2 * d + 3) + 1 + 1 by omega]
  show ([D.str "ever",.tup (dF ws)].all (bR (k + 2 * d + 3 + 1))) = true
  rw [all_cons,all_cons]
  show (true && (((dF ws).all (bR (k + 2 * d + 3))) && true)) = true
  rw [List.all_eq_true.mpr hw];rfl
theorem aFu {d:Nat} {ws:List Rw} (h:DpS d ws) (l:d<=9):bR 60 (.tup (dF ws)) = true:=by
 cases d with
 | zero=>exact h.elim
 | succ d =>
  show (dF ws).all (bR 59) = true
  rw [all_eq_true]
  intro x hx
  rw [jW] at hx
  obtain ⟨r,hr,rfl⟩:=List.mem_map.mp hx
  have:=wI d r (56 - 2 * d) (h.2 r hr)
  rw [show 56 - 2 * d + 2 * d + 3 = 59 by omega] at this
  exact this
def Sz (k:Nat) (x:Rat):Prop:=∃ t b:Nat,(0 < t/\t<=12 ^ k)/\(0 < b/\b<=12 ^ k)/\x * (b:Rat) = (t:Rat)
theorem Sz.one:Sz 0 1:=⟨1,1,by decide,by decide,Rat.one_mul _⟩
theorem Sz.mul {j k:Nat} {x y:Rat} (h:Sz j x) (h2:Sz k y):Sz (j + k) (x * y):=by
 obtain ⟨t,b,⟨t0,t1⟩,⟨b0,b1⟩,e⟩:=h
 obtain ⟨u,c,⟨u0,u1⟩,⟨c0,c1⟩,e2⟩:=h2
 refine ⟨t * u,b * c,⟨Nat.mul_pos t0 u0,?_⟩,⟨Nat.mul_pos b0 c0,?_⟩,?_⟩
 ·rw [Nat.pow_add];exact Nat.mul_le_mul t1 u1
 ·rw [Nat.pow_add];exact Nat.mul_le_mul b1 c1
 ·rw [Rat.natCast_mul,Rat.natCast_mul,<- e,<- e2];grind
theorem Sz.mono {j k:Nat} {x:Rat} (h:Sz j x) (l:j<=k):Sz k x:=by
 obtain ⟨t,b,⟨t0,t1⟩,⟨b0,b1⟩,e⟩:=h
 have:=Nat.pow_le_pow_right (n:=12) (by decide) l
 exact ⟨t,b,⟨t0,by omega⟩,⟨b0,by omega⟩,e⟩
theorem Sz.pow {j:Nat} {x:Rat} (h:Sz j x):∀ n,Sz (j * n) (x ^ n)
 | 0=>by rw [Rat.pow_zero];exact Sz.one
 | n + 1=>by rw [Rat.pow_succ,Nat.mul_succ];exact (h.pow n).mul h
theorem Sz.bq {k:Nat} {x:Rat} (h:Sz k x):BQ (4 * k + 1) x:=by
 obtain ⟨t,b,⟨t0,t1⟩,⟨b0,b1⟩,e⟩:=h
 have p1:12 ^ k<=16 ^ k:=Nat.pow_le_pow_left (by decide) k
 have p2:16 ^ k = 2 ^ (4 * k):=by rw [Nat.pow_mul]
 have p3:2 ^ (4 * k) < 2 ^ (4 * k + 1):=Nat.pow_lt_pow_right (by decide) (by omega)
 have n0:((b:Int):Rat) ≠ 0:=by
  have:=aCy (show (0:Int) < (b:Int) by omega)
  grind
 have es:x = ((t:Int):Rat) / ((b:Int):Rat):=by
  simp only [Rat.intCast_natCast] at n0 ⊢
  grind
 rw [es]
 exact .make (by omega) (by unfold Bd;show t < _;omega) (by unfold Bd;show b < _;omega)
mutual
noncomputable def szR:Rw->Rat
 | .pl (.grow a)=>a
 | .pl _=>1
 | .ag n rs=>szS rs ^ n
 | .kp _=>1
 | .ev _=>1
noncomputable def szS:List Rw->Rat
 | []=>1
 | r :: rs=>szR r * szS rs
end
theorem aEc:∀ xs ys:List Rw,szS (xs ++ ys) = szS xs * szS ys
 | [],ys=>by rw [nil_append,szS,Rat.one_mul]
 | x :: xs,ys=>by rw [cons_append,szS,szS,aEc xs ys,Rat.mul_assoc]
mutual
def gwR (N:Nat):Rw->Prop
 | .pl (.grow a)=>Sz 1 a
 | .pl _=>True
 | .ag _ rs=>dnS rs<=N/\gwS N rs
 | .kp rs=>dnS rs<=N/\gwS N rs
 | .ev rs=>(1<=dnS rs/\dnS rs<=N)/\gwS N rs
def gwS (N:Nat):List Rw->Prop
 | []=>True
 | r :: rs=>gwR N r/\gwS N rs
end
theorem aDJ {N:Nat}:∀ {xs ys:List Rw},gwS N (xs ++ ys) ↔ gwS N xs/\gwS N ys
 | [],ys=>by rw [nil_append,gwS];simp
 | x :: xs,ys=>by rw [cons_append,gwS,gwS,aDJ,and_assoc]
theorem aIx (p:Pl):(∃ a,p = .grow a) ∨ ∃ w cT,plD p = .tup (.str w :: cT)/\w ≠ "grow"/\w ≠ "again"/\szR (.pl p) = 1:=by
 cases p with
 | grow a=>exact .inl ⟨a,rfl⟩
 | _=>refine .inr ⟨_,_,rfl,by decide,by decide,?_⟩;rw [szR];intro _ z;cases z
noncomputable def enB (rs:List Rw):Bool:=decide (dnS rs<=300) && ((decide (szS rs = 1) || decide (4 * (szS rs).num<=3 * ((szS rs).den:Int))) && drS rs)
mutual
def wR:Rw->Prop
 | .pl (.grow a)=>Sz 1 a
 | .pl _=>True
 | .ag n ws=>wS ws/\dnS ws<=12000/\(∀ r ∈ ws,dnR r<=704 ∨ dnS ws<=dnR r + 704)/\(n<=1 ∨ dnS ws<=704)
 | .kp _=>True
 | .ev _=>True
def wS:List Rw->Prop
 | []=>True
 | r :: rs=>wR r/\wS rs
end
def loS (rs:List Rw):Prop:=wS rs/\dnS rs<=12000/\∀ r ∈ rs,dnR r<=704 ∨ dnS rs<=dnR r + 704
theorem aFl:∀ {rs:List Rw} {r:Rw},wS rs->r ∈ rs->wR r
 | x :: xs,r,h,m=>by
  rw [wS] at h
  rcases List.mem_cons.mp m with rfl | z
  ·exact h.1
  ·exact aFl h.2 z
theorem aGf:∀ {xs ys:List Rw},wS (xs ++ ys) ↔ wS xs/\wS ys
 | [],ys=>by rw [nil_append,wS,true_and]
 | x :: xs,ys=>by rw [cons_append,wS,wS,aGf,and_assoc]
mutual
theorem aJo:∀ r:Rw,wR r->Sz (dnR r) (szR r)
 | .pl p,h=>by
  cases p with
  | grow a=>rw [wR] at h;rw [dnR,szR];exact h
  | _ =>
      rw [dnR,szR];· exact Sz.one.mono (by decide)
      all_goals (intro _ z;cases z)
 | .ag n rs,h=>by rw [wR] at h;rw [dnR,szR];exact (aCm rs h.1).pow n
 | .kp rs,h=>by rw [szR];exact Sz.one.mono (Nat.zero_le _)
 | .ev rs,h=>by rw [szR];exact Sz.one.mono (Nat.zero_le _)
theorem aCm:∀ rs:List Rw,wS rs->Sz (dnS rs) (szS rs)
 | [],_=>by rw [dnS,szS];exact Sz.one
 | r :: rs,h=>by rw [wS] at h;rw [dnS,szS];exact (aJo r h.1).mul (aCm rs h.2)
end
theorem aJJ {n:Nat} {ws:List Rw} (h:wR (.ag n ws)):loS ws:=by rw [wR] at h;exact ⟨h.1,h.2.1,h.2.2.1⟩
theorem Sz.pos' {k:Nat} {x:Rat} (h:Sz k x):0 < x:=by
 obtain ⟨t,b,⟨t0,_⟩,⟨b0,_⟩,e⟩:=h
 have h1:=aCy (show (0:Int) < (t:Int) by omega)
 have h2:=aCy (show (0:Int) < (b:Int) by omega)
 simp only [Rat.intCast_natCast] at h1 h2
 rw [<- e] at h1
 exact Rat.lt_of_mul_lt_mul_right (by rw [Rat.zero_mul];exact h1) (Rat.le_of_lt h2)
theorem aMZ {p r:Rat} {j k:Nat} {M:DM} {Q:DQ} (h1:Sz j p) (h2:Sz k r) (sm:j<=1000 ∨ k<=1000) (l:j + k<=200000) (q:Q (FQ (p * r)) M):pR [FQ p,FQ r] M Q :=
 ⟨_,_,_,_,rfl,⟨fun z=>by have:=h1.pos';rw [z] at this;exact absurd this (by decide),fun z=>by have:=h2.pos';rw [z] at this;exact absurd this (by decide)⟩,h1.bq,h2.bq,by omega,by omega,q⟩
structure En where
 wd:Str
 n:Nat
 a:Addr
 rs:List Rw
noncomputable def enD (e:En):D:=.tup [.str e.wd,.int (e.n:Int),.ref e.a]
def aCI (M M':DM) (as:List Addr):Prop:=∀ k:AK,(∀ a ∈ as,k ≠ .l a)->∀ x,M k = some x->M' k = some x
theorem aCI.sub {M M' M'':DM} {as:List Addr} (h:aCI M M' as) (s:aZ M' M''):aCI M M'' as:=fun k n x e=>s _ _ (h k n x e)
theorem aAJ {xs:List D} {d:D}:atI (xs ++ [d]) (-1) = some d:=by
 unfold atI ixN
 rw [if_neg (by decide),if_pos (by rw [length_append,length_cons,length_nil];omega)]
 rw [length_append,length_cons,length_nil]
 show (xs ++ [d])[((-1:Int) + ((xs.length + (0 + 1):Nat):Int)).toNat]? = some d
 rw [show ((-1:Int) + ((xs.length + (0 + 1):Nat):Int)).toNat = xs.length by omega]
 simp
noncomputable def Fc (m:Nat):Nat:=if m<=2 then m else if m = 3 then 12 else if m = 4 then 24 else 18 * m
theorem aLs (m n:Nat):Fc m + Fc n<=Fc (m + n):=by
 unfold Fc
 repeat' split
 all_goals omega
mutual
def alR (F:Pl->Prop):Rw->Prop
 | .pl p=>F p
 | .ag _ rs=>alS F rs
 | .kp rs=>alS F rs
 | .ev rs=>alS F rs
def alS (F:Pl->Prop):List Rw->Prop
 | []=>True
 | r :: rs=>alR F r/\alS F rs
end
theorem aDK {F:Pl->Prop}:∀ {xs ys:List Rw},alS F (xs ++ ys) ↔ alS F xs/\alS F ys
 | [],ys=>by rw [nil_append,alS];simp
 | x :: xs,ys=>by rw [cons_append,alS,alS,aDK,and_assoc]
mutual
noncomputable def hmR:Rw->Nat
 | .pl _=>1
 | .ag _ rs=>1 + hmS rs
 | .kp rs=>1 + hmS rs
 | .ev rs=>1 + hmS rs
noncomputable def hmS:List Rw->Nat
 | []=>0
 | r :: rs=>hmR r + hmS rs
end
theorem wC:∀ xs ys:List Rw,hmS (xs ++ ys) = hmS xs + hmS ys
 | [],ys=>by rw [nil_append,hmS,Nat.zero_add]
 | x :: xs,ys=>by rw [cons_append,hmS,hmS,wC xs ys,Nat.add_assoc]
mutual
def ltR:Rw->Prop
 | .pl _=>True
 | .ag n rs=>n<=12/\ltS rs
 | .kp rs=>ltS rs
 | .ev rs=>ltS rs
def ltS:List Rw->Prop
 | []=>True
 | r :: rs=>ltR r/\ltS rs
end
theorem aDG:∀ {xs ys:List Rw},ltS (xs ++ ys) ↔ ltS xs/\ltS ys
 | [],ys=>by rw [nil_append,ltS];simp
 | x :: xs,ys=>by rw [cons_append,ltS,ltS,aDG,and_assoc]
structure aFz (F:Pl->Prop) (i m:Nat) (rs:List Rw):Prop where
 dp:∀ r ∈ rs,Dp (4 - i) r
 len:rs.length<=m
 dn:dnS rs<=Fc m
 gw:gwS 690 rs
 al:alS F rs
 lt:ltS rs/\hmS rs<=3 * m
theorem aFz.row {F:Pl->Prop} {i m:Nat} {rs:List Rw} (h:aFz F i m rs) {p:Pl} (hp:F p) (hg:gwR 690 (.pl p)):aFz F i (m + 1) (rs ++ [.pl p]):=by
 refine ⟨fun r hr=>?_,by rw [length_append];have:=h.len;show rs.length + 1<=m + 1;omega,?_,aDJ.mpr ⟨h.gw,by rw [gwS,gwS];exact ⟨hg,trivial⟩⟩,aDK.mpr ⟨h.al,by rw [alS,alS,alR];exact ⟨hp,trivial⟩⟩,aDG.mpr ⟨h.lt.1,by rw [ltS,ltS,ltR];exact ⟨trivial,trivial⟩⟩,by rw [wC,hmS,hmS,hmR];have:=h.lt.2;omega⟩
 ·rcases List.mem_append.mp hr with z | z
  ·exact h.dp r z
  ·rw [List.mem_singleton.mp z];unfold Dp;trivial
 ·rw [sE,dnS,dnS,dnR]
  have:=h.dn
  have:=aLs m 1
  have:Fc 1 = 1:=rfl
  omega
noncomputable abbrev Es:=List (En × Nat)
noncomputable def esD (es:Es):List D:=es.map fun x=>enD x.1
def wd3 (w:Str):Prop:=w = "again" ∨ w = "keep" ∨ w = "ever"
structure SI (F:Pl->Prop) (B M:DM) (st:Addr) (es:Es) (c:Nat):Prop where
 sub:aZ B M
 new:B st = none
 hst:M st = some (esD es)
 len:es.length<=5
 sum:(es.map (·.2)).sum + es.length<=c + 1
 ent:∀ (i:Nat) x,es[i]? = some x->(aFz F i x.2 x.1.rs/\M x.1.a = some (dF x.1.rs)/\B x.1.a = none)/\st ≠ x.1.a/\x.1.n<=12/\(0 < i->wd3 x.1.wd)
 nod:(es.map (·.1.a)).Nodup
theorem aFL {B M M':DM} {as:List Addr} (s:aZ B M) (k:aCI M M' as) (n:∀ a ∈ as,B a = none):aZ B M':=fun a x e=>k a (fun b hb z=>by rw [z,n b hb] at e;cases e) x (s _ _ e)
theorem aGl {α:Type} {xs:List α} {y:α} {i:Nat} {x:α} (h:(xs ++ [y])[i]? = some x):xs[i]? = some x ∨ (i = xs.length/\x = y):=by
 rw [List.getElem?_append] at h
 split at h
 ·exact .inl h
 ·rename_i l
  have:i - xs.length = 0:=by
   cases hk:i - xs.length with
   | zero=>rfl
   | succ k=>rw [hk] at h;simp at h
  rw [this] at h
  simp at h
  exact .inr ⟨by omega,h.symm⟩
theorem SI.top {F:Pl->Prop} {B M M':DM} {st:Addr} {es:Es} {u:En} {m m' c c':Nat} {rs':List Rw} (h:SI F B M st (es ++ [(u,m)]) c) (hs:M' st = some (esD (es ++ [(u,m)]))) (hu:M' u.a = some (dF rs')) (k:aCI M M' [st,u.a]) (ok:aFz F es.length m' rs') (hc:(es.map (·.2)).sum + m' + es.length<=c'):SI F B M' st (es ++ [({ u with rs:=rs' },m')]) c':=by
 have hend:(es ++ [(u,m)])[es.length]? = some (u,m):=by rw [getElem?_append_right (Nat.le_refl _)];simp
 have hu0:=h.ent _ _ hend
 refine ⟨aFL h.sub k fun a ha=>?_,h.new,?_,?_,?_,fun i x hx=>?_,?_⟩
 ·rcases List.mem_cons.mp ha with rfl | z
  ·exact h.new
  ·rw [List.mem_singleton.mp z];exact hu0.1.2.2
 ·rw [hs];unfold esD;rw [map_append,map_append];rfl
 ·have:=h.len
  rw [length_append] at *;exact this
 ·rw [map_append,List.sum_append,length_append]
  simp
  omega
 ·rcases aGl hx with z | ⟨rfl,rfl⟩
  ·have hi:=(List.getElem?_eq_some_iff.mp z).1
   have hx0:(es ++ [(u,m)])[i]? = some x:=by rw [getElem?_append_left hi];exact z
   obtain ⟨⟨a1,a2,a3⟩,a4,a5⟩:=h.ent i x hx0
   refine ⟨⟨a1,k _ (fun b hb y=>?_) _ a2,a3⟩,a4,a5⟩
   rcases List.mem_cons.mp hb with rfl | z2
   ·cases y;exact a4 rfl
   ·rw [List.mem_singleton.mp z2] at y
    have nd:=h.nod
    rw [map_append,nodup_append] at nd
    have:=nd.2.2 x.1.a (List.mem_map.mpr ⟨x,mem_of_getElem? z,rfl⟩) u.a (by simp)
    exact this (by injection y)
  ·exact ⟨⟨ok,hu,hu0.1.2.2⟩,hu0.2.1,hu0.2.2.1,hu0.2.2.2⟩
 ·have nd:=h.nod
  rw [map_append] at *;exact nd
noncomputable def aCD:D:=.tup [.int 0,.int 1]
def eP:DSp:=fun ds M Q=>∃ x y t,ds = [PQ x y,.int t]/\Q (FR x y t 1 1) M
noncomputable abbrev qS:Stmt:=top 34
theorem aBX:aR ["place","turns"] ["place","turns"] (aH qS):=⟨rfl,rfl,rfl,by decide +kernel,rfl,by decide +kernel,by decide +kernel⟩
theorem aAN (hF:cE K mg "at_place" qS ["place","turns"]) (kD:fG K mg "ONE" aDx):Has P w K mg base 101 "at_place" ["place","turns"] eP:=by
 refine Has.mkZ hF aBX (fun ds M Q ⟨a,b,c,z,_⟩=>by rw [z];rfl) fun f cdv A outer s H ds M Q E hr h=>?_
 obtain ⟨x,y,t,rfl,q⟩:=h
 refine ⟨_,(aE (aM (aQ (aB (aA 0) (aB (aA 1) (aB aC (aB (bF kD) aD))))))),?_⟩
 ac_nf
 exact ⟨by decide,M,.refl _,q⟩
def gI (B:Nat) (ok:Pl->Prop):DSp:=fun ds M Q=>∃ p,ds = [plD p]/\ok p/\plB B p/\Q (.tup [lgO (aHb p),FmD (aF6 p)]) M
theorem fL {B:Nat} {ok:Pl->Prop} (ds:List D) (M:DM) (Q:DQ) (h:gI B ok ds M Q):ds.length = 1:=by obtain ⟨p,rfl,_⟩:=h;rfl
def mQ:DSp:=fun ds M Q=>∃ (x:Str) (a b:Rat),ds = [.tup [.str x,FQ a,FQ b]]/\Q (.tup [lgD (.st 0 0 a b),FmD ⟨a,b,0,1,1⟩]) M
noncomputable abbrev nY:Stmt:=top 36
theorem sM:aR ["row","place"] ["row"] (aH nY):=⟨rfl,rfl,rfl,by decide +kernel,rfl,by decide +kernel,by decide +kernel⟩
theorem zB (hF:cE K mg "side_deed" nY ["row"]) (bG:fG K mg "MIDDLE" tE) (bM:Has P w K mg base 101 "at_place" ["place","turns"] eP):Has P w K mg base 102 "side_deed" ["row"] mQ:=by
 refine Has.mkZ hF sM (fun ds M Q ⟨a,b,c,z,_⟩=>by rw [z];rfl) fun f cdv A outer s H ds M Q E hr h=>?_
 obtain ⟨x,a,b,rfl,q⟩:=h
 refine ⟨_,(aF (aP (i:=1) sM.nd (aQ (aB (aI (aA 0) aC) (aB (aI (aA 0) aC) aD))))
  (aE (aM (aQ (aB (aQ (aB aL (aB (bF bG) (aB (aA 1) aD)))) (aB (aG bM hr (by decide) (aB (aA 1) (aB aC aD))) aD)))))),?_⟩
 ac_nf
 refine ⟨by decide,by decide,a,b,0,rfl,?_⟩
 ac_nf
 exact ⟨by decide,M,.refl _,q⟩
def yH:DSp:=gI 900 fun p=>∃ a,p = .go a
noncomputable abbrev uK:Stmt:=top 35
theorem aDo:aR ["row"] ["row"] (aH uK):=⟨rfl,rfl,rfl,by decide +kernel,rfl,by decide +kernel,by decide +kernel⟩
theorem aCr (hF:cE K mg "go_deed" uK ["row"]) (dR:fG K mg "NOTHING" aCD) (hZ:Has P w K mg base 102 "side_deed" ["row"] mQ):Has P w K mg base 103 "go_deed" ["row"] yH:=by
 refine Has.mkZ hF aDo fL fun f cdv A outer s H ds M Q E hr h=>?_
 obtain ⟨p,rfl,⟨a,rfl⟩,b,q⟩:=h
 refine ⟨_,(aE (aM (aG hZ hr (by decide) (aB (aQ (aB aL (aB (aI (aA 0) aC) (aB (bF dR) aD)))) aD)))),?_⟩
 dsimp only [plD]
 ac_nf
 refine ⟨by decide,"side",a,0,rfl,?_⟩
 exact ⟨M,.refl _,q⟩
def rW:DSp:=gI 900 fun p=>∃ a,p = .skip a
noncomputable abbrev nS:Stmt:=top 37
theorem aAR:aR ["row"] ["row"] (aH nS):=⟨rfl,rfl,rfl,by decide +kernel,rfl,by decide +kernel,by decide +kernel⟩
theorem zQ (hF:cE K mg "skip_deed" nS ["row"]) (dR:fG K mg "NOTHING" aCD) (bM:Has P w K mg base 101 "at_place" ["place","turns"] eP):Has P w K mg base 103 "skip_deed" ["row"] rW:=by
 refine Has.mkZ hF aAR fL fun f cdv A outer s H ds M Q E hr h=>?_
 obtain ⟨p,rfl,⟨a,rfl⟩,b,q⟩:=h
 refine ⟨_,(aE (aM (aQ (aB bL (aB (aG bM hr (by decide) (aB (aQ (aB (aI (aA 0) aC) (aB (bF dR) aD))) (aB aC aD))) aD))))),?_⟩
 dsimp only [plD]
 ac_nf
 refine ⟨by decide,a,0,0,rfl,?_⟩
 ac_nf
 exact ⟨by decide,M,.refl _,q⟩
def vH:DSp:=gI 900 fun p=>p = .dot
noncomputable abbrev qO:Stmt:=top 38
theorem aCp:aR ["row"] ["row"] (aH qO):=⟨rfl,rfl,rfl,by decide +kernel,rfl,by decide +kernel,by decide +kernel⟩
theorem aAs (hF:cE K mg "dot_deed" qO ["row"]) (bG:fG K mg "MIDDLE" tE) (aAM:Has P w K mg base 101 "first" [] aCC):Has P w K mg base 103 "dot_deed" ["row"] vH:=by
 refine Has.mkZ hF aCp fL fun f cdv A outer s H ds M Q E hr h=>?_
 obtain ⟨p,rfl,rfl,b,q⟩:=h
 refine ⟨_,(aE (aM (aQ (aB (aQ (aB aL (aB (bF bG) (aB (bF bG) aD)))) (aB (aDm aAM hr (by decide)) aD))))),?_⟩
 ac_nf
 refine ⟨by decide,rfl,?_⟩
 ac_nf
 exact ⟨by decide,M,.refl _,q⟩
def sK:DSp:=gI 900 fun p=>p = .left
noncomputable abbrev oS:Stmt:=top 39
theorem aAI:aR ["row"] ["row"] (aH oS):=⟨rfl,rfl,rfl,by decide +kernel,rfl,by decide +kernel,by decide +kernel⟩
theorem zA (hF:cE K mg "left_deed" oS ["row"]) (bG:fG K mg "MIDDLE" tE) (bM:Has P w K mg base 101 "at_place" ["place","turns"] eP):Has P w K mg base 103 "left_deed" ["row"] sK:=by
 refine Has.mkZ hF aAI fL fun f cdv A outer s H ds M Q E hr h=>?_
 obtain ⟨p,rfl,rfl,b,q⟩:=h
 refine ⟨_,(aE (aM (aQ (aB bL (aB (aG bM hr (by decide) (aB (bF bG) (aB aC aD))) aD))))),?_⟩
 ac_nf
 refine ⟨0,0,1,rfl,?_⟩
 ac_nf
 exact ⟨by decide,M,.refl _,q⟩
def qJ:DSp:=gI 900 fun p=>p = .rnd
noncomputable abbrev mC:Stmt:=top 40
theorem zC:aR ["row"] ["row"] (aH mC):=⟨rfl,rfl,rfl,by decide +kernel,rfl,by decide +kernel,by decide +kernel⟩
theorem xU (hF:cE K mg "round_deed" mC ["row"]) (bG:fG K mg "MIDDLE" tE) (bM:Has P w K mg base 101 "at_place" ["place","turns"] eP):Has P w K mg base 103 "round_deed" ["row"] qJ:=by
 refine Has.mkZ hF zC fL fun f cdv A outer s H ds M Q E hr h=>?_
 obtain ⟨p,rfl,rfl,b,q⟩:=h
 refine ⟨_,(aE (aM (aQ (aB bL (aB (aG bM hr (by decide) (aB (bF bG) (aB aC aD))) aD))))),?_⟩
 ac_nf
 refine ⟨0,0,2,rfl,?_⟩
 ac_nf
 exact ⟨by decide,M,.refl _,q⟩
def qI:DSp:=gI 900 fun p=>p = .right
noncomputable abbrev mO:Stmt:=top 41
theorem yZ:aR ["row"] ["row"] (aH mO):=⟨rfl,rfl,rfl,by decide +kernel,rfl,by decide +kernel,by decide +kernel⟩
theorem yB (hF:cE K mg "right_deed" mO ["row"]) (bG:fG K mg "MIDDLE" tE) (bM:Has P w K mg base 101 "at_place" ["place","turns"] eP):Has P w K mg base 103 "right_deed" ["row"] qI:=by
 refine Has.mkZ hF yZ fL fun f cdv A outer s H ds M Q E hr h=>?_
 obtain ⟨p,rfl,rfl,b,q⟩:=h
 refine ⟨_,(aE (aM (aQ (aB bL (aB (aG bM hr (by decide) (aB (bF bG) (aB aC aD))) aD))))),?_⟩
 ac_nf
 refine ⟨0,0,3,rfl,?_⟩
 ac_nf
 exact ⟨by decide,M,.refl _,q⟩
def pC:DSp:=gI 900 fun p=>p = .mirror
noncomputable abbrev lC:Stmt:=top 42
theorem yO:aR ["row"] ["row"] (aH lC):=⟨rfl,rfl,rfl,by decide +kernel,rfl,by decide +kernel,by decide +kernel⟩
theorem vV (hF:cE K mg "mirror_deed" lC ["row"]) (bG:fG K mg "MIDDLE" tE) (kD:fG K mg "ONE" aDx):Has P w K mg base 103 "mirror_deed" ["row"] pC:=by
 refine Has.mkZ hF yO fL fun f cdv A outer s H ds M Q E hr h=>?_
 obtain ⟨p,rfl,rfl,b,q⟩:=h
 refine ⟨_,(aE (aM (aQ (aB bL (aB (aQ (aB (bF bG) (aB aC (aB (gF aC) (aB (bF kD) aD))))) aD))))),?_⟩
 ac_nf
 exact ⟨by decide,by decide,M,.refl _,q⟩
def sC:DSp:=gI 900 fun p=>∃ a,p = .grow a
noncomputable abbrev oR:Stmt:=top 43
theorem aBr:aR ["row"] ["row"] (aH oR):=⟨rfl,rfl,rfl,by decide +kernel,rfl,by decide +kernel,by decide +kernel⟩
theorem zU (hF:cE K mg "grow_deed" oR ["row"]) (bG:fG K mg "MIDDLE" tE):Has P w K mg base 103 "grow_deed" ["row"] sC:=by
 refine Has.mkZ hF aBr fL fun f cdv A outer s H ds M Q E hr h=>?_
 obtain ⟨p,rfl,⟨a,rfl⟩,b,q⟩:=h
 refine ⟨_,(aE (aM (aQ (aB bL (aB (aQ (aB (bF bG) (aB aC (aB aC (aB (aI (aA 0) aC) aD))))) aD))))),?_⟩
 dsimp only [plD]
 ac_nf
 exact ⟨by decide,by decide,M,.refl _,q⟩
theorem kN {a:Rat}:0 < a.num ↔ 0 < a:=by rw [Rat.lt_iff];simp
def nJ:DSp:=gI 900 fun p=>∃ a,p = .quarter a
noncomputable abbrev jV:Stmt:=top 44
theorem jI:aR ["row","a","place"] ["row"] (aH jV):=⟨rfl,rfl,rfl,by decide +kernel,rfl,by decide +kernel,by decide +kernel⟩
theorem uH (hF:cE K mg "quarter_deed" jV ["row"]) (bG:fG K mg "MIDDLE" tE) (dR:fG K mg "NOTHING" aCD) (bM:Has P w K mg base 101 "at_place" ["place","turns"] eP):Has P w K mg base 103 "quarter_deed" ["row"] nJ:=by
 refine Has.mkZ hF jI fL fun f cdv A outer s H ds M Q E hr h=>?_
 obtain ⟨p,rfl,⟨a,rfl⟩,b,q⟩:=h
 refine ⟨_,(aF (aP (i:=1) jI.nd (aI (aA 0) aC))
  (aF (aV (aN kT (aI (aA 1) aC) aC) (aE (aM (aQ (aB (aQ (aB aL (aB (aQ (aB (bF dR) (aB (aA 1) aD))) (aB (bF bG) (aB (aQ (aB (aA 1) (aB (aA 1) aD))) (aB aC aD)))))) (aB (aG bM hr (by decide) (aB (aQ (aB (aA 1) (aB (aA 1) aD))) (aB aC aD))) aD))))) aU)
  (aF (aP (i:=2) jI.nd (aQ (aB (aQ (aB (gF (aI (aA 1) aC)) (aB (aI (aA 1) aC) aD))) (aB (aA 1) aD))))
  (aE (aM (aQ (aB (aQ (aB aL (aB (aQ (aB (bF dR) (aB (aA 1) aD))) (aB (bF bG) (aB (aA 2) (aB (gF aC) aD)))))) (aB (aG bM hr (by decide) (aB (aA 2) (aB aC aD))) aD)))))))),?_⟩
 dsimp only [plD]
 ac_nf
 dsimp only [aHb,aF6] at q
 by_cases c:0 < a
 ·rw [if_pos c,if_pos c] at q
  refine ifT (decide_eq_true (kN.mpr c)) ⟨by decide,by decide,by decide,by decide,a,a,1,rfl,?_⟩
  ac_nf
  exact ⟨by decide,M,.refl _,q⟩
 ·rw [if_neg c,if_neg c] at q
  refine ifF (decide_eq_false fun z=>c (kN.mp z)) ⟨by decide,by decide,by decide,by decide,?_⟩
  rw [aIs]
  refine ⟨-a,a,3,rfl,?_⟩
  ac_nf
  exact ⟨by decide,M,.refl _,q⟩
def sX:DSp:=gI 900 fun p=>∃ a,p = .half a
noncomputable abbrev nP:Stmt:=top 45
theorem rZ:aR ["row","place"] ["row"] (aH nP):=⟨rfl,rfl,rfl,by decide +kernel,rfl,by decide +kernel,by decide +kernel⟩
theorem zO (hF:cE K mg "half_deed" nP ["row"]) (bG:fG K mg "MIDDLE" tE) (dR:fG K mg "NOTHING" aCD) (aDe:Has P w K mg base 102 "plus" ["one","other"] aBC) (bM:Has P w K mg base 101 "at_place" ["place","turns"] eP):Has P w K mg base 103 "half_deed" ["row"] sX:=by
 refine Has.mkZ hF rZ fL fun f cdv A outer s H ds M Q E hr h=>?_
 obtain ⟨p,rfl,⟨a,rfl⟩,b,q⟩:=h
 refine ⟨_,(aF (aP (i:=1) rZ.nd (aQ (aB (bF dR) (aB (aG aDe hr (by decide) (aB (aI (aA 0) aC) (aB (aI (aA 0) aC) aD))) aD))))
  (aE (aM (aQ (aB (aQ (aB aL (aB (aQ (aB (bF dR) (aB (aI (aA 0) aC) aD))) (aB (bF bG) (aB (aA 1) (aB (cA (aN kT (aI (aI (aA 0) aC) aC) aC) aC (gF aC)) aD)))))) (aB (aG bM hr (by decide) (aB (aA 1) (aB aC aD))) aD)))))),?_⟩
 dsimp only [plD]
 ac_nf
 dsimp only [aHb,aF6] at q
 refine ⟨a,a,900,900,rfl,trivial,b.1,b.1,by decide,by decide,by decide,?_⟩
 ac_nf
 by_cases c:0 < a
 ·rw [if_pos c] at q
  refine ifT (decide_eq_true (kN.mpr c)) ⟨by decide,0,a + a,2,rfl,?_⟩
  ac_nf
  exact ⟨by decide,M,.refl _,q⟩
 ·rw [if_neg c] at q
  refine ifF (decide_eq_false fun z=>c (kN.mp z)) ⟨by decide,0,a + a,2,rfl,?_⟩
  ac_nf
  exact ⟨by decide,M,.refl _,q⟩
def vJ:DSp:=gI 900 fun p=>∃ a b c d,p = .arc a b c d
noncomputable abbrev qL:Stmt:=top 46
theorem vL:aR ["row","place"] ["row"] (aH qL):=⟨rfl,rfl,rfl,by decide +kernel,rfl,by decide +kernel,by decide +kernel⟩
theorem aBj (hF:cE K mg "arc_deed" qL ["row"]) (bG:fG K mg "MIDDLE" tE) (bM:Has P w K mg base 101 "at_place" ["place","turns"] eP):Has P w K mg base 103 "arc_deed" ["row"] vJ:=by
 refine Has.mkZ hF vL fL fun f cdv A outer s H ds M Q E hr h=>?_
 obtain ⟨p,rfl,⟨a,b,c,d,rfl⟩,bb,q⟩:=h
 refine ⟨_,(aF (aP (i:=1) vL.nd (aQ (aB (aI (aA 0) aC) (aB (aI (aA 0) aC) aD))))
  (aE (aM (aQ (aB (aQ (aB aL (aB (aQ (aB (aI (aA 0) aC) (aB (aI (aA 0) aC) aD))) (aB (bF bG) (aB (aA 1) (aB aC aD)))))) (aB (aG bM hr (by decide) (aB (aA 1) (aB aC aD))) aD)))))),?_⟩
 dsimp only [plD]
 ac_nf
 refine ⟨by decide,by decide,by decide,c,d,0,rfl,?_⟩
 ac_nf
 exact ⟨by decide,M,.refl _,q⟩
noncomputable def aOG:List (Str × Str):=[("go","go_deed"),("skip","skip_deed"),("side","side_deed"),("dot","dot_deed"),("left","left_deed"),("right","right_deed"),("round","round_deed"),("mirror","mirror_deed"),("grow","grow_deed"),("quarter","quarter_deed"),("half","half_deed"),("arc","arc_deed")]
def xC:DSp:=gI 900 fun _=>True
noncomputable abbrev tW:Stmt:=top 48
theorem xA:aR ["row","deed"] ["row"] (aH tW):=⟨rfl,rfl,rfl,by decide +kernel,rfl,by decide +kernel,by decide +kernel⟩
theorem aBF (hF:cE K mg "deed_of" tW ["row"]) (aAD:aHD w K mg "DEEDS" aOG) (tP:Has P w K mg base 103 "go_deed" ["row"] yH) (hZ:Has P w K mg base 102 "side_deed" ["row"] mQ) (pE:Has P w K mg base 103 "skip_deed" ["row"] rW) (rL:Has P w K mg base 103 "dot_deed" ["row"] vH) (pF:Has P w K mg base 103 "left_deed" ["row"] sK) (mW:Has P w K mg base 103 "round_deed" ["row"] qJ) (nG:Has P w K mg base 103 "right_deed" ["row"] qI) (lA:Has P w K mg base 103 "mirror_deed" ["row"] pC) (oP:Has P w K mg base 103 "grow_deed" ["row"] sC) (kC:Has P w K mg base 103 "quarter_deed" ["row"] nJ) (oH:Has P w K mg base 103 "half_deed" ["row"] sX) (rN:Has P w K mg base 103 "arc_deed" ["row"] vJ):Has P w K mg base 104 "deed_of" ["row"] xC:=by
 refine Has.mkZ hF xA fL fun f cdv A outer s H ds M Q E hr h=>?_
 obtain ⟨p,rfl,_,b,q⟩:=h
 refine ⟨_,(aF (aP (i:=1) xA.nd (aIH aAD (aI (aA 0) aC)))
  (aE (aM (aEy (j:=103) (aA 1) hr (by decide) (aB (aA 0) aD))))),?_⟩
 have q':=aX q
 cases p with
 | go a=>exact ⟨"go_deed",rfl,fun f hf=>⟨_,_,_,hf,tP,_,rfl,⟨a,rfl⟩,b,q'⟩⟩
 | side a c=>exact ⟨"side_deed",rfl,fun f hf=>⟨_,_,_,hf,hZ.mono (by decide),_,a,c,rfl,q'⟩⟩
 | skip a=>exact ⟨"skip_deed",rfl,fun f hf=>⟨_,_,_,hf,pE,_,rfl,⟨a,rfl⟩,b,q'⟩⟩
 | dot=>exact ⟨"dot_deed",rfl,fun f hf=>⟨_,_,_,hf,rL,_,rfl,rfl,b,q'⟩⟩
 | left=>exact ⟨"left_deed",rfl,fun f hf=>⟨_,_,_,hf,pF,_,rfl,rfl,b,q'⟩⟩
 | right=>exact ⟨"right_deed",rfl,fun f hf=>⟨_,_,_,hf,nG,_,rfl,rfl,b,q'⟩⟩
 | rnd=>exact ⟨"round_deed",rfl,fun f hf=>⟨_,_,_,hf,mW,_,rfl,rfl,b,q'⟩⟩
 | mirror=>exact ⟨"mirror_deed",rfl,fun f hf=>⟨_,_,_,hf,lA,_,rfl,rfl,b,q'⟩⟩
 | grow a=>exact ⟨"grow_deed",rfl,fun f hf=>⟨_,_,_,hf,oP,_,rfl,⟨a,rfl⟩,b,q'⟩⟩
 | quarter a=>exact ⟨"quarter_deed",rfl,fun f hf=>⟨_,_,_,hf,kC,_,rfl,⟨a,rfl⟩,b,q'⟩⟩
 | half a=>exact ⟨"half_deed",rfl,fun f hf=>⟨_,_,_,hf,oH,_,rfl,⟨a,rfl⟩,b,q'⟩⟩
 | arc a c d e=>exact ⟨"arc_deed",rfl,fun f hf=>⟨_,_,_,hf,rN,_,rfl,⟨a,c,d,e,rfl⟩,b,q'⟩⟩
def gB:DSp:=fun ds M Q=>∃ r,ds = [rwD r]/\Q (inR r) M
noncomputable abbrev iX:Stmt:=top 49
theorem oM:aR ["row"] ["row"] (aH iX):=⟨rfl,rfl,rfl,by decide +kernel,rfl,by decide +kernel,by decide +kernel⟩
theorem vX (hF:cE K mg "rows_within" iX ["row"]):Has P w K mg base 101 "rows_within" ["row"] gB:=by
 refine Has.mkZ hF oM (fun ds M Q ⟨a,z,_⟩=>by rw [z];rfl) fun f cdv A outer s H ds M Q E hr h=>?_
 obtain ⟨r,rfl,q⟩:=h
 refine ⟨_,(aF (aV (aN (bO hr) (aI (aA 0) aC) aL) (aE (aM (aI (aA 0) aC))) aU)
  (aE (aM (cA (dE (eL (aN (bO hr) (aI (aA 0) aC) aL) (eG (aN (bO hr) (aI (aA 0) aC) aL)))) (aI (aA 0) aC) bL)))),?_⟩
 have q':=aX q
 cases r with
 | pl p =>
  cases p<;>(dsimp only [rwD,plD];ac_nf;rw [aK];refine ifF (by decide) ?_;rw [aK];refine ifF (by decide) ?_;rw [aK];exact ifF (by decide) q')
 | ag n rs =>
  dsimp only [rwD]
  ac_nf
  rw [aK]
  exact ifT (by decide) q'
 | kp rs =>
  dsimp only [rwD]
  ac_nf
  rw [aK]
  refine ifF (by decide) ?_
  rw [aK]
  exact ifT (by decide) q'
 | ev rs =>
  dsimp only [rwD]
  ac_nf
  rw [aK]
  refine ifF (by decide) ?_
  rw [aK]
  refine ifF (by decide) ?_
  rw [aK]
  exact ifT (by decide) q'
def aA2 (d:Nat):DSp:=fun ds M Q=>∃ rs,ds = [.tup (dF rs)]/\DpS d rs/\Q (.int (dnS rs:Int)) M
noncomputable abbrev jM:Stmt:=top 51
theorem dG:aR ["rows","many","row","within"] ["rows"] (aH jM):=⟨rfl,rfl,rfl,by decide +kernel,rfl,by decide +kernel,by decide +kernel⟩
theorem sJ (hF:cE K mg "how_many_done" jM ["rows"]) (bT:Has P w K mg base 101 "rows_within" ["row"] gB):Has P w K mg base 118 "how_many_done" ["rows"] (aA2 8):=by
 have all:∀ d,Has P w K mg base (110 + d) "how_many_done" ["rows"] (aA2 d):=fun d=>by
  induction d with
  | zero=>exact (Has.never hF dG 109).imp fun ds M Q ⟨rs,_,z,_⟩=>z
  | succ d fK =>
   refine Has.mkZ (k:=110 + d) hF dG (fun ds M Q ⟨a,z,_⟩=>by rw [z];rfl) fun f cdv A outer s H ds M Q E hr h=>?_
   obtain ⟨rs,rfl,dp,q⟩:=h
   refine ⟨_,(aF (aP (i:=1) dG.nd aC)
  (aF (jY PassesOwn.never rfl (aA 0) (aS (i:=2) dG.nd) (aF (aP (i:=3) dG.nd (aG bT hr (by omega) (aB (aA 2) aD)))
  (aE (aV (aN lS (aA 3) bL) (aE (pB (i:=1) yR dG.nd aC)) (aE (pB (i:=1) yR dG.nd (aO bW (aG fK hr (by omega) (aB (aA 3) aD)) (cA (aN (bO hr) (aI (aA 2) aC) aL) (aI (aA 2) aC) aC))))))))
  (aE (aM (aA 1))))),?_⟩
   ac_nf
   refine ⟨fun i ρ M'=>M' = M/\∃ o1 o2,ρ = [some (.tup (dF rs)),some (.int (dnS (rs.take i):Int)),o1,o2],⟨rfl,_,_,rfl⟩,fun i ρ M' _ _ a e=>(by cases e),?_,?_⟩
   ·rintro i d1 ρ M' hd ⟨rfl,o1,o2,rfl⟩
    obtain ⟨r,hr',rfl⟩:=oU hd
    have dr:=dp.2 r (mem_of_getElem? hr')
    ac_nf
    refine ⟨r,rfl,?_⟩
    have fin:dnS (rs.take (i + 1)) = dnS (rs.take i) + dnR r:=by rw [iE hr',sE,dnS,dnS,Nat.add_zero]
    rw [fin]
    cases r with
    | pl p =>
     dsimp only [inR,dnR]
     ac_nf
     exact ifT rfl ⟨rfl,_,_,rfl⟩
    | ag n ws =>
     obtain ⟨hn,dw⟩:=vI dr
     dsimp only [inR,dnR,rwD]
     ac_nf
     refine ifF rfl ⟨ws,rfl,dw,?_⟩
     ac_nf
     rw [aK]
     refine ifT (by decide) ⟨rB (by unfold Bd;omega),?_⟩
     rw [Int.natCast_add,Int.natCast_mul]
     exact ⟨rfl,_,_,rfl⟩
    | kp ws =>
     have dw:=xZ dr
     dsimp only [inR,dnR,rwD]
     ac_nf
     refine ifF rfl ⟨ws,rfl,dw,?_⟩
     ac_nf
     rw [aK]
     refine ifF (by decide) ⟨rB (by unfold Bd;decide),?_⟩
     rw [Int.natCast_add,Int.mul_one]
     exact ⟨rfl,_,_,rfl⟩
    | ev ws =>
     have dw:=aCw dr
     dsimp only [inR,dnR,rwD]
     ac_nf
     refine ifF rfl ⟨ws,rfl,dw,?_⟩
     ac_nf
     rw [aK]
     refine ifF (by decide) ⟨rB (by unfold Bd;decide),?_⟩
     rw [Int.natCast_add,Int.mul_one]
     exact ⟨rfl,_,_,rfl⟩
   ·rintro ρ M' ⟨rfl,o1,o2,rfl⟩
    rw [lX,take_length]
    exact aX q
 exact all 8
theorem aAl {a b c d:Rat}:gG a b c d = 0 ↔ a = c/\b = d:=by
 unfold gG
 constructor
 ·intro h
  have s1:∀ x:Rat,0<=x * x:=fun x=>by
   rcases (show 0<=x ∨ 0<=-x by grind) with z | z
   ·exact Rat.mul_nonneg z z
   ·have:=Rat.mul_nonneg z z;grind
  have h1:=s1 (c - a)
  have h2:=s1 (d - b)
  have e1:(c - a) * (c - a) = 0:=by grind
  have e2:(d - b) * (d - b) = 0:=by grind
  rcases Rat.mul_eq_zero.mp e1 with z | z<;>rcases Rat.mul_eq_zero.mp e2 with y | y<;>constructor<;>grind
 ·rintro ⟨rfl,rfl⟩;grind
def Dv (D:Nat) (x:Rat):Prop:=∃ z:Int,x * (D:Rat) = (z:Rat)
theorem Dv.add {D:Nat} {x y:Rat} (h:Dv D x) (h2:Dv D y):Dv D (x + y):=by
 obtain ⟨a,ha⟩:=h
 obtain ⟨b,hb⟩:=h2
 exact ⟨a + b,by rw [Rat.intCast_add,<- ha,<- hb];grind⟩
theorem Dv.up {D:Nat} {x:Rat} (h:Dv D x) (k:Nat):Dv (D * k) x:=by
 obtain ⟨a,ha⟩:=h
 refine ⟨a * (k:Int),?_⟩
 rw [Rat.intCast_mul,<- ha,Rat.natCast_mul,Rat.intCast_natCast];grind
theorem Dv.up' {D:Nat} {x:Rat} (h:Dv D x) (k:Nat):Dv (k * D) x:=by rw [Nat.mul_comm];exact h.up k
theorem Dv.zero {D:Nat}:Dv D 0:=⟨0,by grind⟩
theorem Dv.own (x:Rat):Dv x.den x:=⟨x.num,by
 have:=gL x
 rw [this];rfl⟩
def Ab (B:Nat) (x:Rat):Prop:=-(B:Rat)<=x/\x<=(B:Rat)
theorem aLQ (n:Nat):(0:Rat)<=(n:Rat):=by
 have:((0:Nat):Rat)<=(n:Rat):=by exact_mod_cast Nat.zero_le n
 exact this
theorem Ab.mono {B C:Nat} {x:Rat} (h:Ab B x) (l:B<=C):Ab C x:=by
 have:(B:Rat)<=(C:Rat):=by exact_mod_cast l
 exact ⟨by have:=h.1;grind,by have:=h.2;grind⟩
theorem Ab.add {B C:Nat} {x y:Rat} (h:Ab B x) (h2:Ab C y):Ab (B + C) (x + y):=by
 obtain ⟨a,b⟩:=h
 obtain ⟨c,d⟩:=h2
 constructor<;>rw [Rat.natCast_add]<;>grind
theorem Ab.mul {B C:Nat} {x y:Rat} (h:Ab B x) (h2:Ab C y):Ab (B * C) (x * y):=by
 obtain ⟨a,b⟩:=h
 obtain ⟨c,d⟩:=h2
 have p1:=Rat.mul_nonneg (show 0<=(B:Rat) - x by grind) (show 0<=(C:Rat) + y by grind)
 have p2:=Rat.mul_nonneg (show 0<=(B:Rat) + x by grind) (show 0<=(C:Rat) - y by grind)
 have p3:=Rat.mul_nonneg (show 0<=(B:Rat) - x by grind) (show 0<=(C:Rat) - y by grind)
 have p4:=Rat.mul_nonneg (show 0<=(B:Rat) + x by grind) (show 0<=(C:Rat) + y by grind)
 constructor<;>rw [Rat.natCast_mul]<;>grind
theorem Ab.zero {B:Nat}:Ab B 0:=⟨by have:=aLQ B;grind,aLQ B⟩
theorem vM {n:Nat} {x:Rat} (h:BQ n x):Ab (2 ^ n) x:=by
 have e:=gL x
 have d1:(1:Rat)<=((x.den:Int):Rat):=by
  have:((1:Int):Rat)<=((x.den:Int):Rat):=by exact_mod_cast (show (1:Int)<=(x.den:Int) by have:=x.den_pos;omega)
  exact this
 have hb:x.num.natAbs < 2 ^ n:=h.1
 have n1:((x.num:Int):Rat)<=((2 ^ n:Nat):Rat):=by
  have:x.num<=((2 ^ n:Nat):Int):=by omega
  have:((x.num:Int):Rat)<=(((2 ^ n:Nat):Int):Rat):=by exact_mod_cast this
  rw [Rat.intCast_natCast] at this;exact this
 have n2:-((2 ^ n:Nat):Rat)<=((x.num:Int):Rat):=by
  have:-((2 ^ n:Nat):Int)<=x.num:=by omega
  have:((-((2 ^ n:Nat):Int):Int):Rat)<=((x.num:Int):Rat):=by exact_mod_cast this
  rw [Rat.intCast_neg,Rat.intCast_natCast] at this;exact this
 have z:=aLQ (2 ^ n)
 clear hb
 unfold Ab
 generalize ((2 ^ n:Nat):Rat) = P at *
 generalize ((x.den:Int):Rat) = d at *
 rw [e] at n1 n2
 constructor
 ·rcases (show 0<=x ∨ 0<=-x by grind) with c | c
  ·grind
  ·have:=Rat.mul_nonneg c (show 0<=d - 1 by grind)
   grind
 ·rcases (show 0<=x ∨ 0<=-x by grind) with c | c
  ·have:=Rat.mul_nonneg c (show 0<=d - 1 by grind)
   grind
  ·grind
structure Gf (A W k:Nat) (f:Fm):Prop where
 ok:f.Ok
 pos:0 < f.s
 ex:∃ N T:Nat,(0 < N/\N<=12 ^ k)/\(0 < T/\T<=12 ^ k)/\f.s * (N:Rat) = (T:Rat)/\Dv (N * A) f.px/\Dv (N * A) f.py
 ax:Ab (k * 12 ^ k * W) f.px
 ay:Ab (k * 12 ^ k * W) f.py
theorem Gf.one {A W:Nat}:Gf A W 0 .one:=⟨Fm.ok_one,by decide,⟨1,1,by decide,by decide,(by show (1:Rat) * ((1:Nat):Rat) = ((1:Nat):Rat);rw [Rat.one_mul]),Dv.zero,Dv.zero⟩,Ab.zero,Ab.zero⟩
def plG (A W:Nat):Pl->Prop
 | .go a=>Dv A a/\Ab W a
 | .side a b=>(Dv A a/\Ab W a)/\Dv A b/\Ab W b
 | .skip a=>Dv A a/\Ab W a
 | .grow a=>∃ t b:Nat,(0 < t/\t<=12)/\(0 < b/\b<=12)/\a * (b:Rat) = (t:Rat)
 | .quarter a=>Dv A a/\Ab W a
 | .half a=>Dv A a/\Ab W a/\Ab W (a + a)
 | .arc a b c d=>((Dv A a/\Ab W a)/\Dv A b/\Ab W b)/\(Dv A c/\Ab W c)/\Dv A d/\Ab W d
 | _=>True
section
variable {A W K k:Nat} {f:Fm}
end
def wO:DSp:=fun ds M Q=>∃ c many,ds = [.int c,.int many]/\0<=many/\many<=100/\∀ (p:Addr) L,M p = none->pK many.toNat L->Q (.ref p) (bH M p L)
theorem yJ {n:Nat} {L:List D} (h:pK n L) {z:Int} (h0:0<=z) (h1:z < 1000000):pK (n + 1) (L ++ [.int z]):=by
 refine ⟨by rw [length_append,h.1];rfl,fun d hd=>?_⟩
 rcases List.mem_append.mp hd with e | e
 ·exact h.2 d e
 ·exact ⟨z,List.mem_singleton.mp e,h0,h1⟩
noncomputable abbrev uJ:Stmt:=top 78
theorem gX:aR ["_law_cell","_law_many","_law_found","_law_number","_law_k"] ["_law_cell","_law_many"] (aH uJ):=⟨rfl,rfl,rfl,by decide +kernel,rfl,by decide +kernel,by decide +kernel⟩
theorem aBE (hF:cE K mg "_law_row" uJ ["_law_cell","_law_many"]) (lZ:mg "abs" = none) (aAz:mg "range" = none):Has P w K mg base 101 "_law_row" ["_law_cell","_law_many"] wO:=by
 refine Has.mkZ hF gX (fun ds M Q ⟨a,b,e,_⟩=>by rw [e];rfl) fun f cdv A outer s H ds M Q E hr h=>?_
 obtain ⟨c,many,rfl,m0,m1,q⟩:=h
 refine ⟨_,(aF (aP (i:=2) gX.nd (cK aD))
  (aF (aP (i:=3) gX.nd (aA 0))
  (aF (aV (aN qK (cD wY lZ (aB (aA 0) aD)) (aO xH aC aC)) (aE (aP (i:=3) gX.nd (aO dZ (aO dO (aA 0) aC) aC))) aU)
  (aF (aFV PassesOwn.never rfl aAz (aB (aA 1) aD) (aS (i:=4) gX.nd) (aE (aV (aN qK (cD wY lZ (aB (aA 0) aD)) (aO xH aC aC)) (aF (aP (i:=3) gX.nd (aO dO (aO bW (aA 3) aC) aC))
  (aE (eC (dH (aA 2) (aO dO (aO dS (aO dO (aO dZ (aO dZ (aO bW (aA 3) (aA 3)) (aO bW aC (aA 3))) (aA 4)) aC) aC) (aO xH aC aC)))))) (aF (eC (dH (aA 2) (aO dO (aA 3) (aO xH aC aC))))
  (aE (aP (i:=3) gX.nd (aO dS (aA 3) (aO xH aC aC))))))))
  (aE (aM (aA 2))))))),?_⟩
 ac_nf
 refine ⟨by decide,fun p hp=>?_⟩
 have k6:(10:Int) ^ Int.toNat 6 = 1000000:=by decide
 have small:∀ z:Int,0<=z.fmod 1000000/\z.fmod 1000000 < 1000000:=fun z=>⟨Int.fmod_nonneg_of_pos _ (by decide),Int.fmod_lt_of_pos _ (by decide)⟩
 refine ⟨⟨by decide,by decide,by decide⟩,dif (fun c1=>?A) (fun c1=>?B)⟩
 case' A =>
  have c2:(if c < 0 then -c else c) < (10:Int) ^ Int.toNat 18->0<=c.fmod 2147483647 + 1/\c.fmod 2147483647 + 1 < 2147483649:=fun _=>by
   have:=Int.fmod_nonneg_of_pos c (show (0:Int) < 2147483647 by decide)
   have:=Int.fmod_lt_of_pos c (show (0:Int) < 2147483647 by decide)
   omega
  refine ⟨by decide,?_⟩
  generalize c.fmod 2147483647 + 1 = z0 at c2
 case' B =>
  have c2:(if c < 0 then -c else c) < (10:Int) ^ Int.toNat 18->0<=c/\c < 2147483649:=fun z=>absurd z c1
  obtain ⟨z0,hz0⟩:∃ z0,z0 = c:=⟨c,rfl⟩
  have c2:(if c < 0 then -c else c) < (10:Int) ^ Int.toNat 18->0<=z0/\z0 < 2147483649:=by rw [hz0];exact c2
  rw [show (some (D.int c) :: some (.int many) :: some (.ref p) :: some (.int c) :: [none]:cR) = [some (.int c),some (.int many),some (.ref p),some (.int z0),none] by rw [hz0]]
 all_goals
  refine ⟨⟨by omega,by omega⟩,fun i ρ M'=>∃ L,M' = bH M p L/\pK i L/\∃ (z:Int) (o:Option D),((if c < 0 then -c else c) < (10:Int) ^ Int.toNat 18->0<=z/\z < 2147483649)/\ρ = [some (.int c),some (.int many),some (.ref p),some (.int z),o],⟨[],rfl,⟨rfl,fun d h=>nomatch h⟩,z0,none,c2,rfl⟩,?_,?_⟩
  ·rintro i ρ M' hi ⟨L,rfl,hL,z,o,hz,rfl⟩
   have hi2:i < 100:=by omega
   have lL:L.length < 1000:=by rw [hL.1];omega
   ac_nf
   refine ⟨⟨by decide,by decide,by decide⟩,dif (fun d1=>?_) (fun d1=>?_)⟩
   ·obtain ⟨z1,z2⟩:=hz d1
    have hn0:=Int.fmod_nonneg_of_pos (z * 48271) (show (0:Int) < 2147483647 by decide)
    have hn1:=Int.fmod_lt_of_pos (z * 48271) (show (0:Int) < 2147483647 by decide)
    refine ⟨rB (by unfold Bd;decide),by decide,⟨_,aJ⟩,?_⟩
    generalize (z * 48271).fmod 2147483647 = nn at hn0 hn1
    have bn:Bd 63 nn:=Bd.of (by omega) (by omega)
    refine ⟨aF0 bn,rB bn,by decide,⟨by decide,by decide +kernel⟩,⟨by decide,by decide,by decide⟩,by rw [k6];decide,_,_,rfl,aJ,lL,_,by rw [aAo],yJ hL ?_ ?_,nn,_,fun _=>⟨by omega,by omega⟩,rfl⟩
    ·rw [k6];exact (small _).1
    ·rw [k6];exact (small _).2
   ·refine ⟨⟨_,aJ⟩,⟨by decide,by decide,by decide⟩,by rw [k6];decide,_,_,rfl,aJ,lL,⟨by decide,by decide,by decide⟩,⟨by rw [k6];decide,by rw [k6];decide +kernel⟩,_,by rw [aAo],yJ hL ?_ ?_,_,_,fun z=>absurd z d1,rfl⟩
    ·rw [k6];exact (small _).1
    ·rw [k6];exact (small _).2
  ·rintro ρ M' ⟨L,rfl,hL,z,o,hz,rfl⟩
   ac_nf
   exact ⟨_,.refl _,q p L hp hL⟩
theorem qQ {p r:Rat} {m n:Nat} {M:DM} {Q:DQ} (h1:BQ m p) (h2:BQ n r) (l:m + n<=8998) (q:Q (FQ (p * r)) M):mP [FQ p,FQ r] M Q:=⟨_,_,_,_,rfl,trivial,h1,h2,l,q⟩
theorem aDI {p r:Rat} {m n:Nat} {M:DM} {Q:DQ} (h1:BQ m p) (h2:BQ n r) (l:m + n<=8998) (q:Q (FQ (p + r)) M):nZ [FQ p,FQ r] M Q:=⟨_,_,_,_,rfl,trivial,h1,h2,l,q⟩
def Un (u:Rat):Prop:=u = 0 ∨ u = 1 ∨ u = -1
theorem aJ7:(D.tup [.int (-1),.int 1]) = FQ (-1):=rfl
theorem aJ3 {p q:Int} (h:p ≠ 0 ∨ q ≠ 0):0 < q * q + p * p:=by
 have n:∀ z:Int,0<=z * z:=fun z=>by
  rcases Int.le_total 0 z with c | c
  ·exact Int.mul_nonneg c c
  ·exact Int.mul_nonneg_of_nonpos_of_nonpos c c
 have k:∀ z:Int,z ≠ 0->z * z ≠ 0:=fun z hz=>Int.mul_ne_zero hz hz
 have h1:=n p
 have h2:=n q
 rcases h with h | h
 ·have:=k p h;omega
 ·have:=k q h;omega
theorem aM2 {p q:Int} (h:0 < q * q + p * p) {uu vv:Rat} (hu:((q * q - p * p:Int):Rat) / ((q * q + p * p:Int):Rat) = uu) (hv:((2 * p * q:Int):Rat) / ((q * q + p * p:Int):Rat) = vv):uu * uu + vv * vv = 1:=by
 have n0:((q * q + p * p:Int):Rat) ≠ 0:=by
  have:=aCy h
  grind
 rw [<- hu,<- hv]
 rw [Rat.intCast_sub,Rat.intCast_add,Rat.intCast_mul,Rat.intCast_mul,Rat.intCast_mul,Rat.intCast_mul] at *
 rw [show (((2:Int)):Rat) = 2 from rfl]
 generalize (p:Rat) = a at *
 generalize (q:Rat) = b at *
 grind
theorem aLu {x y uu vv:Rat} (c:uu * uu + vv * vv = 1) (nz:¬ (x = 0/\y = 0)):¬ (x = x + (uu * (x * -1) + vv * y)/\y = y + (vv * (x * -1) + uu * (y * -1)))/\gG x y 0 0 = gG x y (x + (uu * (x * -1) + vv * y)) (y + (vv * (x * -1) + uu * (y * -1))):=by
 have e:gG x y 0 0 = gG x y (x + (uu * (x * -1) + vv * y)) (y + (vv * (x * -1) + uu * (y * -1))):=by
  unfold gG
  have:(x + (uu * (x * -1) + vv * y) - x) * (x + (uu * (x * -1) + vv * y) - x) + (y + (vv * (x * -1) + uu * (y * -1)) - y) * (y + (vv * (x * -1) + uu * (y * -1)) - y) = (uu * uu + vv * vv) * (x * x + y * y):=by grind
  rw [this,c]
  grind
 refine ⟨fun z=>?_,e⟩
 rw [aAl.mpr z] at e
 exact nz (aAl.mp e)
theorem Wh.dv {D:Nat} {x:Rat} (h:Wh x):Dv D x:=by
 obtain ⟨z,rfl,_,_⟩:=h
 exact ⟨z * (D:Int),by rw [Rat.intCast_mul,Rat.intCast_natCast]⟩
theorem Wh.ab {x:Rat} (h:Wh x):Ab 20 x:=by
 obtain ⟨z,rfl,h1,h2⟩:=h
 have a:(((-20:Int)):Rat)<=(z:Rat):=by exact_mod_cast h1
 have b:(z:Rat)<=((20:Int):Rat):=by exact_mod_cast h2
 exact ⟨a,b⟩
theorem Wh.neg {x:Rat} (h:Wh x):Wh (x * -1):=by
 obtain ⟨z,rfl,h1,h2⟩:=h
 exact ⟨-z,by rw [Rat.intCast_neg];grind,by omega,by omega⟩
theorem Wh.mul {D:Nat} {x y:Rat} (h:Wh x) (d:Dv D y):Dv D (y * x):=by
 obtain ⟨z,rfl,h1,h2⟩:=h
 obtain ⟨a,ha⟩:=d
 exact ⟨a * z,by rw [Rat.intCast_mul,<- ha];grind⟩
theorem aGy {x y uu vv:Rat} {pp qq:Int} (wx:Wh x) (wy:Wh y) (pos:0 < qq * qq + pp * pp) (bd:Bd 9 (qq * qq + pp * pp)) (hu:((qq * qq - pp * pp:Int):Rat) / ((qq * qq + pp * pp:Int):Rat) = uu) (hv:((2 * pp * qq:Int):Rat) / ((qq * qq + pp * pp:Int):Rat) = vv) (bu:BQ 9 uu) (bv:BQ 10 vv):∃ A:Nat,0 < A/\A<=2 ^ 48/\plG A (2 ^ 25) (.arc x y (x + (uu * (x * -1) + vv * y)) (y + (vv * (x * -1) + uu * (y * -1)))):=by
 generalize qq * qq + pp * pp = c at *
 have c0:(c:Rat) ≠ 0:=by
  have:=aCy pos
  grind
 have ec:((c.toNat:Nat):Rat) = (c:Rat):=by
  rw [<- Rat.intCast_natCast,Int.toNat_of_nonneg (by omega)]
 have du:Dv c.toNat uu:=⟨_,by rw [ec,<- hu];exact Rat.div_mul_cancel c0⟩
 have dv:Dv c.toNat vv:=⟨_,by rw [ec,<- hv];exact Rat.div_mul_cancel c0⟩
 have au:=vM bu
 have av:=vM bv
 have hc:c.natAbs < 2 ^ 9:=bd
 have k {z:Rat} (h:Wh z):Dv c.toNat z/\Ab (2 ^ 25) z:=⟨h.dv,h.ab.mono (by decide)⟩
 exact ⟨c.toNat,by omega,by omega,⟨k wx,k wy⟩,⟨wx.dv.add ((wx.neg.mul du).add (wy.mul dv)),(wx.ab.add ((au.mul wx.neg.ab).add (av.mul wy.ab))).mono (by decide)⟩,wy.dv.add ((wx.neg.mul dv).add (wy.neg.mul du)),(wy.ab.add ((av.mul wx.neg.ab).add (au.mul wy.neg.ab))).mono (by decide)⟩
def yA:DSp:=fun ds M Q=>∃ (a:Addr) (n:Nat) (L:List D),ds = [.ref a]/\M a = some L/\pK n L/\5<=n/\∀ x y u v,BQ 100 x->BQ 100 y->BQ 100 u->BQ 100 v->¬ (x = 0/\y = 0)->¬ (x = u/\y = v)->gG x y 0 0 = gG x y u v->(∃ A:Nat,0 < A/\A<=2 ^ 48/\plG A (2 ^ 25) (.arc x y u v))->Q (.tup [FQ x,FQ y,FQ u,FQ v]) M
noncomputable abbrev tJ:Stmt:=top 83
theorem eU:aR ["_law_row_here","_law_x","_law_y","_law_p","_law_q","_law_u","_law_v","_law_back","_law_right","_law_up"] ["_law_row_here"] (aH tJ):=⟨rfl,rfl,rfl,by decide +kernel,rfl,by decide +kernel,by decide +kernel⟩
theorem aCE (hF:cE K mg "_law_bow" tJ ["_law_row_here"]) (fE:Has P w K mg base 102 "_law_drawn" ["_law_one","_law_other"] nB) (bY:Has P w K mg base 101 "_law_ratio" ["_law_top","_law_bottom"] gD) (iN:Has P w K mg base 102 "_law_plus" ["_law_one","_law_other"] nZ) (eO:Has P w K mg base 102 "_law_times" ["_law_one","_law_other"] mP) (aG5:mg "min" = none):Has P w K mg base 103 "_law_bow" ["_law_row_here"] yA:=by
 refine Has.mkZ hF eU (fun ds M Q ⟨a,n,L,e,_⟩=>by rw [e];rfl) fun f cdv A outer s H ds M Q E hr h=>?_
 obtain ⟨a,n,L,rfl,ha,hL,hn,q⟩:=h
 refine ⟨_,(aF (pT (i:=1) (j:=2) rfl eU.nd (aB (aG fE hr (by decide) (aB (aI (aA 0) aC) (aB aC aD))) (aB (aG fE hr (by decide) (aB (aI (aA 0) aC) (aB aC aD))) aD)))
  (fJ (aV (dE (eI (aN (bO hr) (aI (aA 1) aC) aC) (dA (aN (bO hr) (aI (aA 2) aC) aC)))) (aE (aP (i:=2) eU.nd (aQ (aB aC (aB aC aD))))) aU)
  (aF (fN (aI (cK (aB (aQ (aB aC (aB aC aD))) (aB (aQ (aB aC (aB aC aD))) (aB (aQ (aB (aO nC (aO dO (aI (aA 0) aC) aC) aC) (aB (aO dZ aC (aO dO (aI (aA 0) aC) aC)) aD))) aD)))) (cD (aJP rfl) aG5 (aB aC (aB (aO dO (aI (aA 0) aC) aC) aD)))) (gO (n:=2) rfl (bA (aS (i:=3) eU.nd) (bA (aS (i:=4) eU.nd) eE))))
  (aF (aP (i:=5) eU.nd (aG bY hr (by decide) (aB (aO nC (aO bW (aA 4) (aA 4)) (aO bW (aA 3) (aA 3))) (aB (aO dZ (aO bW (aA 4) (aA 4)) (aO bW (aA 3) (aA 3))) aD))))
  (aF (aP (i:=6) eU.nd (aG bY hr (by decide) (aB (aO bW (aO bW aC (aA 3)) (aA 4)) (aB (aO dZ (aO bW (aA 4) (aA 4)) (aO bW (aA 3) (aA 3))) aD))))
  (aF (aP (i:=7) eU.nd (aQ (aB (gF aC) (aB aC aD))))
  (aF (aP (i:=8) eU.nd (aG iN hr (by decide) (aB (aG eO hr (by decide) (aB (aA 5) (aB (aG eO hr (by decide) (aB (aA 1) (aB (aA 7) aD))) aD))) (aB (aG eO hr (by decide) (aB (aA 6) (aB (aA 2) aD))) aD))))
  (aF (aP (i:=9) eU.nd (aG iN hr (by decide) (aB (aG eO hr (by decide) (aB (aA 6) (aB (aG eO hr (by decide) (aB (aA 1) (aB (aA 7) aD))) aD))) (aB (aG eO hr (by decide) (aB (aA 5) (aB (aG eO hr (by decide) (aB (aA 2) (aB (aA 7) aD))) aD))) aD))))
  (aE (aM (aQ (aB (aA 1) (aB (aA 2) (aB (aG iN hr (by decide) (aB (aA 1) (aB (aA 8) aD))) (aB (aG iN hr (by decide) (aB (aA 2) (aB (aA 9) aD))) aD))))))))))))))),?_⟩
 ac_nf
 obtain ⟨z0,e0,_⟩:=hL.at (i:=0) (by omega)
 obtain ⟨z1,e1,_⟩:=hL.at (i:=1) (by omega)
 obtain ⟨z2,e2,_⟩:=hL.at (i:=2) (by omega)
 obtain ⟨z3,e3,_⟩:=hL.at (i:=3) (by omega)
 obtain ⟨z4,e4,_⟩:=hL.at (i:=4) (by omega)
 refine ⟨_,_,ha,e0,_,_,rfl,fun x hx wx=>?_⟩
 ac_nf
 refine ⟨_,_,ha,e1,_,_,rfl,fun y hy wy=>?_⟩
 ac_nf
 refine ⟨fun ρ' M'=>M = M'/\∃ y:Rat,ρ' = [some (.ref a),some (FQ x),some (FQ y),none,none,none,none,none,none,none]/\BQ 24 y/\¬ (x = 0/\y = 0)/\((1:Int).fmod 5 ≠ 4->(1:Int).fmod 3 ≠ 2->Wh y),?_,?_⟩
 ·rw [cB]
  refine dif (fun c1=>?_) (fun c1=>?_)
  ·rw [cB]
   refine dif (fun c2=>?_) (fun c2=>?_)
   ·exact ⟨by decide,rfl,2,rfl,⟨by unfold Bd;decide,by unfold Bd;decide⟩,(fun z=>absurd z.2 (by decide)),fun _ _=>⟨2,rfl,by decide,by decide⟩⟩
   ·exact ⟨rfl,y,rfl,hy,(fun z=>c2 (by rw [z.2];rfl)),wy⟩
  ·exact ifF rfl ⟨rfl,y,rfl,hy,(fun z=>c1 (by rw [z.1];rfl)),wy⟩
 ·clear hy wy y
  rintro _ _ ⟨rfl,y,rfl,hy,nz,wy⟩
  ac_nf
  refine ⟨by decide,by decide,_,_,ha,e2,?_⟩
  ac_nf
  refine ⟨by decide,_,_,ha,e3,?_⟩
  ac_nf
  refine ⟨by decide,by decide,by decide,fun p hp=>?_⟩
  refine ⟨_,_,by rw [bI (aB6 ha hp)];exact ha,e4,?_⟩
  ac_nf
  have a1:=Int.fmod_nonneg_of_pos z2 (show (0:Int) < 19 by decide)
  have a2:=Int.fmod_lt_of_pos z2 (show (0:Int) < 19 by decide)
  have a3:=Int.fmod_nonneg_of_pos z3 (show (0:Int) < 9 by decide)
  have a4:=Int.fmod_lt_of_pos z3 (show (0:Int) < 9 by decide)
  obtain ⟨pp,qq,ek,p0,p1,q0,q1,np⟩:∃ pp qq:Int,atI [D.tup [.int 1,.int 0],.tup [.int 0,.int 1],.tup [.int (z2.fmod 19 - 9),.int (1 + z3.fmod 9)]] (if z4.fmod 8 < 2 then z4.fmod 8 else 2) = some (.tup [.int pp,.int qq])/\-10<=pp/\pp<=10/\-10<=qq/\qq<=10/\(pp ≠ 0 ∨ qq ≠ 0):=by
   have b1:=Int.fmod_nonneg_of_pos z4 (show (0:Int) < 8 by decide)
   by_cases c:z4.fmod 8 < 2
   ·rw [if_pos c]
    have:z4.fmod 8 = 0 ∨ z4.fmod 8 = 1:=by omega
    rcases this with e | e<;>rw [e]
    ·exact ⟨1,0,rfl,by decide,by decide,by decide,by decide,.inl (by decide)⟩
    ·exact ⟨0,1,rfl,by decide,by decide,by decide,by decide,.inr (by decide)⟩
   ·rw [if_neg c]
    exact ⟨_,_,rfl,by omega,by omega,by omega,by omega,.inr (by omega)⟩
  have s1:=aZ.new hp [D.tup [.int 1,.int 0],.tup [.int 0,.int 1],.tup [.int (z2.fmod 19 - 9),.int (1 + z3.fmod 9)]]
  have bp:Bd 4 pp:=Bd.of (by omega) (by omega)
  have bq:Bd 4 qq:=Bd.of (by omega) (by omega)
  refine ⟨by decide,_,_,aJ,ek,?_⟩
  ac_nf
  have pos:0 < qq * qq + pp * pp:=aJ3 np
  have bu:BQ 9 (((qq * qq - pp * pp:Int):Rat) / ((qq * qq + pp * pp:Int):Rat)):=.make (by omega) (bq.mul bq |>.sub (bp.mul bp)) (bq.mul bq |>.add (bp.mul bp))
  have bv:BQ 10 (((2 * pp * qq:Int):Rat) / ((qq * qq + pp * pp:Int):Rat)):=.make (by omega) (((Bd.mul (m:=2) (x:=2) (by unfold Bd;decide) bp).mul bq)) ((bq.mul bq |>.add (bp.mul bp)).mono (by decide))
  have bd:Bd 9 (qq * qq + pp * pp):=bq.mul bq |>.add (bp.mul bp)
  generalize hu:((qq * qq - pp * pp:Int):Rat) / ((qq * qq + pp * pp:Int):Rat) = uu at bu
  generalize hv:((2 * pp * qq:Int):Rat) / ((qq * qq + pp * pp:Int):Rat) = vv at bv
  have m1:BQ 2 (-1):=⟨by unfold Bd;decide,by unfold Bd;decide⟩
  refine ⟨rfl,cZ bq bq,cZ bp bp,cZ bq bq,cZ bp bp,_,_,rfl,pos,bd.mono (by decide),aF0 (by unfold Bd;decide),cZ ((Bd.mul (m:=2) (x:=2) (by unfold Bd;decide) bp)) bq,cZ bq bq,cZ bp bp,_,_,rfl,pos,bd.mono (by decide),?_⟩
  rw [hu,hv,aJ7]
  have w3:=hx.mul m1
  have w4:=bu.mul w3
  have w5:=bv.mul hy
  have w8:=bv.mul w3
  have w9:=hy.mul m1
  have w10:=bu.mul w9
  have bk:=aLu (x:=x) (y:=y) (aM2 pos hu hv) nz
  exact ⟨by decide,qQ hx m1 (by decide) (qQ bu w3 (by decide) (qQ bv hy (by decide) (aDI w4 w5 (by decide) (qQ hx m1 (by decide) (qQ bv w3 (by decide) (qQ hy m1 (by decide) (qQ bu w9 (by decide) (aDI w8 w10 (by decide) (aDI hx (w4.add w5) (by decide) (aDI hy (w8.add w10) (by decide) ⟨by decide,M,s1,q _ _ _ _ (hx.mono (by decide)) (hy.mono (by decide)) ((hx.add (w4.add w5)).mono (by decide)) ((hy.add (w8.add w10)).mono (by decide)) nz bk.1 bk.2 (aGy (wx (by decide) (by decide)) (wy (by decide) (by decide)) pos bd hu hv bu bv)⟩))))))))))⟩
theorem aIY {n:Nat} {L:List D} (h:pK n L) (lo hi:Nat) (l:lo<=hi) (r:hi<=n):pK (hi - lo) (Dd.cutD L (some (lo:Int)) (some (hi:Int))):=by
 unfold Dd.cutD
 rw [h.1,HT.sIx_nat,HT.sIx_nat,Nat.min_eq_left (by omega),Nat.min_eq_left (by omega)]
 exact ⟨by rw [length_take,length_drop,h.1];omega,fun d hd=>h.2 d (List.mem_of_mem_drop (List.mem_of_mem_take hd))⟩
theorem e13:FQ (1 / 3:Rat) = D.tup [.int 1,.int 3]:=by
 unfold FQ
 rw [show (1 / 3:Rat).num = 1 by decide +kernel,show (1 / 3:Rat).den = 3 by decide +kernel];rfl
theorem g1 {a:Rat} (h:BQ 24 a):∃ A:Nat,0 < A/\A<=2 ^ 48/\Dv A a/\Ab (2 ^ 25) a :=
 ⟨a.den,a.den_pos,Nat.le_trans (Nat.le_of_lt (show a.den < 2 ^ 24 from h.2)) (by decide),.own a,(vM h).mono (by decide)⟩
theorem gh {a:Rat} (h:BQ 24 a):∃ A:Nat,0 < A/\A<=2 ^ 48/\Dv A a/\Ab (2 ^ 25) a/\Ab (2 ^ 25) (a + a) :=
 ⟨a.den,a.den_pos,Nat.le_trans (Nat.le_of_lt (show a.den < 2 ^ 24 from h.2)) (by decide),.own a,(vM h).mono (by decide),((vM h).add (vM h)).mono (by decide)⟩
theorem g2 {a b:Rat} (h:BQ 24 a) (h2:BQ 24 b):∃ A:Nat,0 < A/\A<=2 ^ 48/\(Dv A a/\Ab (2 ^ 25) a)/\Dv A b/\Ab (2 ^ 25) b :=
 ⟨a.den * b.den,Nat.mul_pos a.den_pos b.den_pos,Nat.le_trans (Nat.mul_le_mul (Nat.le_of_lt (show a.den < 2 ^ 24 from h.2)) (Nat.le_of_lt (show b.den < 2 ^ 24 from h2.2))) (by decide),⟨(Dv.own a).up _,(vM h).mono (by decide)⟩,(Dv.own b).up' _,(vM h2).mono (by decide)⟩
theorem g3 {t b:Int} (t0:0 < t) (t1:t<=12) (b0:0 < b) (b1:b<=12):plG 1 (2 ^ 25) (.grow ((t:Rat) / (b:Rat))):=by
 have c0:(b:Rat) ≠ 0:=by
  have:=aCy b0
  grind
 refine ⟨t.toNat,b.toNat,by omega,by omega,?_⟩
 rw [<- Rat.intCast_natCast,<- Rat.intCast_natCast,Int.toNat_of_nonneg (by omega),Int.toNat_of_nonneg (by omega)]
 exact Rat.div_mul_cancel c0
theorem b13:BQ 24 (1 / 3):=⟨by unfold Bd;decide +kernel,by unfold Bd;decide +kernel⟩
def sL:DSp:=fun ds M Q=>∃ (a:Addr) (n:Nat) (L:List D),ds = [.ref a]/\M a = some L/\pK n L/\8<=n/\∀ p,plB 100 p->(∃ A:Nat,0 < A/\A<=2 ^ 48/\plG A (2 ^ 25) p)->Q (plD p) M
noncomputable abbrev oG:Stmt:=top 84
theorem jQ:aR ["_law_row_here","_law_words","_law_word","_law_one"] ["_law_row_here"] (aH oG):=⟨rfl,rfl,rfl,by decide +kernel,rfl,by decide +kernel,by decide +kernel⟩
theorem zR (hF:cE K mg "_law_plain" oG ["_law_row_here"]) (kA:mg "int" = none) (fE:Has P w K mg base 102 "_law_drawn" ["_law_one","_law_other"] nB) (bY:Has P w K mg base 101 "_law_ratio" ["_law_top","_law_bottom"] gD) (tL:Has P w K mg base 103 "_law_bow" ["_law_row_here"] yA):Has P w K mg base 104 "_law_plain" ["_law_row_here"] sL:=by
 refine Has.mkZ hF jQ (fun ds M Q ⟨_,_,_,z,_⟩=>by rw [z];rfl) fun f cdv A outer s H ds M Q E hr h=>?_
 obtain ⟨a,n,L,rfl,ha,hL,hn,q⟩:=h
 refine ⟨_,(aF (aP (i:=1) jQ.nd (cK (aB aL (aB aL (aB aL (aB aL (aB aL (aB aL (aB aL (aB aL (aB aL (aB aL (aB aL (aB aL (aB aL aD)))))))))))))))
  (aF (aP (i:=2) jQ.nd (aI (aO dZ (aA 1) (cK (aB aL (aB aL (aB aL aD))))) (aO dO (aI (aA 0) aC) aC)))
  (aF (aP (i:=3) jQ.nd (aG fE hr (by decide) (aB (aI (aA 0) aC) (aB (aI (aA 0) aC) aD))))
  (aF (aV (aN aGi (aA 2) (cK (aB aL (aB aL aD))) rfl) (aE (aM (aQ (aB (aA 2) (aB (aA 3) aD))))) aU)
  (aF (aV (aN (bO hr) (aA 2) aL) (aE (aM (aQ (aB (aA 2) (aB (aA 3) (aB (aG fE hr (by decide) (aB (aI (aA 0) aC) (aB (aI (aA 0) aC) aD))) aD)))))) aU)
  (aF (aV (aN (bO hr) (aA 2) aL) (aE (aM (aQ (aB (aA 2) (aB (aG bY hr (by decide) (aB (aO dZ aC (aO dO (aI (aA 0) aC) aC)) (aB (aO dZ aC (aO dO (aI (aA 0) aC) aC)) aD))) aD))))) aU)
  (aF (aV (aN aGi (aA 2) (cK (aB aL (aB aL aD))) rfl) (aE (aM (aQ (aB (aA 2) (aB (aI (cK (aB (aA 3) (aB (aQ (aB aC (aB aC aD))) aD))) (cX aFB kA (aB (cQ (bO hr) (aI (aA 3) aC) aC) aD))) aD))))) aU)
  (aF (aV (aN (bO hr) (aA 2) aL) (aE (aM (aO iV (aQ (aB (aA 2) aD)) (aG tL hr (by decide) (aB (pQ (aA 0) (gC aC) (gC aC)) aD))))) aU)
  (aE (aM (aQ (aB (aA 2) aD)))))))))))),?_⟩
 ac_nf
 obtain ⟨z0,e0,_⟩:=hL.at (i:=0) (by omega)
 obtain ⟨z1,e1,_⟩:=hL.at (i:=1) (by omega)
 obtain ⟨z2,e2,_⟩:=hL.at (i:=2) (by omega)
 obtain ⟨z3,e3,_⟩:=hL.at (i:=3) (by omega)
 obtain ⟨z4,e4,_⟩:=hL.at (i:=4) (by omega)
 refine ⟨by decide,fun p0 hp0=>⟨by decide,fun p1 hp1=>?_⟩⟩
 obtain ⟨n10,hp1'⟩:=fU hp1
 refine ⟨_,_,by rw [bI (Ne.symm n10)];exact aJ,aJ,by decide,fun p2 hp2=>?_⟩
 have s1:=((aZ.new hp0 [D.str "go",.str "go",.str "side",.str "quarter",.str "half",.str "arc",.str "dot",.str "skip",.str "left",.str "right",.str "round",.str "mirror",.str "grow"]).trans (aZ.new hp1 [D.str "side",.str "quarter",.str "arc"])).trans (aZ.new hp2 [D.str "go",.str "go",.str "side",.str "quarter",.str "half",.str "arc",.str "dot",.str "skip",.str "left",.str "right",.str "round",.str "mirror",.str "grow",.str "side",.str "quarter",.str "arc"])
 ac_nf
 refine ⟨L,_,s1 _ _ ha,e0,?_⟩
 ac_nf
 obtain ⟨wd,ew,hw⟩:∃ wd:Str,atI [D.str "go",.str "go",.str "side",.str "quarter",.str "half",.str "arc",.str "dot",.str "skip",.str "left",.str "right",.str "round",.str "mirror",.str "grow",.str "side",.str "quarter",.str "arc"] (z0.fmod 16) = some (.str wd)/\(((wd = "go" ∨ wd = "skip") ∨ wd = "side" ∨ wd = "grow") ∨ ((wd = "quarter" ∨ wd = "half") ∨ wd = "arc") ∨ (wd = "dot" ∨ wd = "left") ∨ wd = "right" ∨ wd = "round" ∨ wd = "mirror"):=by
  have h1:=Int.fmod_nonneg_of_pos z0 (show (0:Int) < 16 by decide)
  have h2:=Int.fmod_lt_of_pos z0 (show (0:Int) < 16 by decide)
  have:((z0.fmod 16 = 0 ∨ z0.fmod 16 = 1 ∨ z0.fmod 16 = 2 ∨ z0.fmod 16 = 3) ∨ z0.fmod 16 = 4 ∨ z0.fmod 16 = 5 ∨ z0.fmod 16 = 6 ∨ z0.fmod 16 = 7) ∨ (z0.fmod 16 = 8 ∨ z0.fmod 16 = 9 ∨ z0.fmod 16 = 10 ∨ z0.fmod 16 = 11) ∨ z0.fmod 16 = 12 ∨ z0.fmod 16 = 13 ∨ z0.fmod 16 = 14 ∨ z0.fmod 16 = 15:=by omega
  rcases this with ((e | e | e | e) | e | e | e | e) | (e | e | e | e) | e | e | e | e<;>rw [e]<;>exact ⟨_,rfl,by decide⟩
 refine ⟨by decide,_,_,aJ,ew,?_⟩
 generalize bH (bH (bH M p0 _) p1 _) p2 _ = M2 at s1 ⊢
 refine ⟨L,_,s1 _ _ ha,e1,L,_,s1 _ _ ha,e2,z1,z2,rfl,fun one bone _=>?_⟩
 ac_nf
 refine ⟨by decide,fun p3 hp3=>⟨["go","skip"],aJ,?_⟩⟩
 have s3:=s1.trans (aZ.new hp3 [D.str "go",.str "skip"])
 have ha3:=s3 _ _ ha
 ac_nf
 generalize bH M2 p3 _ = M3 at s3 ha3 ⊢
 have m24 {x:Rat} (h:BQ 24 x):BQ 100 x:=h.mono (by decide)
 rcases hw with ((rfl | rfl) | rfl | rfl) | ((rfl | rfl) | rfl) | (rfl | rfl) | rfl | rfl | rfl
 ·exact ifT (by decide) ⟨by decide,M,s3,q (.go one) (m24 bone) (g1 bone)⟩
 ·exact ifT (by decide) ⟨by decide,M,s3,q (.skip one) (m24 bone) (g1 bone)⟩
 ·refine ifF (by decide) ?_
  rw [aK]
  refine ifT (by decide) ⟨L,_,ha3,e3,L,_,ha3,e4,z3,z4,rfl,fun two btwo _=>?_⟩
  ac_nf
  exact ⟨by decide,M,s3,q (.side one two) ⟨m24 bone,m24 btwo⟩ (g2 bone btwo)⟩
 ·refine ifF (by decide) ?_
  rw [aK]
  refine ifF (by decide) ?_
  rw [aK]
  refine ifT (by decide) ⟨L,_,ha3,e1,?_⟩
  ac_nf
  refine ⟨by decide,L,_,ha3,e2,?_⟩
  ac_nf
  have h1:=Int.fmod_nonneg_of_pos z1 (show (0:Int) < 12 by decide)
  have h2:=Int.fmod_lt_of_pos z1 (show (0:Int) < 12 by decide)
  have h3:=Int.fmod_nonneg_of_pos z2 (show (0:Int) < 12 by decide)
  have h4:=Int.fmod_lt_of_pos z2 (show (0:Int) < 12 by decide)
  refine ⟨by decide,_,_,rfl,by omega,(aBZ (by omega) (by omega)).mono (by decide),?_⟩
  ac_nf
  have sp:(0:Rat) < ((1 + z1.fmod 12:Int):Rat) / ((1 + z2.fmod 12:Int):Rat):=aHd (aCy (by omega)) (aCy (by omega))
  exact ⟨by decide,M,s3,q (.grow _) ⟨m24 (aHx (by omega) (by omega) (by omega) (by omega)),sp⟩ ⟨1,by decide,by decide,g3 (by omega) (by omega) (by omega) (by omega)⟩⟩
 all_goals
  refine ifF (by decide) ?_
  rw [aK]
  refine ifF (by decide) ?_
  rw [aK]
  refine ifF (by decide) ?_
  refine ⟨by decide,fun p4 hp4=>⟨["quarter","half"],aJ,?_⟩⟩
  have s4:=s3.trans (aZ.new hp4 [D.str "quarter",.str "half"])
  have ha4:=s4 _ _ ha
  ac_nf
  generalize bH M3 p4 _ = M4 at s4 ha4 ⊢
 case inr.inl.inl.inl =>
  refine ifT (by decide) ⟨by decide,by decide,fun p5 hp5=>?_⟩
  rw [cB]
  by_cases c:one.num = 0
  ·rw [decide_eq_true c]
   have fin:=q (.quarter (1 / 3)) ⟨⟨by unfold Bd;decide +kernel,by unfold Bd;decide +kernel⟩,by decide +kernel⟩ (g1 b13)
   dsimp only [plD] at fin
   rw [e13] at fin
   exact ⟨_,_,aJ,rfl,by decide,M,s4.trans (aZ.new hp5 _),fin⟩
  ·rw [decide_eq_false c]
   exact ⟨_,_,aJ,rfl,by decide,M,s4.trans (aZ.new hp5 _),q (.quarter one) ⟨m24 bone,fun z=>c (by rw [z];rfl)⟩ (g1 bone)⟩
 case inr.inl.inl.inr =>
  refine ifT (by decide) ⟨by decide,by decide,fun p5 hp5=>?_⟩
  rw [cB]
  by_cases c:one.num = 0
  ·rw [decide_eq_true c]
   have fin:=q (.half (1 / 3)) ⟨⟨by unfold Bd;decide +kernel,by unfold Bd;decide +kernel⟩,by decide +kernel⟩ (gh b13)
   dsimp only [plD] at fin
   rw [e13] at fin
   exact ⟨_,_,aJ,rfl,by decide,M,s4.trans (aZ.new hp5 _),fin⟩
  ·rw [decide_eq_false c]
   exact ⟨_,_,aJ,rfl,by decide,M,s4.trans (aZ.new hp5 _),q (.half one) ⟨m24 bone,fun z=>c (by rw [z];rfl)⟩ (gh bone)⟩
 case inr.inl.inr =>
  refine ifF (by decide) ?_
  rw [aK]
  refine ifT (by decide) ⟨by decide,L,ha4,fun p5 hp5=>?_⟩
  refine ⟨p5,5,_,rfl,aJ,aIY hL 3 8 (by decide) (by omega),by decide,fun x y u v b1 b2 b3 b4 k1 k2 k3 kg=>?_⟩
  ac_nf
  exact ⟨by decide,M,s4.trans (aZ.new hp5 _),q (.arc x y u v) ⟨b1,b2,b3,b4,k1,k2,k3⟩ kg⟩
 all_goals
  refine ifF (by decide) ?_
  rw [aK]
  refine ifF (by decide) ⟨by decide,M,s4,?_⟩
 ·exact q .dot trivial ⟨1,by decide,by decide,trivial⟩
 ·exact q .left trivial ⟨1,by decide,by decide,trivial⟩
 ·exact q .right trivial ⟨1,by decide,by decide,trivial⟩
 ·exact q .rnd trivial ⟨1,by decide,by decide,trivial⟩
 ·exact q .mirror trivial ⟨1,by decide,by decide,trivial⟩
def FA (A:Nat) (p:Pl):Prop:=plG A (2 ^ 25) p/\plB 100 p
theorem aOc {A:Nat} {p:Pl} (h:FA A p):gwR 690 (.pl p):=by
 cases p with
 | grow a =>
  rw [gwR]
  obtain ⟨t,b,⟨t0,t1⟩,⟨b0,b1⟩,e⟩:=h.1
  exact ⟨t,b,⟨t0,by omega⟩,⟨b0,by omega⟩,e⟩
 | _ =>
     rw [gwR];· trivial
     all_goals (intro _ z;cases z)
mutual
def vER:Bool->Rw->Prop
 | _,.pl _=>True
 | b,.ag n rs=>(n<=1 ∨ n * dnS rs<=90)/\vES b rs
 | b,.kp rs=>vES b rs
 | b,.ev rs=>b = false/\enB rs = true/\vES true rs
def vES:Bool->List Rw->Prop
 | _,[]=>True
 | b,r :: rs=>vER b r/\vES b rs
end
theorem aEe {b:Bool}:∀ {xs ys:List Rw},vES b (xs ++ ys) ↔ vES b xs/\vES b ys
 | [],ys=>by rw [nil_append,vES,true_and]
 | x :: xs,ys=>by rw [cons_append,vES,vES,aEe,and_assoc]
noncomputable def aBA (x:En × Nat):Bool:=x.1.wd == "ever"
def rV:Bool->Es->Prop
 | _,[]=>True
 | b,x :: xs=>(b = true->aBA x = false)/\vES (b || aBA x) x.1.rs/\rV (b || aBA x) xs
theorem xN:∀ {b:Bool} {xs ys:Es},rV b (xs ++ ys) ↔ rV b xs/\rV (b || xs.any aBA) ys
 | b,[],ys=>by rw [nil_append,rV,any_nil,Bool.or_false,true_and]
 | b,x :: xs,ys=>by rw [cons_append,rV,rV,xN,any_cons,Bool.or_assoc,and_assoc,and_assoc]
noncomputable def mu:Es->Nat
 | []=>0
 | x :: xs=>2 * hmS x.1.rs + mu xs
theorem aDi:∀ xs ys:Es,mu (xs ++ ys) = mu xs + mu ys
 | [],ys=>by rw [nil_append,mu,Nat.zero_add]
 | x :: xs,ys=>by rw [cons_append,mu,mu,aDi xs ys,Nat.add_assoc]
noncomputable def hd0:Es->Bool
 | []=>false
 | x :: _=>aBA x
structure SJ (es:Es) (c:Nat):Prop where
 hd:hd0 es = false
 al:rV false es
 mu:mu es + 3 * es.length<=3 * c + 3
structure SK (es:Es):Prop where
 hd:hd0 es = false
 al:rV false es
 mu:mu es + 3 * es.length + (if es.any aBA then 3 else 0)<=114
theorem aKv {es:Es} {x y:En × Nat} (e:aBA x = aBA y) (h:hd0 (es ++ [x]) = false):hd0 (es ++ [y]) = false:=by
 cases es with
 | nil=>exact e.symm.trans h
 | cons z zs=>exact h
theorem SJ.row {es:Es} {u:En} {m m' c:Nat} {p:Pl} (h:SJ (es ++ [(u,m)]) c):SJ (es ++ [({ u with rs:=u.rs ++ [.pl p] },m')]) (c + 1):=by
 obtain ⟨hd,a,b⟩:=h
 obtain ⟨a1,a2⟩:=xN.mp a
 rw [rV,rV] at a2
 rw [aDi,Lw.mu,Lw.mu,length_append] at b
 refine ⟨aKv (by exact rfl) hd,xN.mpr ⟨a1,?_⟩,?_⟩
 ·rw [rV,rV]
  exact ⟨a2.1,aEe.mpr ⟨a2.2.1,by rw [vES,vES,vER];exact ⟨trivial,trivial⟩⟩,trivial⟩
 ·rw [aDi,Lw.mu,Lw.mu,length_append]
  dsimp only
  rw [wC,hmS,hmS,hmR]
  simp only [length_singleton] at b ⊢
  omega
theorem SK.end {x:En × Nat} (h:SK [x]):vES false x.1.rs/\hmS x.1.rs<=55:=by
 obtain ⟨w,a,b⟩:=h
 have w:aBA x = false:=w
 rw [rV,w,Bool.false_or] at a
 rw [Lw.mu,Lw.mu,any_cons,w,any_nil] at b
 simp only [Bool.or_self,Bool.false_eq_true,if_false,length_singleton] at b
 exact ⟨a.2.1,by omega⟩
def aDP (d:Nat):DSp:=fun ds M Q=>∃ rs,ds = [.tup (dF rs)]/\DpS d rs/\Q (.int (hmS rs:Int)) M
noncomputable abbrev jL:Stmt:=top 50
theorem eJ:aR ["rows","many","row","within"] ["rows"] (aH jL):=⟨rfl,rfl,rfl,by decide +kernel,rfl,by decide +kernel,by decide +kernel⟩
theorem sQ (hF:cE K mg "how_many_rows" jL ["rows"]) (cY:mg "len" = none) (bT:Has P w K mg base 101 "rows_within" ["row"] gB):Has P w K mg base 118 "how_many_rows" ["rows"] (aDP 8):=by
 have all:∀ d,Has P w K mg base (110 + d) "how_many_rows" ["rows"] (aDP d):=fun d=>by
  induction d with
  | zero=>exact (Has.never hF eJ 109).imp fun ds M Q ⟨rs,_,z,_⟩=>z
  | succ d dD =>
   refine Has.mkZ (k:=110 + d) hF eJ (fun ds M Q ⟨a,z,_⟩=>by rw [z];rfl) fun f cdv A outer s H ds M Q E hr h=>?_
   obtain ⟨rs,rfl,dp,q⟩:=h
   refine ⟨_,(aF (aP (i:=1) eJ.nd (cD fV cY (aB (aA 0) aD)))
  (aF (jY PassesOwn.never rfl (aA 0) (aS (i:=2) eJ.nd) (aF (aP (i:=3) eJ.nd (aG bT hr (by omega) (aB (aA 2) aD)))
  (aE (aV (aN aCq (aA 3) bL) (aE (pB (i:=1) yR eJ.nd (aG dD hr (by omega) (aB (aA 3) aD)))) aU))))
  (aE (aM (aA 1))))),?_⟩
   ac_nf
   refine ⟨fun i ρ M'=>M' = M/\∃ o1 o2,ρ = [some (.tup (dF rs)),some (.int ((rs.length:Int) + (hmS (rs.take i):Int) - (i:Int))),o1,o2],⟨rfl,none,none,?_⟩,fun i ρ M' _ _ a e=>(by cases e),?_,?_⟩
   ·rw [take_zero,hmS,lX,show (rs.length:Int) + ((0:Nat):Int) - ((0:Nat):Int) = (rs.length:Int) by omega]
   ·rintro i d1 ρ M' hd ⟨rfl,o1,o2,rfl⟩
    obtain ⟨r,hr',rfl⟩:=oU hd
    have dr:=dp.2 r (mem_of_getElem? hr')
    ac_nf
    refine ⟨r,rfl,?_⟩
    have fin:hmS (rs.take (i + 1)) = hmS (rs.take i) + hmR r:=by rw [iE hr',wC,hmS,hmS,Nat.add_zero]
    rw [fin]
    have blk:∀ ws:List Rw,hmR r = 1 + hmS ws->(rs.length:Int) + (hmS (rs.take i):Int) - (i:Int) + (hmS ws:Int) = (rs.length:Int) + ((hmS (rs.take i) + hmR r:Nat):Int) - ((i + 1:Nat):Int):=fun ws e=>by omega
    cases r with
    | pl p =>
     dsimp only [inR]
     ac_nf
     refine ifF rfl ?_
     rw [hmR,show (rs.length:Int) + ((hmS (rs.take i) + 1:Nat):Int) - ((i + 1:Nat):Int) = (rs.length:Int) + (hmS (rs.take i):Int) - (i:Int) by omega]
     exact ⟨rfl,_,_,rfl⟩
    | ag n ws =>
     obtain ⟨hn,dw⟩:=vI dr
     dsimp only [inR]
     ac_nf
     refine ifT rfl ⟨ws,rfl,dw,?_⟩
     ac_nf
     rw [blk ws (by rw [hmR])]
     exact ⟨rfl,_,_,rfl⟩
    | kp ws =>
     have dw:=xZ dr
     dsimp only [inR]
     ac_nf
     refine ifT rfl ⟨ws,rfl,dw,?_⟩
     ac_nf
     rw [blk ws (by rw [hmR])]
     exact ⟨rfl,_,_,rfl⟩
    | ev ws =>
     have dw:=aCw dr
     dsimp only [inR]
     ac_nf
     refine ifT rfl ⟨ws,rfl,dw,?_⟩
     ac_nf
     rw [blk ws (by rw [hmR])]
     exact ⟨rfl,_,_,rfl⟩
   ·rintro ρ M' ⟨rfl,o1,o2,rfl⟩
    rw [lX,take_length,show (rs.length:Int) + (hmS rs:Int) - (rs.length:Int) = (hmS rs:Int) by omega]
    exact aX q
 exact all 8
def jK:DSp:=fun ds M Q=>∃ rs,ds = [.tup (dF rs)]/\DpS 8 rs/\hmS rs<=60/\Q (.tup (dF rs)) M
noncomputable abbrev iH:Stmt:=top 62
theorem nM:aR ["program"] ["program"] (aH iH):=⟨rfl,rfl,rfl,by decide +kernel,rfl,by decide +kernel,by decide +kernel⟩
theorem uG (hF:cE K mg "not_too_long" iH ["program"]) (hW:fG K mg "MOST_ROWS" (.int 60)) (dD:Has P w K mg base 118 "how_many_rows" ["rows"] (aDP 8)):Has P w K mg base 119 "not_too_long" ["program"] jK:=by
 refine Has.mkZ hF nM (fun ds M Q ⟨_,z,_⟩=>by rw [z];rfl) fun f cdv A outer s H ds M Q E hr h=>?_
 obtain ⟨rs,rfl,dp,l,q⟩:=h
 refine ⟨_,(aF (aV (aN kT (aG dD hr (by decide) (aB (aA 0) aD)) (bF hW)) (aE lN) aU)
  (aE (aM (aA 0)))),?_⟩
 ac_nf
 refine ⟨rs,rfl,dp,?_⟩
 ac_nf
 exact ifF (decide_eq_false (by omega)) (aX q)
def aMM:List D->Prop:=fun ds=>∃ rs,ds = [.tup (dF rs)]/\DpS 8 rs/\60 < hmS rs
theorem uA {C_TooMuch:Addr} (hF:cE K mg "not_too_long" iH ["program"]) (tR:aE4 K mg "TooMuch" C_TooMuch) (hW:fG K mg "MOST_ROWS" (.int 60)) (dD:Has P w K mg base 118 "how_many_rows" ["rows"] (aDP 8)):aOZ P w K mg base 119 "not_too_long" ["program"] C_TooMuch aMM:=by
 refine rQ.mkZ hF tR nM (fun ds M ⟨_,z,_⟩=>by rw [z];rfl) fun f cdv A outer s H ds M E hr h hRO=>?_
 obtain ⟨rs,rfl,dp,l⟩:=h
 refine ⟨_,(aF (aV (aN kT (aG dD hr (by decide) (aB (aA 0) aD)) (bF hW)) (aE (aEY hRO (aB aL aD))) aU)
  (aE (aM (aA 0)))),?_⟩
 ac_nf
 refine ⟨rs,rfl,dp,?_⟩
 ac_nf
 exact ifT (decide_eq_true (by omega)) ⟨by decide,.refl _⟩
noncomputable def gwB (s:Rat):Bool:=decide (1<=s.num/\s.num<=12) && decide ((s.den:Int)<=12)
def vD:DSp:=fun ds M Q=>∃ s:Rat,ds = [FQ s]/\Q (.bl (gwB s)) M
noncomputable abbrev rG:Stmt:=top 25
theorem aCn:aR ["number"] ["number"] (aH rG):=⟨rfl,rfl,rfl,by decide +kernel,rfl,by decide +kernel,by decide +kernel⟩
theorem aAZ (hF:cE K mg "may_grow" rG ["number"]) (iB:fG K mg "MOST_IN_GROW" (.int 12)):Has P w K mg base 101 "may_grow" ["number"] vD:=by
 refine Has.mkZ hF aCn (fun ds M Q ⟨_,z,_⟩=>by rw [z];rfl) fun f cdv A outer s H ds M Q E hr h=>?_
 obtain ⟨s,rfl,q⟩:=h
 refine ⟨_,(aE (aM (eX (tN uX uX aC (aI (aA 0) aC) (bF iB)) (eW (cQ uX (aI (aA 0) aC) (bF iB)))))),?_⟩
 ac_nf
 unfold gwB at q
 by_cases c1:1<=s.num
 ·refine ifT (decide_eq_true c1) ?_
  by_cases c2:s.num<=12
  ·rw [decide_eq_true ⟨c1,c2⟩,Bool.true_and] at q
   exact ifT (decide_eq_true c2) (aX q)
  ·rw [decide_eq_false (fun z=>c2 z.2),Bool.false_and] at q
   exact ifF (decide_eq_false c2) (aX q)
 ·rw [decide_eq_false (fun z=>c1 z.1),Bool.false_and] at q
  exact ifF (decide_eq_false c1) (ifF rfl (aX q))
noncomputable def aJY:D->Option Bool
 | .int _=>some true
 | .ref _=>none
 | _=>some false
def nV:DSp:=fun ds M Q=>∃ d b,ds = [d]/\aJY d = some b/\Q (.bl b) M
noncomputable abbrev rP:Stmt:=top 21
theorem aCK:aR ["thing"] ["thing"] (aH rP):=⟨rfl,rfl,rfl,by decide +kernel,rfl,by decide +kernel,by decide +kernel⟩
theorem aBo (hF:cE K mg "is_whole" rP ["thing"]) (cJ:mg "isinstance" = none) (kA:mg "int" = none) (aC2:mg "bool" = none):Has P w K mg base 101 "is_whole" ["thing"] nV:=by
 refine Has.mkZ hF aCK (fun ds M Q ⟨_,_,z,_⟩=>by rw [z];rfl) fun f cdv A outer s H ds M Q E hr h=>?_
 obtain ⟨d,b,rfl,h,q⟩:=h
 refine ⟨_,(aE (aM (eX (lM (aA 0) cJ kA) (eW (aAY (lM (aA 0) cJ aC2)))))),?_⟩
 ac_nf
 cases d with
 | int i=>cases h;exact .inl ⟨_,_,rfl,rfl,ifT rfl (.inl ⟨_,_,rfl,rfl,aX q⟩)⟩
 | bl b=>cases h;exact .inl ⟨_,_,rfl,rfl,ifT rfl (.inl ⟨_,_,rfl,rfl,aX q⟩)⟩
 | ref a=>cases h
 | _=>cases h;exact .inl ⟨_,_,rfl,rfl,ifF rfl (aX q)⟩
def iS:DSp:=fun ds M Q=>∃ a b,ds = [.int a,.int b]/\Q (.bl (decide (1<=b) && decide (Int.gcd a b = 1))) M
noncomputable abbrev mZ:Stmt:=top 22
theorem zK:aR ["top","bottom"] ["top","bottom"] (aH mZ):=⟨rfl,rfl,rfl,by decide +kernel,rfl,by decide +kernel,by decide +kernel⟩
theorem wW (hF:cE K mg "is_reduced" mZ ["top","bottom"]) (bB:Has P w K mg base 101 "greatest_divisor" ["one","other"] eF):Has P w K mg base 102 "is_reduced" ["top","bottom"] iS:=by
 refine Has.mkZ hF zK (fun ds M Q ⟨_,_,z,_⟩=>by rw [z];rfl) fun f cdv A outer s H ds M Q E hr h=>?_
 obtain ⟨a,b,rfl,q⟩:=h
 refine ⟨_,(aE (aM (eX (cQ aNL (aA 1) aC) (eW (cQ (bO hr) (aG bB hr (by decide) (aB (aA 0) (aB (aA 1) aD))) aC))))),?_⟩
 ac_nf
 by_cases c:1<=b
 ·rw [decide_eq_true c,Bool.true_and] at q
  refine ifT (decide_eq_true c) ⟨a,b,rfl,?_⟩
  ac_nf
  rw [cB,show decide ((Int.gcd a b:Int) = 1) = decide (Int.gcd a b = 1) from decide_eq_decide.mpr ⟨fun z=>by omega,fun z=>by omega⟩]
  exact aX q
 ·rw [decide_eq_false c,Bool.false_and] at q
  exact ifF (decide_eq_false c) (aX q)
theorem aHu (x:Rat):(decide (1<=(x.den:Int)) && decide (Int.gcd x.num (x.den:Int) = 1)) = true:=by
 have h1:=x.den_pos
 have h2:Int.gcd x.num (x.den:Int) = 1:=x.reduced
 rw [decide_eq_true (by omega),decide_eq_true h2];rfl
def oA:DSp:=fun ds M Q=>∃ x:Rat,ds = [FQ x]/\Q (.bl true) M
noncomputable abbrev lH:Stmt:=top 23
theorem xK:aR ["thing"] ["thing"] (aH lH):=⟨rfl,rfl,rfl,by decide +kernel,rfl,by decide +kernel,by decide +kernel⟩
theorem vS (hF:cE K mg "is_fraction" lH ["thing"]) (cJ:mg "isinstance" = none) (cV:mg "tuple" = none) (cY:mg "len" = none) (gW:Has P w K mg base 101 "is_whole" ["thing"] nV) (dJ:Has P w K mg base 102 "is_reduced" ["top","bottom"] iS):Has P w K mg base 103 "is_fraction" ["thing"] oA:=by
 refine Has.mkZ hF xK (fun ds M Q ⟨_,z,_⟩=>by rw [z];rfl) fun f cdv A outer s H ds M Q E hr h=>?_
 obtain ⟨x,rfl,q⟩:=h
 refine ⟨_,(aF (aV (dE (eL (eV (cN (lM (aA 0) cJ cV))) (eG (aN (fX hr) (cD fV cY (aB (aA 0) aD)) aC)))) (aE (aM lJ)) aU)
  (aE (aM (eX (aG gW hr (by decide) (aB (aI (aA 0) aC) aD)) (eX (aG gW hr (by decide) (aB (aI (aA 0) aC) aD)) (eW (aG dJ hr (by decide) (aB (aI (aA 0) aC) (aB (aI (aA 0) aC) aD))))))))),?_⟩
 rw [show FQ x = D.tup [.int x.num,.int (x.den:Int)] from rfl]
 ac_nf
 refine .inl ⟨_,_,rfl,rfl,ifF rfl ?_⟩
 rw [cB]
 refine ifF rfl ⟨_,_,rfl,rfl,ifT rfl ⟨_,_,rfl,rfl,ifT rfl ⟨_,_,rfl,?_⟩⟩⟩
 rw [aHu]
 exact aX q
noncomputable def aG7:List (Str × Int):=[("go",1),("skip",1),("side",2),("dot",0),("left",0),("right",0),("round",0),("mirror",0),("grow",1),("quarter",1),("half",1),("arc",4)]
noncomputable def aGK:List Str:=["again","keep","ever","none","end","Dot",""]
def dU:DSp:=fun ds M Q=>∃ k:Str,ds = [.str k]/\((∃ n,aG7.lookup k = some n/\Q (.int n) M) ∨ (k ∈ aGK/\Q .non M))
noncomputable abbrev iR:Stmt:=top 24
theorem rS:aR ["word"] ["word"] (aH iR):=⟨rfl,rfl,rfl,by decide +kernel,rfl,by decide +kernel,by decide +kernel⟩
theorem qT (hF:cE K mg "numbers_behind" iR ["word"]) (uF:aEd w K mg "NUMBERS" aG7 aGK):Has P w K mg base 101 "numbers_behind" ["word"] dU:=by
 refine Has.mkZ hF rS (fun ds M Q ⟨_,z,_⟩=>by rw [z];rfl) fun f cdv A outer s H ds M Q E hr h=>?_
 obtain ⟨k,rfl,h⟩:=h
 refine ⟨_,(aE (aM (aFA uF (aA 0)))),?_⟩
 ac_nf
 rcases h with ⟨n,hn,q⟩ | ⟨hn,q⟩
 ·exact .inl ⟨n,hn,aX q⟩
 ·exact .inr ⟨hn,aX q⟩
noncomputable def aOx:D->Option Bool
 | .tup (.str _ :: _)=>some true
 | .int _=>some false
 | _=>none
def mD:DSp:=fun ds M Q=>∃ d b,ds = [d]/\aOx d = some b/\Q (.bl b) M
noncomputable abbrev nQ:Stmt:=top 27
theorem aBl:aR ["thing"] ["thing"] (aH nQ):=⟨rfl,rfl,rfl,by decide +kernel,rfl,by decide +kernel,by decide +kernel⟩
theorem zP (hF:cE K mg "is_worded" nQ ["thing"]) (cJ:mg "isinstance" = none) (cV:mg "tuple" = none) (qG:mg "str" = none) (cY:mg "len" = none):Has P w K mg base 101 "is_worded" ["thing"] mD:=by
 refine Has.mkZ hF aBl (fun ds M Q ⟨_,_,z,_⟩=>by rw [z];rfl) fun f cdv A outer s H ds M Q E hr h=>?_
 obtain ⟨d,b,rfl,hb,q⟩:=h
 refine ⟨_,(aE (aM (eX (lM (aA 0) cJ cV) (eX (cQ kT (cD fV cY (aB (aA 0) aD)) aC) (eW (lM (aI (aA 0) aC) cJ qG)))))),?_⟩
 match d,hb with
 | .tup (.str k :: cT),hb =>
  cases hb
  ac_nf
  refine .inl ⟨_,_,rfl,rfl,ifT rfl (ifT (decide_eq_true (by show (0:Int) < ((cT.length + 1:Nat):Int);omega)) ?_)⟩
  rw [zG]
  ac_nf
  exact .inl ⟨_,_,rfl,rfl,aX q⟩
 | .int i,hb =>
  cases hb
  ac_nf
  exact .inl ⟨_,_,rfl,rfl,ifF rfl (aX q)⟩
noncomputable def wd:Pl->Str
 | .go _=>"go" | .side _ _=>"side" | .skip _=>"skip" | .dot=>"dot" | .left=>"left" | .right=>"right" | .rnd=>"round" | .mirror=>"mirror" | .grow _=>"grow" | .quarter _=>"quarter" | .half _=>"half" | .arc _ _ _ _=>"arc"
noncomputable def nu:Pl->List Rat
 | .go a=>[a] | .side a b=>[a,b] | .skip a=>[a] | .grow a=>[a] | .quarter a=>[a] | .half a=>[a] | .arc a b c d=>[a,b,c,d] | _=>[]
theorem mX (p:Pl):plD p = .tup (.str (wd p) :: (nu p).map FQ):=by cases p<;>rfl
theorem aAS (p:Pl):aG7.lookup (wd p) = some (((nu p).length:Nat):Int):=by cases p<;>rfl
theorem aB2 (p:Pl):(nu p).length<=4:=by cases p<;>exact Nat.le_of_ble_eq_true rfl
def plV (p:Pl):Prop:=plB 100 p/\∀ a,p = .grow a->gwB a = true
def wZ:DSp:=fun ds M Q=>∃ a b c d:Rat,ds = [plD (.arc a b c d)]/\plB 100 (.arc a b c d)/\Q (.bl true) M
noncomputable abbrev tH:Stmt:=top 28
theorem yC:aR ["row","c"] ["row"] (aH tH):=⟨rfl,rfl,rfl,by decide +kernel,rfl,by decide +kernel,by decide +kernel⟩
theorem aCA (hF:cE K mg "is_bend" tH ["row"]) (bG:fG K mg "MIDDLE" tE) (uD:Has P w K mg base 103 "farther" ["c","p","q"] yM):Has P w K mg base 104 "is_bend" ["row"] wZ:=by
 refine Has.mkZ hF yC (fun ds M Q ⟨_,_,_,_,z,_⟩=>by rw [z];rfl) fun f cdv A outer s H ds M Q E hr h=>?_
 obtain ⟨a,b,c,d,rfl,⟨b1,b2,b3,b4,n0,n1,fe⟩,q⟩:=h
 refine ⟨_,(aF (aP (i:=1) yC.nd (aQ (aB (aI (aA 0) aC) (aB (aI (aA 0) aC) aD))))
  (aE (aM (eX (cQ (fX hr) (aA 1) (bF bG)) (eW (cQ (bO hr) (aG uD hr (by decide) (aB (aA 1) (aB (bF bG) (aB (aQ (aB (aI (aA 0) aC) (aB (aI (aA 0) aC) aD))) aD)))) aC)))))),?_⟩
 dsimp only [plD]
 ac_nf
 refine ⟨by decide,?_⟩
 rw [show (D.tup [FQ a,FQ b]) = PQ a b from rfl,show tE = PQ 0 0 from rfl,aFk]
 refine ifT (by rw [decide_eq_false n0];rfl) ⟨by decide,a,b,0,0,c,d,100,rfl,b1,b2,bqz.mono (by decide),bqz.mono (by decide),b3,b4,by decide,?_⟩
 ac_nf
 rw [cB,aEw.mpr fe]
 exact aX q
theorem aNU {x:Rat}:decide (x.num = 0) = decide (x = 0):=by
 by_cases c:x = 0
 ·rw [decide_eq_true c,c];rfl
 ·rw [decide_eq_false c]
  exact decide_eq_false fun z=>c (Rat.num_eq_zero.mp z)
theorem aJC {ds:List D} {M:DM} {Q:DQ}:sO [.tup ds] M Q = Q (.int (ds.length:Int)) M:=rfl
inductive Th where
 | pl (p:Pl)
 | ag (n:Nat) (ts:List Th)
 | kp (ts:List Th)
 | ev (ts:List Th)
 | bad (d:D)
mutual
noncomputable def thD:Th->D
 | .pl p=>plD p
 | .ag n ts=>.tup [.str "again",.int (n:Int),.tup (kZ ts)]
 | .kp ts=>.tup [.str "keep",.tup (kZ ts)]
 | .ev ts=>.tup [.str "ever",.tup (kZ ts)]
 | .bad d=>d
noncomputable def kZ:List Th->List D
 | []=>[]
 | t :: ts=>thD t :: kZ ts
end
theorem wV:∀ ts:List Th,kZ ts = ts.map thD
 | []=>by rw [kZ];rfl
 | t :: ts=>by rw [kZ,wV ts,map_cons]
mutual
noncomputable def gdR:Th->Rw
 | .pl p=>.pl p
 | .ag n ts=>.ag n (gdS ts)
 | .kp ts=>.kp (gdS ts)
 | .ev ts=>.ev (gdS ts)
 | .bad _=>.pl .dot
noncomputable def gdS:List Th->List Rw
 | []=>[]
 | t :: ts=>gdR t :: gdS ts
end
mutual
def okT:Th->Prop
 | .pl _=>True
 | .ag _ ts=>okS ts
 | .kp ts=>okS ts
 | .ev ts=>okS ts
 | .bad _=>False
def okS:List Th->Prop
 | []=>True
 | t :: ts=>okT t/\okS ts
end
mutual
theorem aO5:∀ t:Th,okT t->thD t = rwD (gdR t)
 | .pl p,_=>by rw [thD,gdR,rwD]
 | .ag n ts,h=>by rw [okT] at h;rw [thD,gdR,rwD,uZ ts h]
 | .kp ts,h=>by rw [okT] at h;rw [thD,gdR,rwD,uZ ts h]
 | .ev ts,h=>by rw [okT] at h;rw [thD,gdR,rwD,uZ ts h]
 | .bad _,h=>by rw [okT] at h;exact h.elim
theorem uZ:∀ ts:List Th,okS ts->kZ ts = dF (gdS ts)
 | [],_=>by rw [kZ,gdS,dF]
 | t :: ts,h=>by rw [okS] at h;rw [kZ,gdS,dF,aO5 t h.1,uZ ts h.2]
end
def aOQ (m:D):Prop:=(m = .int 13 ∨ m = .int (-1) ∨ m = .bl true) ∨ m = .str "2" ∨ m = .tup [.int 1,.int 1] ∨ m = .int (10 ^ 50)
def aFs (d:D):Prop:=(d = .tup [.str "none"] ∨ d = .int 5) ∨ (∃ m x,d = .tup [.str "again",m,.tup [x]]/\aOQ m) ∨ (∃ x,d = .tup [.str "again",.tup [x]]) ∨ d = .tup [.str "keep"] ∨ (∃ x,d = .tup [.str "keep",.tup [x],.int 1]) ∨ d = .tup [.str "keep",.str "rows"]
noncomputable def isP:Th->Bool
 | .pl _=>true
 | _=>false
noncomputable def isB:Th->Bool
 | .ag _ _=>true
 | .kp _=>true
 | .ev _=>true
 | _=>false
def jH:DSp:=fun ds M Q=>∃ r:Th,ds = [thD r]/\(∀ p,r = .pl p->plV p)/\(∀ d,r = .bad d->aFs d)/\Q (.bl (isP r)) M
noncomputable abbrev iG:Stmt:=top 26
theorem vW:aR ["thing"] ["thing"] (aH iG):=⟨rfl,rfl,rfl,by decide +kernel,rfl,by decide +kernel,by decide +kernel⟩
theorem uI (hF:cE K mg "is_plain_row" iG ["thing"]) (cY:mg "len" = none) (aHn:mg "all" = none) (gZ:Has P w K mg base 101 "is_worded" ["thing"] mD) (bD:Has P w K mg base 101 "numbers_behind" ["word"] dU) (lE:Has P w K mg base 103 "is_fraction" ["thing"] oA) (rA:Has P w K mg base 101 "may_grow" ["number"] vD) (uN:Has P w K mg base 104 "is_bend" ["row"] wZ):Has P w K mg base 105 "is_plain_row" ["thing"] jH:=by
 refine Has.mkZ hF vW (fun ds M Q ⟨_,z,_⟩=>by rw [z];rfl) fun f cdv A outer s H ds M Q E hr h=>?_
 obtain ⟨r,rfl,pv,bv,q⟩:=h
 refine ⟨_,(fJ (aV (dE (eL (eV (cN (aG gZ hr (by decide) (aB (aA 0) aD)))) (eG (aN (fX hr) (aG bD hr (by decide) (aB (aI (aA 0) aC) aD)) (aO nC (cD fV cY (aB (aA 0) aD)) aC))))) (aE (aM lJ)) aU)
  (fJ (aV (eV (cN (cD (aKZ rfl) aHn (aB (aAL (⟨rfl,by decide +kernel,by decide +kernel,by decide +kernel,rfl,by decide +kernel⟩:oW ["thing"] (aH iG) ["number"] [none] _) rfl (qP (aA 0) (gC aC) jU) (fun _ _ _ _ _=>(aS (i:=0) (show Nodup (["number"]:List Str) by decide +kernel))) (fun _ _ _ _ _=>(aG lE hr (by decide) (aB (aA 0) aD)))) aD)))) (aE (aM lJ)) aU)
  (aF (aV (aN (bO hr) (aI (aA 0) aC) aL) (aE (aM (aG rA hr (by decide) (aB (aI (aA 0) aC) aD)))) aU)
  (aF (aV (dE (eL (aN (bO hr) (aI (aA 0) aC) aL) (eG (aN (bO hr) (aI (aA 0) aC) aL)))) (aE (aM (cQ (fX hr) (aI (aI (aA 0) aC) aC) aC))) aU)
  (aE (aM (aBy (cQ (fX hr) (aI (aA 0) aC) aL) (eW (aG uN hr (by decide) (aB (aA 0) aD)))))))))),?_⟩
 cases r with
 | pl p =>
  obtain ⟨pb,pg⟩:=pv p rfl
  rw [show thD (.pl p) = plD p by rw [thD],mX]
  have nl:=aB2 p
  ac_nf
  refine ⟨fun ρ M'=>M' = M/\ρ = [some (.tup (.str (wd p) :: (nu p).map FQ))],⟨_,_,rfl,rfl,ifF rfl ?_⟩,?_⟩
  ·rw [zG]
   ac_nf
   refine ⟨_,rfl,.inl ⟨_,aAS p,?_⟩⟩
   ac_nf
   rw [aJC]
   ac_nf
   rw [cB]
   refine ifF (by rw [decide_eq_true (by rw [length_map];omega)];rfl) ⟨rfl,rfl⟩
  rintro ρ M' ⟨rfl,rfl⟩
  ac_nf
  refine ⟨fun ρ M2=>aZ M' M2/\ρ = [some (.tup (.str (wd p) :: (nu p).map FQ))],?_,?_⟩
  ·rw [yT]
   refine ⟨by rw [length_map];omega,fun i ys M2=>M2 = M'/\ys = (replicate i (D.bl true)),⟨rfl,rfl⟩,fun i ys M2 _ _ a e=>(by cases e),?_,?_⟩
   ·rintro i d ys M2 hd ⟨rfl,rfl⟩
    obtain ⟨x,_,rfl⟩:=List.mem_map.mp (mem_of_getElem? hd)
    ac_nf
    exact ⟨x,rfl,rfl,by rw [List.replicate_succ']⟩
   rintro ys M2 _ ⟨rfl,rfl⟩ pl hpl
   ac_nf
   refine ⟨replicate ((nu p).map FQ).length true,by rw [aJ,List.map_replicate],?_⟩
   rw [show (replicate ((nu p).map FQ).length true).all id = true by simp]
   exact ifF rfl ⟨aZ.new hpl _,rfl⟩
  rintro ρ M2 ⟨sb,rfl⟩
  rw [<- mX]
  cases p with
  | grow a =>
   dsimp only [plD]
   ac_nf
   rw [aK]
   refine ifT (by decide) ⟨a,rfl,?_⟩
   rw [pg a rfl]
   exact ⟨M',sb,q⟩
  | quarter a =>
   dsimp only [plD]
   ac_nf
   rw [aK]
   refine ifF (by decide) ?_
   rw [aK]
   refine ifT (by decide) ?_
   rw [cB,aNU,decide_eq_false pb.2]
   exact ⟨M',sb,q⟩
  | half a =>
   dsimp only [plD]
   ac_nf
   rw [aK]
   refine ifF (by decide) ?_
   rw [aK]
   refine ifF (by decide) ?_
   rw [aK]
   refine ifT (by decide) ?_
   rw [cB,aNU,decide_eq_false pb.2]
   exact ⟨M',sb,q⟩
  | arc a b c d =>
   dsimp only [plD]
   ac_nf
   rw [aK]
   refine ifF (by decide) ?_
   rw [aK]
   refine ifF (by decide) ?_
   rw [aK]
   refine ifF (by decide) ?_
   rw [aK]
   exact ifF (by decide) ⟨a,b,c,d,rfl,pb,M',sb,q⟩
  | _ =>
   dsimp only [plD]
   ac_nf
   rw [aK]
   refine ifF (by decide) ?_
   rw [aK]
   refine ifF (by decide) ?_
   rw [aK]
   refine ifF (by decide) ?_
   rw [aK]
   exact ifT (by decide) ⟨M',sb,q⟩
 | ag n ws =>
  dsimp only [thD]
  ac_nf
  refine ⟨fun _ _=>False,⟨_,_,rfl,rfl,ifF rfl ⟨_,rfl,.inr ⟨by decide,?_⟩⟩⟩,fun _ _ z=>z.elim⟩
  ac_nf
  exact ⟨rfl,rfl,ifT rfl (aX q)⟩
 | kp ws =>
  dsimp only [thD]
  ac_nf
  refine ⟨fun _ _=>False,⟨_,_,rfl,rfl,ifF rfl ⟨_,rfl,.inr ⟨by decide,?_⟩⟩⟩,fun _ _ z=>z.elim⟩
  ac_nf
  exact ⟨rfl,rfl,ifT rfl (aX q)⟩
 | ev ws =>
  dsimp only [thD]
  ac_nf
  refine ⟨fun _ _=>False,⟨_,_,rfl,rfl,ifF rfl ⟨_,rfl,.inr ⟨by decide,?_⟩⟩⟩,fun _ _ z=>z.elim⟩
  ac_nf
  exact ⟨rfl,rfl,ifT rfl (aX q)⟩
 | bad d =>
  rcases bv d rfl with (rfl | rfl) | ⟨m,x,rfl,_⟩ | ⟨x,rfl⟩ | rfl | ⟨x,rfl⟩ | rfl
  case inl.inr =>
   dsimp only [thD]
   ac_nf
   exact ⟨fun _ _=>False,⟨_,_,rfl,rfl,ifT rfl (aX q)⟩,fun _ _ z=>z.elim⟩
  all_goals
   dsimp only [thD]
   ac_nf
   refine ⟨fun _ _=>False,⟨_,_,rfl,rfl,ifF rfl ⟨_,rfl,.inr ⟨by decide,?_⟩⟩⟩,fun _ _ z=>z.elim⟩
   ac_nf
   exact ⟨rfl,rfl,ifT rfl (aX q)⟩
def nU:DSp:=fun ds M Q=>∃ r:Th,ds = [thD r]/\isP r = false/\(∀ n ts,r = .ag n ts->n<=12)/\(∀ d,r = .bad d->aFs d)/\Q (.bl (isB r)) M
noncomputable abbrev qZ:Stmt:=top 29
theorem aCt:aR ["thing"] ["thing"] (aH qZ):=⟨rfl,rfl,rfl,by decide +kernel,rfl,by decide +kernel,by decide +kernel⟩
theorem aA9 (hF:cE K mg "is_block" qZ ["thing"]) (cJ:mg "isinstance" = none) (cV:mg "tuple" = none) (cY:mg "len" = none) (mM:fG K mg "MOST_AGAIN" (.int 12)) (gZ:Has P w K mg base 101 "is_worded" ["thing"] mD) (gW:Has P w K mg base 101 "is_whole" ["thing"] nV):Has P w K mg base 102 "is_block" ["thing"] nU:=by
 refine Has.mkZ hF aCt (fun ds M Q ⟨_,z,_⟩=>by rw [z];rfl) fun f cdv A outer s H ds M Q E hr h=>?_
 obtain ⟨r,rfl,hb,hn,bv,q⟩:=h
 refine ⟨_,(aF (aV (dE (eL (eV (cN (aG gZ hr (by decide) (aB (aA 0) aD)))) (eG (eV (cN (lM (aI (aA 0) (gF aC)) cJ cV)))))) (aE (aM lJ)) aU)
  (aF (aV (aN (bO hr) (aI (aA 0) aC) aL) (aE (aM (eX (cQ (bO hr) (cD fV cY (aB (aA 0) aD)) aC) (eX (aG gW hr (by decide) (aB (aI (aA 0) aC) aD)) (eW (tN uX uX aC (aI (aA 0) aC) (bF mM))))))) aU)
  (aE (aM (eX (cQ (bO hr) (cD fV cY (aB (aA 0) aD)) aC) (eW (aBy (cQ (bO hr) (aI (aA 0) aC) aL) (eW (cQ (bO hr) (aI (aA 0) aC) aL))))))))),?_⟩
 cases r with
 | pl p=>cases hb
 | ag n ws =>
  have:=hn n ws rfl
  dsimp only [thD]
  ac_nf
  refine ⟨_,_,rfl,rfl,ifF rfl (.inl ⟨_,_,rfl,rfl,ifF rfl ?_⟩)⟩
  rw [aK]
  refine ifT (by decide) ?_
  rw [cB]
  refine ifT (by decide) ⟨_,_,rfl,rfl,ifT rfl (ifT (decide_eq_true (by omega)) ?_)⟩
  rw [decide_eq_true (by omega)]
  exact aX q
 | kp ws =>
  dsimp only [thD]
  ac_nf
  refine ⟨_,_,rfl,rfl,ifF rfl (.inl ⟨_,_,rfl,rfl,ifF rfl ?_⟩)⟩
  rw [aK]
  refine ifF (by decide) ?_
  rw [cB]
  refine ifT (by decide) ?_
  rw [aK]
  exact ifT (by decide) (aX q)
 | ev ws =>
  dsimp only [thD]
  ac_nf
  refine ⟨_,_,rfl,rfl,ifF rfl (.inl ⟨_,_,rfl,rfl,ifF rfl ?_⟩)⟩
  rw [aK]
  refine ifF (by decide) ?_
  rw [cB]
  refine ifT (by decide) ?_
  rw [aK]
  refine ifF (by decide) ?_
  rw [aK]
  exact aX q
 | bad d =>
  rcases bv d rfl with (rfl | rfl) | ⟨m,x,rfl,hm⟩ | ⟨x,rfl⟩ | rfl | ⟨x,rfl⟩ | rfl
  ·dsimp only [thD]
   ac_nf
   exact ⟨_,_,rfl,rfl,ifF rfl (.inl ⟨_,_,rfl,rfl,ifT rfl (aX q)⟩)⟩
  ·dsimp only [thD]
   ac_nf
   exact ⟨_,_,rfl,rfl,ifT rfl (aX q)⟩
  ·dsimp only [thD]
   ac_nf
   refine ⟨_,_,rfl,rfl,ifF rfl (.inl ⟨_,_,rfl,rfl,ifF rfl ?_⟩)⟩
   rw [aK]
   refine ifT (by decide) ?_
   rw [cB]
   refine ifT (by decide) ?_
   rcases hm with (rfl | rfl | rfl) | rfl | rfl | rfl
   ·exact ⟨_,_,rfl,rfl,ifT rfl (ifT (by decide) (aX q))⟩
   ·exact ⟨_,_,rfl,rfl,ifT rfl (ifF (by decide) (aX q))⟩
   ·exact ⟨_,_,rfl,rfl,ifF rfl (aX q)⟩
   ·exact ⟨_,_,rfl,rfl,ifF rfl (aX q)⟩
   ·exact ⟨_,_,rfl,rfl,ifF rfl (aX q)⟩
   ·exact ⟨_,_,rfl,rfl,ifT rfl (ifT (by decide) (aX q))⟩
  ·dsimp only [thD]
   ac_nf
   refine ⟨_,_,rfl,rfl,ifF rfl (.inl ⟨_,_,rfl,rfl,ifF rfl ?_⟩)⟩
   rw [aK]
   refine ifT (by decide) ?_
   rw [cB]
   exact ifF (by decide) (aX q)
  all_goals
   dsimp only [thD]
   ac_nf
   exact ⟨_,_,rfl,rfl,ifF rfl (.inl ⟨_,_,rfl,rfl,ifT rfl (aX q)⟩)⟩
noncomputable def isE:Th->Bool
 | .ev _=>true
 | _=>false
noncomputable def lP (r:Th) (ar:List Str):Bool:=decide (ar.length < 4) && !(isE r && ar.any (· == "ever"))
def oF:DSp:=fun ds M Q=>∃ (r:Th) (ar:List Str),ds = [thD r,.tup (ar.map D.str)]/\isB r = true/\Q (.bl (lP r ar)) M
noncomputable abbrev qU:Stmt:=top 64
theorem aCf:aR ["block","around"] ["block","around"] (aH qU):=⟨rfl,rfl,rfl,by decide +kernel,rfl,by decide +kernel,by decide +kernel⟩
theorem aAF (hF:cE K mg "has_room" qU ["block","around"]) (cY:mg "len" = none) (lB:fG K mg "MOST_BLOCKS" (.int 4)):Has P w K mg base 101 "has_room" ["block","around"] oF:=by
 refine Has.mkZ hF aCf (fun ds M Q ⟨_,_,z,_⟩=>by rw [z];rfl) fun f cdv A outer s H ds M Q E hr h=>?_
 obtain ⟨r,ar,rfl,hb,q⟩:=h
 refine ⟨_,(aE (aM (eX (cQ qK (cD fV cY (aB (aA 1) aD)) (bF lB)) (eW (aAY (eX (cQ (bO hr) (aI (aA 0) aC) aL) (eW (cQ aK3 aL (aA 1) rfl)))))))),?_⟩
 unfold lP at q
 ac_nf
 rw [aJC]
 ac_nf
 rw [length_map]
 by_cases c:ar.length < 4
 ·rw [decide_eq_true c,Bool.true_and] at q
  refine ifT (decide_eq_true (by omega)) ?_
  cases r with
  | pl p=>cases hb
  | ag n ws =>
   dsimp only [thD]
   ac_nf
   rw [aK]
   exact ifF (by decide) (aX q)
  | kp ws =>
   dsimp only [thD]
   ac_nf
   rw [aK]
   exact ifF (by decide) (aX q)
  | ev ws =>
   dsimp only [thD]
   ac_nf
   rw [aK]
   exact ifT (by decide) ⟨ar,rfl,aX q⟩
  | bad d=>cases hb
 ·rw [decide_eq_false c,Bool.false_and] at q
  exact ifF (decide_eq_false (by omega)) (aX q)
noncomputable def inT:Th->Option (List Th)
 | .ag _ ts=>some ts
 | .kp ts=>some ts
 | .ev ts=>some ts
 | _=>none
def qV:DSp:=fun ds M Q=>∃ (r:Th) (ts:List Th),ds = [thD r]/\inT r = some ts/\Q (.tup (kZ ts)) M
theorem vT (hF:cE K mg "rows_within" iX ["row"]):Has P w K mg base 101 "rows_within" ["row"] qV:=by
 refine Has.mkZ hF oM (fun ds M Q ⟨_,a,z,_⟩=>by rw [z];rfl) fun f cdv A outer s H ds M Q E hr h=>?_
 obtain ⟨r,ts,rfl,hb,q⟩:=h
 have q':=aX q
 refine ⟨_,(aF (aV (aN (bO hr) (aI (aA 0) aC) aL) (aE (aM (aI (aA 0) aC))) aU)
  (aE (aM (cA (dE (eL (aN (bO hr) (aI (aA 0) aC) aL) (eG (aN (bO hr) (aI (aA 0) aC) aL)))) (aI (aA 0) aC) bL)))),?_⟩
 cases r with
 | pl p=>cases hb
 | bad d=>cases hb
 | ag n ts' =>
  cases hb
  dsimp only [thD]
  ac_nf
  rw [aK]
  exact ifT (by decide) q'
 | kp ts' =>
  cases hb
  dsimp only [thD]
  ac_nf
  rw [aK]
  refine ifF (by decide) ?_
  rw [aK]
  exact ifT (by decide) q'
 | ev ts' =>
  cases hb
  dsimp only [thD]
  ac_nf
  rw [aK]
  refine ifF (by decide) ?_
  rw [aK]
  refine ifF (by decide) ?_
  rw [aK]
  exact ifT (by decide) q'
theorem aMx {p:Pl} (h:plB 100 p):plB 900 p:=by
 have m:∀ {x:Rat},BQ 100 x->BQ 900 x:=fun h=>h.mono (by decide)
 cases p with
 | go a=>exact m h
 | side a b=>exact ⟨m h.1,m h.2⟩
 | skip a=>exact m h
 | grow a=>exact ⟨m h.1,h.2⟩
 | quarter a=>exact ⟨m h.1,h.2⟩
 | half a=>exact ⟨m h.1,h.2⟩
 | arc a b c d=>exact ⟨m h.1,m h.2.1,m h.2.2.1,m h.2.2.2.1,h.2.2.2.2⟩
 | _=>trivial
mutual
def vaR:Rw->Prop
 | .pl p=>plV p
 | .ag n rs=>n<=12/\vaS rs
 | .kp rs=>vaS rs
 | .ev rs=>vaS rs
def vaS:List Rw->Prop
 | []=>True
 | r :: rs=>vaR r/\vaS rs
end
theorem aEb:∀ {rs:List Rw} {r:Rw},vaS rs->r ∈ rs->vaR r
 | x :: xs,r,h,m=>by
  rw [vaS] at h
  rcases List.mem_cons.mp m with rfl | z
  ·exact h.1
  ·exact aEb h.2 z
theorem aDR:∀ {rs:List Rw} {r:Rw},r ∈ rs->drR r = true->drS rs = true
 | x :: xs,r,m,h=>by
  rw [drS]
  rcases List.mem_cons.mp m with rfl | z
  ·rw [h,Bool.true_or]
  ·rw [aDR z h,Bool.or_true]
theorem aBR:∀ {rs:List Rw},(∀ r ∈ rs,drR r = false)->drS rs = false
 | [],_=>by rw [drS]
 | x :: xs,h=>by rw [drS,h x (mem_cons_self ..),aBR fun r hr=>h r (mem_cons_of_mem _ hr)];rfl
def wK (d:Nat):DSp:=fun ds M Q=>∃ rs,ds = [.tup (dF rs)]/\DpS d rs/\vaS rs/\Q (.bl (drS rs)) M
noncomputable abbrev aAy:Stmt:=top 52
theorem sH:aR ["rows","row","within"] ["rows"] (aH aAy):=⟨rfl,rfl,rfl,by decide +kernel,rfl,by decide +kernel,by decide +kernel⟩
theorem aEP (hF:cE K mg "draws" aAy ["rows"]) (bT:Has P w K mg base 101 "rows_within" ["row"] gB) (tY:Has P w K mg base 104 "deed_of" ["row"] xC):Has P w K mg base 118 "draws" ["rows"] (wK 8):=by
 have all:∀ d,Has P w K mg base (110 + d) "draws" ["rows"] (wK d):=fun d=>by
  induction d with
  | zero=>exact (Has.never hF sH 109).imp fun ds M Q ⟨rs,_,z,_⟩=>z
  | succ d rX =>
   refine Has.mkZ (k:=110 + d) hF sH (fun ds M Q ⟨a,z,_⟩=>by rw [z];rfl) fun f cdv A outer s H ds M Q E hr h=>?_
   obtain ⟨rs,rfl,dp,va,q⟩:=h
   refine ⟨_,(aF (jY PassesOwn.never rfl (aA 0) (aS (i:=1) sH.nd) (aF (aP (i:=2) sH.nd (aG bT hr (by omega) (aB (aA 1) aD)))
  (aE (aV (aN lS (aA 2) bL) (aE (aV (aN aCq (aI (aG tY hr (by omega) (aB (aA 1) aD)) aC) bL) (aE (aM lJ)) aU)) (aE (aV (dE (eI (cN (aG rX hr (by omega) (aB (aA 2) aD))) (dA (dE (eL (aN (fX hr) (aI (aA 1) aC) aL) (eG (aN kT (aI (aA 1) aC) aC))))))) (aE (aM lJ)) aU))))))
  (aE (aM lJ))),?_⟩
   ac_nf
   refine ⟨fun i ρ M'=>M' = M/\(∀ r ∈ rs.take i,drR r = false)/\∃ o1 o2,ρ = [some (.tup (dF rs)),o1,o2],⟨rfl,(by rw [take_zero];intro r hr;cases hr),_,_,rfl⟩,fun i ρ M' _ _ a e=>(by cases e),?_,?_⟩
   ·rintro i d1 ρ M' hd ⟨rfl,no,o1,o2,rfl⟩
    obtain ⟨r,hr',rfl⟩:=oU hd
    have mr:=mem_of_getElem? hr'
    have dr:=dp.2 r mr
    have vr:=aEb va mr
    ac_nf
    refine ⟨r,rfl,?_⟩
    have next:drR r = false->∀ x ∈ rs.take (i + 1),drR x = false:=fun h x hx=>by
     rw [iE hr'] at hx
     rcases List.mem_append.mp hx with z | z
     ·exact no x z
     ·rw [List.mem_singleton.mp z];exact h
    have yes:drR r = true->Dn Q (.bl true) M':=fun h=>by rw [aDR mr h] at q;exact aX q
    cases r with
    | pl p =>
     rw [vaR] at vr
     rw [drR] at next yes
     dsimp only [inR]
     ac_nf
     refine ifT rfl ⟨p,by rw [rwD],trivial,aMx vr.1,?_⟩
     cases hl:aHb p with
     | none =>
      rw [hl] at next
      dsimp only [lgO]
      ac_nf
      exact ifF rfl ⟨rfl,next rfl,_,_,rfl⟩
     | some l =>
      rw [hl] at yes
      dsimp only [lgO]
      ac_nf
      have z:∀ l,∃ ds,lgD l = .tup ds:=fun l=>by cases l<;>exact ⟨_,rfl⟩
      obtain ⟨ds,e⟩:=z l
      rw [e]
      ac_nf
      exact ifT rfl (yes rfl)
    | ag n ws =>
     obtain ⟨hn,dw⟩:=vI dr
     rw [vaR] at vr
     rw [drR] at next yes
     dsimp only [inR]
     ac_nf
     refine ifF rfl ⟨ws,rfl,dw,vr.2,?_⟩
     dsimp only [rwD]
     ac_nf
     cases hd:drS ws with
     | false =>
      rw [hd,Bool.and_false] at next
      exact ifF rfl ⟨rfl,next rfl,_,_,rfl⟩
     | true =>
      rw [hd,Bool.and_true] at next yes
      refine ifT rfl ?_
      rw [aK]
      refine ifF (by decide) ?_
      by_cases c:n = 0
      ·rw [c] at next
       exact ifF (decide_eq_false (by omega)) ⟨rfl,next rfl,_,_,rfl⟩
      ·exact ifT (decide_eq_true (by omega)) (yes (by simp [c]))
    | kp ws =>
     have dw:=xZ dr
     rw [vaR] at vr
     rw [drR] at next yes
     dsimp only [inR]
     ac_nf
     refine ifF rfl ⟨ws,rfl,dw,vr,?_⟩
     dsimp only [rwD]
     ac_nf
     cases hd:drS ws with
     | false=>exact ifF rfl ⟨rfl,next hd,_,_,rfl⟩
     | true =>
      refine ifT rfl ?_
      rw [aK]
      exact ifT (by decide) (yes hd)
    | ev ws =>
     have dw:=aCw dr
     rw [vaR] at vr
     rw [drR] at next yes
     dsimp only [inR]
     ac_nf
     refine ifF rfl ⟨ws,rfl,dw,vr,?_⟩
     dsimp only [rwD]
     ac_nf
     cases hd:drS ws with
     | false=>exact ifF rfl ⟨rfl,next hd,_,_,rfl⟩
     | true =>
      refine ifT rfl ?_
      rw [aK]
      exact ifT (by decide) (yes hd)
   ·rintro ρ M' ⟨rfl,no,o1,o2,rfl⟩
    rw [lX,take_length] at no
    rw [aBR no] at q
    exact aX q
 exact all 8
theorem aML {p s k A:Nat} (p1:1<=p) (s1:1<=s) (k0:0 < k) (e:p * s ^ k = A):p<=A/\s<=A:=by
 have h1:1<=s ^ k:=Nat.pow_pos s1
 have h2:s<=s ^ k:=by
  cases k with
  | zero=>omega
  | succ k =>
   have:1<=s ^ k:=Nat.pow_pos s1
   rw [Nat.pow_succ]
   exact Nat.le_mul_of_pos_left _ this
 rw [<- e]
 exact ⟨Nat.le_mul_of_pos_right _ h1,Nat.le_trans h2 (Nat.le_mul_of_pos_left _ p1)⟩
def nK:DSp:=fun ds M Q=>∃ a n:Nat,ds = [.int (a:Int),.int (n:Int)]/\1<=a/\Bd 100000 ((a ^ n:Nat):Int)/\Q (.int ((a ^ n:Nat):Int)) M
noncomputable abbrev kG:Stmt:=top 54
theorem dW:aR ["number","n","product","square","left"] ["number","n"] (aH kG):=⟨rfl,rfl,rfl,by decide +kernel,rfl,by decide +kernel,by decide +kernel⟩
theorem tU (hF:cE K mg "raised_whole" kG ["number","n"]):Has P w K mg base 101 "raised_whole" ["number","n"] nK:=by
 refine Has.mkZ hF dW (fun ds M Q ⟨_,_,z,_⟩=>by rw [z];rfl) fun f cdv A outer s H ds M Q E hr h=>?_
 obtain ⟨a,n,rfl,a1,bd,q⟩:=h
 refine ⟨_,(aF (aP (i:=2) dW.nd aC)
  (aF (aP (i:=3) dW.nd (aA 0))
  (aF (aP (i:=4) dW.nd (aA 1))
  (aF (pM PassesOwn.never (aN kT (aA 4) aC) (aF (aV (aN (bO hr) (aO dO (aA 4) aC) aC) (aE (aP (i:=2) dW.nd (aO bW (aA 2) (aA 3)))) aU)
  (aF (aP (i:=4) dW.nd (aO dS (aA 4) aC))
  (aE (aV (aN kT (aA 4) aC) (aE (aP (i:=3) dW.nd (aO bW (aA 3) (aA 3)))) aU)))))
  (aE (aM (aA 2))))))),?_⟩
 ac_nf
 generalize eA:a ^ n = A at bd q
 refine pO (fun m ρ M'=>M' = M/\∃ p s:Nat,(1<=p/\1<=s)/\p * s ^ m = A/\ρ = [some (.int (a:Int)),some (.int (n:Int)),some (.int (p:Int)),some (.int (s:Int)),some (.int (m:Int))]) n ⟨rfl,1,a,⟨by decide,a1⟩,by rw [Nat.one_mul];exact eA,rfl⟩ ?_
 rintro m ρ M' ⟨rfl,p,s,⟨p1,s1⟩,e,rfl⟩
 ac_nf
 by_cases c:0 < m
 ·refine ifT (decide_eq_true (by omega)) ?_
  obtain ⟨lp,ls⟩:=aML p1 s1 c e
  have bp:Bd 100000 (p:Int):=Nat.lt_of_le_of_lt lp bd
  have bs:Bd 100000 (s:Int):=Nat.lt_of_le_of_lt ls bd
  have em:(m:Int).fmod 2 = ((m % 2:Nat):Int):=by rw [Int.fmod_eq_emod_of_nonneg _ (by decide)];rfl
  have ed:(m:Int).fdiv 2 = ((m / 2:Nat):Int):=by rw [Int.fdiv_eq_ediv_of_nonneg _ (by decide)];rfl
  have cfd:CFd (m:Int) 2:=⟨by decide,by decide⟩
  have ev:∀ p':Nat,p' * s ^ (2 * (m / 2)) = A->p' * (s * s) ^ (m / 2) = A:=fun p' h=>by
   rw [<- Nat.pow_two,<- Nat.pow_mul];exact h
  have ss:1<=s * s:=Nat.mul_pos s1 s1
  rw [em,ed,cB]
  by_cases od:m % 2 = 1
  ·have e1:p * s * s ^ (2 * (m / 2)) = A:=by
    rw [Nat.mul_assoc,<- Nat.pow_succ',show (2 * (m / 2)).succ = m by omega];exact e
   refine ⟨by decide,ifT (decide_eq_true (by omega)) ⟨cZ bp bs,cfd,?_⟩⟩
   by_cases c2:0 < m / 2
   ·exact ifT (decide_eq_true (by omega)) ⟨cZ bs bs,m / 2,by omega,rfl,p * s,s * s,⟨Nat.mul_pos p1 s1,ss⟩,ev _ e1,by rw [Int.natCast_mul,Int.natCast_mul]⟩
   ·have z:m / 2 = 0:=by omega
    rw [z] at e1
    exact ifF (decide_eq_false (by omega)) ⟨m / 2,by omega,rfl,p * s,s,⟨Nat.mul_pos p1 s1,s1⟩,by rw [z];exact e1,by rw [Int.natCast_mul]⟩
  ·have e1:p * s ^ (2 * (m / 2)) = A:=by rw [show 2 * (m / 2) = m by omega];exact e
   have c2:0 < m / 2:=by omega
   exact ⟨by decide,ifF (decide_eq_false (by omega)) ⟨cfd,ifT (decide_eq_true (by omega)) ⟨cZ bs bs,m / 2,by omega,rfl,p,s * s,⟨p1,ss⟩,ev _ e1,by rw [Int.natCast_mul]⟩⟩⟩
 ·refine ifF (decide_eq_false (by omega)) ?_
  obtain rfl:m = 0:=by omega
  rw [Nat.pow_zero,Nat.mul_one] at e
  rw [e]
  exact aX q
theorem aIl (x:Rat) (n:Nat):(x ^ n).num = x.num ^ n/\(x ^ n).den = x.den ^ n:=⟨Rat.num_pow x n,Rat.den_pow x n⟩
def aAh:DSp:=fun ds M Q=>∃ (x:Rat) (n:Nat),ds = [FQ x,.int (n:Int)]/\0 < x/\BQ 100000 (x ^ n)/\Q (FQ (x ^ n)) M
noncomputable abbrev yF:Stmt:=top 55
theorem aE0:aR ["number","n"] ["number","n"] (aH yF):=⟨rfl,rfl,rfl,by decide +kernel,rfl,by decide +kernel,by decide +kernel⟩
theorem aDa (hF:cE K mg "raised" yF ["number","n"]) (fC:Has P w K mg base 101 "raised_whole" ["number","n"] nK):Has P w K mg base 102 "raised" ["number","n"] aAh:=by
 refine Has.mkZ hF aE0 (fun ds M Q ⟨_,_,z,_⟩=>by rw [z];rfl) fun f cdv A outer s H ds M Q E hr h=>?_
 obtain ⟨x,n,rfl,x0,⟨b1,b2⟩,q⟩:=h
 refine ⟨_,(aF (aV (aN qK (aA 1) aC) (aE (aM (aQ (aB (aG fC hr (by decide) (aB (aI (aA 0) aC) (aB (gF (aA 1)) aD))) (aB (aG fC hr (by decide) (aB (aI (aA 0) aC) (aB (gF (aA 1)) aD))) aD))))) aU)
  (aE (aM (aQ (aB (aG fC hr (by decide) (aB (aI (aA 0) aC) (aB (aA 1) aD))) (aB (aG fC hr (by decide) (aB (aI (aA 0) aC) (aB (aA 1) aD))) aD)))))),?_⟩
 obtain ⟨e1,e2⟩:=aIl x n
 have xn:0 < x.num:=aIS.mpr x0
 have xd:=x.den_pos
 have k1:((x.num.toNat:Nat):Int) = x.num:=Int.toNat_of_nonneg (by omega)
 have k2:((x.num.toNat ^ n:Nat):Int) = (x ^ n).num:=by rw [e1,Int.natCast_pow,k1]
 have k3:((x.den ^ n:Nat):Int) = ((x ^ n).den:Int):=by rw [e2]
 rw [show FQ x = D.tup [.int ((x.num.toNat:Nat):Int),.int ((x.den:Nat):Int)] by rw [k1];rfl]
 ac_nf
 refine ifF (decide_eq_false (by omega)) ⟨x.num.toNat,n,rfl,by omega,by rw [k2];exact b1,?_⟩
 ac_nf
 refine ⟨x.den,n,rfl,by omega,by rw [k3];exact b2,?_⟩
 ac_nf
 rw [k2,k3]
 exact ⟨by decide,aX q⟩
def mJ (d:Nat):DSp:=fun ds M Q=>∃ rs,ds = [.tup (dF rs)]/\DpS d rs/\loS rs/\Q (FQ (szS rs)) M
noncomputable abbrev oV:Stmt:=top 66
theorem gE:aR ["rows","size","row"] ["rows"] (aH oV):=⟨rfl,rfl,rfl,by decide +kernel,rfl,by decide +kernel,by decide +kernel⟩
theorem zH (hF:cE K mg "move_size" oV ["rows"]) (kD:fG K mg "ONE" aDx) (w_times:Has P w K mg base 102 "times" ["one","other"] pR) (yS:Has P w K mg base 102 "raised" ["number","n"] aAh):Has P w K mg base 118 "move_size" ["rows"] (mJ 8):=by
 have h_times:=w_times
 have all:∀ d,Has P w K mg base (110 + d) "move_size" ["rows"] (mJ d):=fun d=>by
  induction d with
  | zero=>exact (Has.never hF gE 109).imp fun ds M Q ⟨rs,_,z,_⟩=>z
  | succ d jD =>
   refine Has.mkZ (k:=110 + d) hF gE (fun ds M Q ⟨a,z,_⟩=>by rw [z];rfl) fun f cdv A outer s H ds M Q E hr h=>?_
   obtain ⟨rs,rfl,dp,⟨gw,dn,one⟩,q⟩:=h
   refine ⟨_,(aF (aP (i:=1) gE.nd (bF kD))
  (aF (jY PassesOwn.never rfl (aA 0) (aS (i:=2) gE.nd) (aE (aV (aN (bO hr) (aI (aA 2) aC) aL) (aE (aP (i:=1) gE.nd (aG h_times hr (by omega) (aB (aA 1) (aB (aI (aA 2) aC) aD))))) (aE (aV (aN (bO hr) (aI (aA 2) aC) aL) (aE (aP (i:=1) gE.nd (aG h_times hr (by omega) (aB (aA 1) (aB (aG yS hr (by omega) (aB (aG jD hr (by omega) (aB (aI (aA 2) aC) aD)) (aB (aI (aA 2) aC) aD))) aD))))) aU)))))
  (aE (aM (aA 1))))),?_⟩
   ac_nf
   refine ⟨fun i ρ M'=>M' = M/\∃ o1,ρ = [some (.tup (dF rs)),some (FQ (szS (rs.take i))),o1],⟨rfl,_,rfl⟩,fun i ρ M' _ _ a e=>(by cases e),?_,?_⟩
   ·rintro i d1 ρ M1 hd ⟨rfl,o1,rfl⟩
    obtain ⟨r,hr',rfl⟩:=oU hd
    have dr:=dp.2 r (mem_of_getElem? hr')
    have gr:=aFl gw (mem_of_getElem? hr')
    have on:=one r (mem_of_getElem? hr')
    have gt:wS (rs.take i):=(aGf.mp (by rw [List.take_append_drop];exact gw)).1
    have zt:=aCm _ gt
    have zr:=aJo r gr
    have fin:szS (rs.take (i + 1)) = szS (rs.take i) * szR r:=by rw [iE hr',aEc,szS,szS,Rat.mul_one]
    have fdn:dnS (rs.take (i + 1)) = dnS (rs.take i) + dnR r:=by rw [iE hr',sE,dnS,dnS,Nat.add_zero]
    have ldn:dnS (rs.take (i + 1))<=dnS rs:=by
     have:=sE (rs.take (i + 1)) (rs.drop (i + 1))
     rw [List.take_append_drop] at this
     omega
    ac_nf
    rw [fin]
    cases r with
    | pl p =>
     rcases aIx p with ⟨a,rfl⟩ | ⟨w0,cT,e,w1,w2,e1⟩
     ·dsimp only [rwD,plD]
      rw [dnR,szR] at zr
      rw [szR]
      rw [dnR] at fdn
      ac_nf
      rw [aK]
      exact ifT (by decide) (aMZ zt zr (.inr (by decide)) (by omega) ⟨rfl,_,rfl⟩)
     ·dsimp only [rwD]
      rw [e,e1,Rat.mul_one]
      ac_nf
      rw [zG]
      ac_nf
      rw [aK]
      refine ifF (decide_eq_false w1) ?_
      rw [aK]
      exact ifF (decide_eq_false w2) ⟨rfl,_,rfl⟩
    | ag n ws =>
     obtain ⟨hn,dw⟩:=vI dr
     have lo:=aJJ gr
     rw [wR] at gr
     have zw:=aCm _ gr.1
     rw [dnR] at fdn zr on
     rw [szR] at zr ⊢
     dsimp only [rwD]
     ac_nf
     rw [aK]
     refine ifF (by decide) ?_
     rw [aK]
     refine ifT (by decide) ⟨ws,rfl,dw,lo,?_⟩
     ac_nf
     refine ⟨_,n,rfl,zw.pos',zr.bq.mono (by omega),?_⟩
     ac_nf
     exact aMZ zt zr (by omega) (by omega) ⟨rfl,_,rfl⟩
    | kp ws =>
     rw [szR,Rat.mul_one]
     dsimp only [rwD]
     ac_nf
     rw [aK]
     refine ifF (by decide) ?_
     rw [aK]
     exact ifF (by decide) ⟨rfl,_,rfl⟩
    | ev ws =>
     rw [szR,Rat.mul_one]
     dsimp only [rwD]
     ac_nf
     rw [aK]
     refine ifF (by decide) ?_
     rw [aK]
     exact ifF (by decide) ⟨rfl,_,rfl⟩
   ·rintro ρ M' ⟨rfl,o1,rfl⟩
    rw [lX,take_length]
    exact aX q
 exact all 8
noncomputable def q34:D:=.tup [.int 3,.int 4]
theorem aJT:q34 = FQ (3 / 4):=by
 unfold q34 FQ
 rw [show (3 / 4:Rat).num = 3 by decide +kernel,show (3 / 4:Rat).den = 4 by decide +kernel];rfl
theorem aO4 (x:Rat):(!decide ((3 / 4:Rat) < x)) = decide (4 * x.num<=3 * (x.den:Int)):=by
 have h:=ltQ (3 / 4) x
 rw [show (3 / 4:Rat).num = 3 by decide +kernel,show (3 / 4:Rat).den = 4 by decide +kernel] at h
 by_cases c:(3 / 4:Rat) < x
 ·rw [decide_eq_true c]
  have:=h.mpr c
  exact (decide_eq_false (by omega)).symm
 ·rw [decide_eq_false c]
  have:¬ 3 * (x.den:Int) < x.num * ((4:Nat):Int):=fun z=>c (h.mp z)
  exact (decide_eq_true (by omega)).symm
def mL:DSp:=fun ds M Q=>∃ rs,ds = [.tup (dF rs)]/\DpS 8 rs/\vaS rs/\(dnS rs<=300->loS rs)/\Q (.bl (enB rs)) M
noncomputable abbrev oO:Stmt:=top 65
theorem tG:aR ["rows","size"] ["rows"] (aH oO):=⟨rfl,rfl,rfl,by decide +kernel,rfl,by decide +kernel,by decide +kernel⟩
theorem zF (hF:cE K mg "can_go_on" oO ["rows"]) (iM:fG K mg "MOST_IN_A_ROUND" (.int 300)) (kD:fG K mg "ONE" aDx) (kL:fG K mg "LEAST_CHANGE" (.tup [.int 3,.int 4])) (fK:Has P w K mg base 118 "how_many_done" ["rows"] (aA2 8)) (rX:Has P w K mg base 118 "draws" ["rows"] (wK 8)) (jD:Has P w K mg base 118 "move_size" ["rows"] (mJ 8)) (aBB:Has P w K mg base 101 "below" ["one","other"] aB7):Has P w K mg base 119 "can_go_on" ["rows"] mL:=by
 refine Has.mkZ hF tG (fun ds M Q ⟨_,z,_⟩=>by rw [z];rfl) fun f cdv A outer s H ds M Q E hr h=>?_
 obtain ⟨rs,rfl,dp,va,lo,q⟩:=h
 refine ⟨_,(aF (aV (dE (eL (aN kT (aG fK hr (by decide) (aB (aA 0) aD)) (bF iM)) (eG (eV (cN (aG rX hr (by decide) (aB (aA 0) aD))))))) (aE (aM lJ)) aU)
  (aF (aP (i:=1) tG.nd (aG jD hr (by decide) (aB (aA 0) aD)))
  (aE (aM (aBy (cQ (bO hr) (aA 1) (bF kD)) (eW (aAY (aG aBB hr (by decide) (aB (bF kL) (aB (aA 1) aD)))))))))),?_⟩
 unfold enB at q
 ac_nf
 refine ⟨rs,rfl,dp,?_⟩
 ac_nf
 by_cases c:dnS rs<=300
 ·rw [decide_eq_true c,Bool.true_and] at q
  refine ifF (decide_eq_false (by omega)) ⟨rs,rfl,dp,va,?_⟩
  ac_nf
  cases hd:drS rs with
  | false =>
   rw [hd,Bool.and_false] at q
   exact ifT rfl (aX q)
  | true =>
   rw [hd,Bool.and_true] at q
   have lo:=lo c
   refine ifF rfl ⟨rs,rfl,dp,lo,?_⟩
   ac_nf
   rw [show aDx = FQ 1 from rfl,aF9]
   by_cases c1:szS rs = 1
   ·rw [decide_eq_true c1,Bool.true_or] at q
    exact ifT (decide_eq_true c1) (aX q)
   ·rw [decide_eq_false c1,Bool.false_or] at q
    rw [show (D.tup [.int 3,.int 4]) = FQ (3 / 4) from aJT]
    refine ifF (decide_eq_false c1) ⟨_,_,4,_,rfl,trivial,⟨by unfold Bd;decide +kernel,by unfold Bd;decide +kernel⟩,(aCm _ lo.1).bq,by omega,?_⟩
    ac_nf
    rw [aO4]
    exact aX q
 ·rw [decide_eq_false c,Bool.false_and] at q
  exact ifT (decide_eq_true (by omega)) (aX q)
theorem aCF (ts:List Th):(kZ ts).length = ts.length:=by rw [wV,length_map]
theorem aB0 {ts:List Th} {i:Nat} {d:D} (h:(kZ ts)[i]? = some d):∃ r,ts[i]? = some r/\d = thD r:=by
 rw [wV,getElem?_map] at h
 cases e:ts[i]? with
 | none=>rw [e] at h;cases h
 | some r=>rw [e] at h;cases h;exact ⟨r,rfl,rfl⟩
theorem aEf:∀ ts:List Th,gdS ts = ts.map gdR
 | []=>by rw [gdS];rfl
 | t :: ts=>by rw [gdS,aEf ts,map_cons]
theorem aCX {ts:List Th} {r:Th} (h:r ∈ ts):gdR r ∈ gdS ts:=by rw [aEf];exact mem_map_of_mem h
noncomputable def lkB (r:Th) (ws:List Th) (a:Int) (ar:List Str) (z:Int ⊕ Int):Int ⊕ Int :=
 if lP r ar then match z with
  | .inl b=>if isE r && !enB (gdS ws) then .inr a else .inl (b + 1)
  | .inr c=>.inr c
 else .inr a
mutual
noncomputable def lkR:Th->Int->List Str->Int ⊕ Int
 | .pl _,a,_=>.inl (a + 1)
 | .ag n ws,a,ar=>lkB (.ag n ws) ws a ar (lkS ws (a + 1) (ar ++ [("again":Str)]))
 | .kp ws,a,ar=>lkB (.kp ws) ws a ar (lkS ws (a + 1) (ar ++ [("keep":Str)]))
 | .ev ws,a,ar=>lkB (.ev ws) ws a ar (lkS ws (a + 1) (ar ++ [("ever":Str)]))
 | .bad _,a,_=>.inr a
noncomputable def lkS:List Th->Int->List Str->Int ⊕ Int
 | [],a,_=>.inl a
 | r :: rs,a,ar=>match lkR r a ar with
  | .inl b=>lkS rs b ar
  | .inr c=>.inr c
end
theorem aBs:∀ (xs ys:List Th) (a:Int) (ar:List Str),lkS (xs ++ ys) a ar = match lkS xs a ar with | .inl b=>lkS ys b ar | .inr c=>.inr c
 | [],ys,a,ar=>by rw [nil_append,lkS]
 | x :: xs,ys,a,ar=>by
  rw [cons_append,lkS,lkS]
  cases lkR x a ar with
  | inl b=>exact aBs xs ys b ar
  | inr c=>rfl
theorem aG1 {rs:List Th} {i:Nat} {r:Th} {a b:Int} {ar:List Str} (hr:rs[i]? = some r) (h:lkS (rs.take i) a ar = .inl b):lkS (rs.take (i + 1)) a ar = lkR r b ar:=by
 rw [iE hr,aBs,h]
 dsimp only
 rw [lkS]
 cases lkR r b ar with
 | inl c=>dsimp only;rw [lkS]
 | inr c=>rfl
theorem aJr {rs:List Th} {i:Nat} {r:Th} {a b:Int} {ar:List Str} (hr:rs[i]? = some r) (h:lkS (rs.take i) a ar = .inl b) {c:Int} (hc:lkR r b ar = .inr c):lkS rs a ar = .inr c:=by
 rw [<- List.take_append_drop (i + 1) rs,aBs,aG1 hr h,hc]
theorem aM4 {rs:List Th} {i:Nat} {r:Th} {a b z:Int} {ar:List Str} (hr:rs[i]? = some r) (h:lkS (rs.take i) a ar = .inl b) (hz:lkS rs a ar = .inl z):∃ c,lkR r b ar = .inl c:=by
 cases hc:lkR r b ar with
 | inl c=>exact ⟨c,rfl⟩
 | inr c=>rw [aJr hr h hc] at hz;cases hz
theorem jJ {r:Th} {ws:List Th} {a c:Int} {ar:List Str} {z:Int ⊕ Int} (h:lkB r ws a ar z = .inl c):lP r ar = true/\(isE r && !enB (gdS ws)) = false/\z = .inl (c - 1):=by
 unfold lkB at h
 cases hr:lP r ar with
 | false=>rw [hr] at h;cases h
 | true =>
  rw [hr,if_pos rfl] at h
  cases z with
  | inr c=>cases h
  | inl b =>
   dsimp only at h
   cases he:isE r && !enB (gdS ws) with
   | true=>rw [he] at h;cases h
   | false =>
    rw [he] at h
    refine ⟨rfl,rfl,?_⟩
    have:b + 1 = c:=Sum.inl.inj h
    rw [<- this];congr 1;omega
noncomputable def evI (ar:List Str):Bool:=ar.any (· == "ever")
theorem aBu (ar:List Str) (x:Str):evI (ar ++ [x]) = (evI ar || (x == "ever")):=by
 unfold evI;rw [List.any_append,any_cons,any_nil,Bool.or_false]
mutual
def vaT:Th->Prop
 | .pl p=>plV p
 | .ag n ts=>n<=12/\mI ts
 | .kp ts=>mI ts
 | .ev ts=>mI ts
 | .bad d=>aFs d/\bR 30 d = true
def mI:List Th->Prop
 | []=>True
 | t :: ts=>vaT t/\mI ts
end
theorem yL:∀ {rs:List Th} {r:Th},mI rs->r ∈ rs->vaT r
 | x :: xs,r,h,m=>by
  rw [mI] at h
  rcases List.mem_cons.mp m with rfl | z
  ·exact h.1
  ·exact yL h.2 z
mutual
theorem aOp:∀ t:Th,vaT t->vaR (gdR t)
 | .pl p,h=>by rw [vaT] at h;rw [gdR,vaR];exact h
 | .ag n ts,h=>by rw [vaT] at h;rw [gdR,vaR];exact ⟨h.1,tT ts h.2⟩
 | .kp ts,h=>by rw [vaT] at h;rw [gdR,vaR];exact tT ts h
 | .ev ts,h=>by rw [vaT] at h;rw [gdR,vaR];exact tT ts h
 | .bad d,_=>by rw [gdR,vaR];exact ⟨trivial,fun _ e=>by cases e⟩
theorem tT:∀ ts:List Th,mI ts->vaS (gdS ts)
 | [],_=>by rw [gdS,vaS];trivial
 | t :: ts,h=>by rw [mI] at h;rw [gdS,vaS];exact ⟨aOp t h.1,tT ts h.2⟩
end
mutual
theorem aLm:∀ (t:Th) (a:Int) (ar:List Str) (b:Int),lkR t a ar = .inl b->okT t
 | .pl _,_,_,_,_=>by rw [okT];trivial
 | .ag n ts,a,ar,b,h=>by rw [lkR] at h;rw [okT];exact rO ts _ _ _ (jJ h).2.2
 | .kp ts,a,ar,b,h=>by rw [lkR] at h;rw [okT];exact rO ts _ _ _ (jJ h).2.2
 | .ev ts,a,ar,b,h=>by rw [lkR] at h;rw [okT];exact rO ts _ _ _ (jJ h).2.2
 | .bad _,_,_,_,h=>by rw [lkR] at h;cases h
theorem rO:∀ (ts:List Th) (a:Int) (ar:List Str) (b:Int),lkS ts a ar = .inl b->okS ts
 | [],_,_,_,_=>by rw [okS];trivial
 | t :: ts,a,ar,b,h=>by
  rw [lkS] at h
  rw [okS]
  cases e:lkR t a ar with
  | inl c=>rw [e] at h;exact ⟨aLm t a ar c e,rO ts c ar b h⟩
  | inr c=>rw [e] at h;cases h
end
mutual
def boR:Th->Prop
 | .pl _=>True
 | .ag _ ws=>boS ws
 | .kp ws=>boS ws
 | .ev ws=>boS ws/\∀ a ar b,evI ar = true->lkS ws a ar = .inl b->dnS (gdS ws)<=300->loS (gdS ws)
 | .bad _=>True
def boS:List Th->Prop
 | []=>True
 | r :: rs=>boR r/\boS rs
end
theorem aBD:∀ {rs:List Th} {r:Th},boS rs->r ∈ rs->boR r
 | x :: xs,r,h,m=>by
  rw [boS] at h
  rcases List.mem_cons.mp m with rfl | z
  ·exact h.1
  ·exact aBD h.2 z
theorem pU {r:Th} {ar:List Str} (h:lP r ar = true):ar.length < 4:=by
 unfold lP at h
 exact of_decide_eq_true (Bool.and_eq_true_iff.mp h).1
def LkD (d:Nat) (ar:List Str) (rs:List Th):Prop:=(ar.length<=4/\5<=d + ar.length)/\hmS (gdS rs)<=900
theorem aAw:∀ {rs:List Rw} {r:Rw},r ∈ rs->hmR r<=hmS rs
 | x :: xs,r,m=>by
  rw [hmS]
  rcases List.mem_cons.mp m with rfl | z
  ·omega
  ·have:=aAw z;omega
theorem LkD.go {d:Nat} {ar:List Str} {rs ws:List Th} {r:Th} (h:LkD (d + 1) ar rs) (m:r ∈ rs) (e:hmR (gdR r) = 1 + hmS (gdS ws)) (l:ar.length < 4) (x:Str):LkD d (ar ++ [x]) ws:=by
 have:=aAw (aCX m)
 obtain ⟨⟨h1,h2⟩,h3⟩:=h
 unfold LkD
 rw [length_append,length_singleton]
 exact ⟨⟨by omega,by omega⟩,by omega⟩
theorem rT:∀ rs:List Rw,rs.length<=hmS rs
 | []=>Nat.zero_le _
 | r :: rs=>by
  rw [hmS,length_cons]
  have:=rT rs
  have:1<=hmR r:=by cases r<;>rw [hmR]<;>omega
  omega
theorem aGX {r:Th} {ar:List Str} (h:lP r ar = true):ar.length < 4:=by
 unfold lP at h
 exact of_decide_eq_true (Bool.and_eq_true_iff.mp h).1
mutual
theorem aJU:∀ (t:Th) (a:Int) (ar:List Str) (b:Int),lkR t a ar = .inl b->vaT t->hmR (gdR t)<=900->Dp (4 - ar.length) (gdR t)
 | .pl p,a,ar,b,_,_,_=>by rw [gdR];cases 4 - ar.length<;>trivial
 | .ag n ws,a,ar,b,h,v,m=>by
  rw [lkR] at h;rw [vaT] at v;rw [gdR] at m ⊢;rw [hmR] at m
  obtain ⟨k1,_,k3⟩:=jJ h
  have l4:=aGX k1
  have ih:=tK ws _ _ _ k3 v.2 (by omega)
  rw [length_append,length_singleton] at ih
  have:=rT (gdS ws)
  obtain ⟨k,ek⟩:∃ k,4 - ar.length = k + 1:=⟨3 - ar.length,by omega⟩
  rw [show 4 - (ar.length + 1) = k by omega] at ih
  rw [ek]
  exact ⟨by omega,by omega,ih⟩
 | .kp ws,a,ar,b,h,v,m=>by
  rw [lkR] at h;rw [vaT] at v;rw [gdR] at m ⊢;rw [hmR] at m
  obtain ⟨k1,_,k3⟩:=jJ h
  have l4:=aGX k1
  have ih:=tK ws _ _ _ k3 v (by omega)
  rw [length_append,length_singleton] at ih
  have:=rT (gdS ws)
  obtain ⟨k,ek⟩:∃ k,4 - ar.length = k + 1:=⟨3 - ar.length,by omega⟩
  rw [show 4 - (ar.length + 1) = k by omega] at ih
  rw [ek]
  exact ⟨by omega,ih⟩
 | .ev ws,a,ar,b,h,v,m=>by
  rw [lkR] at h;rw [vaT] at v;rw [gdR] at m ⊢;rw [hmR] at m
  obtain ⟨k1,_,k3⟩:=jJ h
  have l4:=aGX k1
  have ih:=tK ws _ _ _ k3 v (by omega)
  rw [length_append,length_singleton] at ih
  have:=rT (gdS ws)
  obtain ⟨k,ek⟩:∃ k,4 - ar.length = k + 1:=⟨3 - ar.length,by omega⟩
  rw [show 4 - (ar.length + 1) = k by omega] at ih
  rw [ek]
  exact ⟨by omega,ih⟩
 | .bad d,a,ar,b,h,_,_=>by rw [lkR] at h;cases h
theorem tK:∀ (ts:List Th) (a:Int) (ar:List Str) (b:Int),lkS ts a ar = .inl b->mI ts->hmS (gdS ts)<=900->∀ r ∈ gdS ts,Dp (4 - ar.length) r
 | [],_,_,_,_,_,_,r,m=>by rw [gdS] at m;cases m
 | t :: ts,a,ar,b,h,v,m,r,mr=>by
  rw [lkS] at h;rw [mI] at v;rw [gdS] at m mr;rw [hmS] at m
  cases e:lkR t a ar with
  | inl c =>
   rw [e] at h
   rcases List.mem_cons.mp mr with er | mr
   ·rw [er];exact aJU t a ar c e v.1 (by omega)
   ·exact tK ts c ar b h v.2 (by omega) r mr
  | inr c=>rw [e] at h;cases h
end
theorem aDX {ts:List Th} {a b:Int} {ar:List Str} (h:lkS ts a ar = .inl b) (v:mI ts) (m:hmS (gdS ts)<=900):DpS 8 (gdS ts) :=
 ⟨by have:=rT (gdS ts);omega,fun r hr=>wB (d':=7) (tK ts a ar b h v m r hr) (by omega)⟩
def aAq (d:Nat):DSp:=fun ds M Q=>∃ rs a ar,ds = [.tup (kZ rs),.int a,.tup (ar.map D.str)]/\(LkD d ar rs/\ar.length<=1000)/\(mI rs/\boS rs)/\∃ b,lkS rs a ar = .inl b/\Q (.int b) M
noncomputable abbrev iI:Stmt:=top 63
theorem bN:aR ["rows","number","around","at","row","behind"] ["rows","number","around"] (aH iI):=⟨rfl,rfl,rfl,by decide +kernel,rfl,by decide +kernel,by decide +kernel⟩
theorem lR (hF:cE K mg "look_at_rows" iI ["rows","number","around"]) (eK:Has P w K mg base 105 "is_plain_row" ["thing"] jH) (gR:Has P w K mg base 102 "is_block" ["thing"] nU) (gS:Has P w K mg base 101 "has_room" ["block","around"] oF) (w_rows_within:Has P w K mg base 101 "rows_within" ["row"] qV) (gA:Has P w K mg base 119 "can_go_on" ["rows"] mL):∀ d,d<=8->Has P w K mg base (120 + d) "look_at_rows" ["rows","number","around"] (aAq d):=by
 intro d
 have bT:=w_rows_within
 induction d with
 | zero=>exact fun _=>(Has.never hF bN 119).imp fun ds M Q ⟨rs,a,ar,_,z,_⟩=>by have:=z.1.1;omega
 | succ d ih =>
  intro l8
  have cU:=ih (by omega)
  refine Has.mkZ (k:=120 + d) hF bN (fun ds M Q ⟨a,b,c,z,_⟩=>by rw [z];rfl) fun f cdv A outer s H ds M Q E hr h=>?_
  obtain ⟨rs,a,ar,rfl,⟨dp,la⟩,⟨va,bo⟩,z,hz,q⟩:=h
  refine ⟨_,(aF (aP (i:=3) bN.nd (aA 1))
  (aF (jY PassesOwn.never rfl (aA 0) (aS (i:=4) bN.nd) (aE (aV (cN (aG eK hr (by omega) (aB (aA 4) aD))) (aE (pB (i:=3) yR bN.nd aC)) (aE (aV (dE (eI (cN (aG gR hr (by omega) (aB (aA 4) aD))) (dA (cN (aG gS hr (by omega) (aB (aA 4) (aB (aA 2) aD))))))) (aF (aP (i:=5) bN.nd (aG cU hr (by omega) (aB (aG bT hr (by omega) (aB (aA 4) aD)) (aB (aO dZ (aA 3) aC) (aB (aO iV (aA 2) (aQ (aB (aI (aA 4) aC) aD))) aD)))))
  (aF (aV (dE (eI (aN (bO hr) (aI (aA 4) aC) aL) (dA (eV (cN (aG gA hr (by omega) (aB (aI (aA 4) aC) aD))))))) (aE lN) aU)
  (aE (aP (i:=3) bN.nd (aO dZ (aA 5) aC))))) (aE lN))))))
  (aE (aM (aA 3))))),?_⟩
  ac_nf
  refine ⟨fun i ρ M'=>M' = M/\∃ b o1 o2,lkS (rs.take i) a ar = .inl b/\ρ = [some (.tup (kZ rs)),some (.int a),some (.tup (ar.map D.str)),some (.int b),o1,o2],⟨rfl,a,none,none,by rw [take_zero,lkS],rfl⟩,fun i ρ M' _ _ a e=>(by cases e),?_,?_⟩
  ·rintro i d1 ρ M' hd ⟨rfl,b,o1,o2,hb,rfl⟩
   obtain ⟨r,hr',rfl⟩:=aB0 hd
   have mr:=mem_of_getElem? hr'
   have dr:∀ ws,hmR (gdR r) = 1 + hmS (gdS ws)->ar.length < 4->∀ x,LkD d (ar ++ [x]) ws:=fun ws=>dp.go mr
   have hr9:hmR (gdR r)<=900:=Nat.le_trans (aAw (aCX mr)) dp.2
   have vr:=yL va mr
   have br:=aBD bo mr
   obtain ⟨c,hc⟩:=aM4 hr' hb hz
   have nx:=(aG1 hr' hb).trans hc
   have pv:∀ p,r = .pl p->plV p:=fun p e=>by rw [e,vaT] at vr;exact vr
   have bv:∀ d,r = .bad d->aFs d:=fun d e=>by rw [e,vaT] at vr;exact vr.1
   ac_nf
   refine ⟨r,rfl,pv,bv,?_⟩
   cases r with
   | pl p =>
    rw [lkR] at hc
    ac_nf
    exact ifT rfl ⟨rfl,_,_,_,nx.trans (congrArg Sum.inl (Sum.inl.inj hc).symm),rfl⟩
   | ag n ws =>
    rw [lkR] at hc
    rw [vaT] at vr
    rw [gdR,hmR] at dr hr9
    rw [boR] at br
    obtain ⟨k1,k2,k3⟩:=jJ hc
    have l4:=pU k1
    ac_nf
    refine ifF rfl ⟨_,rfl,rfl,(fun _ _ e=>by cases e;exact vr.1),bv,?_⟩
    ac_nf
    refine ifT rfl ⟨_,_,rfl,rfl,?_⟩
    rw [k1]
    refine ifT rfl ⟨_,ws,rfl,rfl,?_⟩
    dsimp only [thD]
    ac_nf
    refine ⟨by decide,by rw [length_map];omega,ws,b + 1,ar ++ [("again":Str)],by rw [map_append];rfl,⟨dr ws rfl l4 _,by rw [length_append];show ar.length + 1<=1000;omega⟩,⟨vr.2,br⟩,_,k3,?_⟩
    ac_nf
    rw [aK]
    exact ifF (by decide) ⟨rfl,_,_,_,nx,by rw [show c - 1 + 1 = c by omega]⟩
   | kp ws =>
    rw [lkR] at hc
    rw [vaT] at vr
    rw [gdR,hmR] at dr hr9
    rw [boR] at br
    obtain ⟨k1,k2,k3⟩:=jJ hc
    have l4:=pU k1
    ac_nf
    refine ifF rfl ⟨_,rfl,rfl,(fun _ _ e=>by cases e),bv,?_⟩
    ac_nf
    refine ifT rfl ⟨_,_,rfl,rfl,?_⟩
    rw [k1]
    refine ifT rfl ⟨_,ws,rfl,rfl,?_⟩
    dsimp only [thD]
    ac_nf
    refine ⟨by decide,by rw [length_map];omega,ws,b + 1,ar ++ [("keep":Str)],by rw [map_append];rfl,⟨dr ws rfl l4 _,by rw [length_append];show ar.length + 1<=1000;omega⟩,⟨vr,br⟩,_,k3,?_⟩
    ac_nf
    rw [aK]
    exact ifF (by decide) ⟨rfl,_,_,_,nx,by rw [show c - 1 + 1 = c by omega]⟩
   | ev ws =>
    rw [lkR] at hc
    rw [vaT] at vr
    rw [gdR,hmR] at dr hr9
    rw [boR] at br
    obtain ⟨k1,k2,k3⟩:=jJ hc
    have l4:=pU k1
    ac_nf
    refine ifF rfl ⟨_,rfl,rfl,(fun _ _ e=>by cases e),bv,?_⟩
    ac_nf
    refine ifT rfl ⟨_,_,rfl,rfl,?_⟩
    rw [k1]
    refine ifT rfl ⟨_,ws,rfl,rfl,?_⟩
    dsimp only [thD]
    ac_nf
    refine ⟨by decide,by rw [length_map];omega,ws,b + 1,ar ++ [("ever":Str)],by rw [map_append];rfl,⟨dr ws rfl l4 _,by rw [length_append];show ar.length + 1<=1000;omega⟩,⟨vr,br.1⟩,_,k3,?_⟩
    ac_nf
    rw [aK]
    have gb:=br.2 _ _ _ (by rw [aBu];exact Bool.or_true _) k3
    rw [uZ ws (rO _ _ _ _ k3)]
    refine ifT (by decide) ⟨gdS ws,rfl,aDX k3 vr (by omega),tT ws vr,gb,?_⟩
    ac_nf
    have en:enB (gdS ws) = true:=by
     cases he:enB (gdS ws) with
     | true=>rfl
     | false=>rw [he] at k2;cases k2
    rw [en]
    exact ifF rfl ⟨rfl,_,_,_,nx,by rw [show c - 1 + 1 = c by omega]⟩
   | bad d =>
    rw [lkR] at hc
    cases hc
  ·rintro ρ M' ⟨rfl,b,o1,o2,hb,rfl⟩
   rw [aCF,take_length,hz] at hb
   cases hb
   exact aX q
def aJn (d:Nat):List D->DM->Int->Prop:=fun ds M i=>∃ rs a ar,ds = [.tup (kZ rs),.int a,.tup (ar.map D.str)]/\(LkD d ar rs/\ar.length<=1000)/\(mI rs/\boS rs)/\lkS rs a ar = .inr i
theorem tQ {C_NoRow:Addr} (hF:cE K mg "look_at_rows" iI ["rows","number","around"]) (gH:jZ P w K mg base "NoRow" C_NoRow "row") (eK:Has P w K mg base 105 "is_plain_row" ["thing"] jH) (gR:Has P w K mg base 102 "is_block" ["thing"] nU) (gS:Has P w K mg base 101 "has_room" ["block","around"] oF) (w_rows_within:Has P w K mg base 101 "rows_within" ["row"] qV) (gA:Has P w K mg base 119 "can_go_on" ["rows"] mL):∀ d,d<=8->eT P w K mg base (120 + d) "look_at_rows" ["rows","number","around"] C_NoRow "row" (aJn d):=by
 intro d
 have bT:=w_rows_within
 induction d with
 | zero=>exact fun _=>(eT.never hF gH bN 119).imp fun ds M i ⟨rs,a,ar,_,z,_⟩=>by have:=z.1.1;omega
 | succ d ih =>
  intro l8
  have fQ:=ih (by omega)
  have cU:=lR hF eK gR gS w_rows_within gA d (by omega)
  refine eT.mkZ (k:=120 + d) hF gH bN (fun ds M i ⟨a,b,c,z,_⟩=>by rw [z];rfl) fun f cdv A outer s H ds M iw E hr h hRO hPO=>?_
  obtain ⟨rs,a,ar,rfl,⟨dp,la⟩,⟨va,bo⟩,hz⟩:=h
  refine ⟨_,(aF (aP (i:=3) bN.nd (aA 1))
  (aF (jY PassesOwn.leaving rfl (aA 0) (aS (i:=4) bN.nd) (aE (aV (cN (aG eK hr (by omega) (aB (aA 4) aD))) (aE (pB (i:=3) yR bN.nd aC)) (aE (aV (dE (eI (cN (aG gR hr (by omega) (aB (aA 4) aD))) (dA (cN (aG gS hr (by omega) (aB (aA 4) (aB (aA 2) aD))))))) (aF (wN (aP (i:=5) bN.nd (pP fQ hr (by omega) hPO (aB (aG bT hr (by omega) (aB (aA 4) aD)) (aB (aO dZ (aA 3) aC) (aB (aO iV (aA 2) (aQ (aB (aI (aA 4) aC) aD))) aD)))))
  (aP (i:=5) bN.nd (aG cU hr (by omega) (aB (aG bT hr (by omega) (aB (aA 4) aD)) (aB (aO dZ (aA 3) aC) (aB (aO iV (aA 2) (aQ (aB (aI (aA 4) aC) aD))) aD))))))
  (aF (aV (dE (eI (aN (bO hr) (aI (aA 4) aC) aL) (dA (eV (cN (aG gA hr (by omega) (aB (aI (aA 4) aC) aD))))))) (aE (mE hRO hr (by first | decide | omega) (aA 3))) aU)
  (aE (aP (i:=3) bN.nd (aO dZ (aA 5) aC))))) (aE (mE hRO hr (by first | decide | omega) (aA 3))))))))
  (aE (aM (aA 3))))),?_⟩
  ac_nf
  refine ⟨fun i ρ M'=>M' = M/\∃ b o1 o2,lkS (rs.take i) a ar = .inl b/\ρ = [some (.tup (kZ rs)),some (.int a),some (.tup (ar.map D.str)),some (.int b),o1,o2],⟨rfl,a,none,none,by rw [take_zero,lkS],rfl⟩,fun i ρ M' _ _ a e=>(by cases e),?_,?_⟩
  ·rintro i d1 ρ M' hd ⟨rfl,b,o1,o2,hb,rfl⟩
   obtain ⟨r,hr',rfl⟩:=aB0 hd
   have mr:=mem_of_getElem? hr'
   have dr:∀ ws,hmR (gdR r) = 1 + hmS (gdS ws)->ar.length < 4->∀ x,LkD d (ar ++ [x]) ws:=fun ws=>dp.go mr
   have hr9:hmR (gdR r)<=900:=Nat.le_trans (aAw (aCX mr)) dp.2
   have vr:=yL va mr
   have br:=aBD bo mr
   have nx:=aG1 hr' hb
   have ex:∀ c,lkR r b ar = .inr c->c = iw:=fun c h=>by
    have:=aJr hr' hb h
    rw [hz] at this
    exact (Sum.inr.inj this).symm
   have pv:∀ p,r = .pl p->plV p:=fun p e=>by rw [e,vaT] at vr;exact vr
   have bv:∀ d,r = .bad d->aFs d:=fun d e=>by rw [e,vaT] at vr;exact vr.1
   ac_nf
   refine ⟨r,rfl,pv,bv,?_⟩
   cases r with
   | pl p =>
    rw [lkR] at nx
    ac_nf
    exact ifT rfl ⟨rfl,_,_,_,nx,rfl⟩
   | ag n ws =>
    rw [lkR] at nx ex
    rw [vaT] at vr
    rw [gdR,hmR] at dr hr9
    rw [boR] at br
    unfold lkB at nx ex
    ac_nf
    refine ifF rfl ⟨_,rfl,rfl,(fun _ _ e=>by cases e;exact vr.1),bv,?_⟩
    ac_nf
    refine ifT rfl ⟨_,_,rfl,rfl,?_⟩
    cases k1:lP (.ag n ws) ar with
    | false =>
     rw [k1] at ex
     exact ifF rfl ⟨ex b rfl,.refl _⟩
    | true =>
     have l4:=pU k1
     have len:(ar ++ [("again":Str)]).length<=1000:=by rw [length_append];show ar.length + 1<=1000;omega
     have lm:(ar.map D.str).length + 1<=1000:=by rw [length_map];omega
     have am:(ar ++ [("again":Str)]).map D.str = ar.map D.str ++ [D.str "again"]:=by rw [map_append];rfl
     rw [k1,if_pos rfl] at nx ex
     refine ifT rfl ?_
     cases k3:lkS ws (b + 1) (ar ++ [("again":Str)]) with
     | inr c =>
      rw [k3] at ex
      refine .inl ⟨_,ws,rfl,rfl,?_⟩
      dsimp only [thD]
      ac_nf
      exact ⟨by decide,lm,c,⟨ws,b + 1,ar ++ [("again":Str)],by rw [am],⟨dr ws rfl l4 _,len⟩,⟨vr.2,br⟩,k3⟩,fun M2 sb=>⟨ex c rfl,sb⟩⟩
     | inl c =>
      rw [k3] at nx ex
      dsimp only at nx ex
      refine .inr ⟨_,ws,rfl,rfl,?_⟩
      dsimp only [thD]
      ac_nf
      refine ⟨by decide,lm,ws,b + 1,ar ++ [("again":Str)],by rw [am],⟨dr ws rfl l4 _,len⟩,⟨vr.2,br⟩,c,k3,?_⟩
      ac_nf
      rw [aK]
      exact ifF (by decide) ⟨rfl,_,_,_,nx,rfl⟩
   | kp ws =>
    rw [lkR] at nx ex
    rw [vaT] at vr
    rw [gdR,hmR] at dr hr9
    rw [boR] at br
    unfold lkB at nx ex
    ac_nf
    refine ifF rfl ⟨_,rfl,rfl,(fun _ _ e=>by cases e),bv,?_⟩
    ac_nf
    refine ifT rfl ⟨_,_,rfl,rfl,?_⟩
    cases k1:lP (.kp ws) ar with
    | false =>
     rw [k1] at ex
     exact ifF rfl ⟨ex b rfl,.refl _⟩
    | true =>
     have l4:=pU k1
     have len:(ar ++ [("keep":Str)]).length<=1000:=by rw [length_append];show ar.length + 1<=1000;omega
     have lm:(ar.map D.str).length + 1<=1000:=by rw [length_map];omega
     have am:(ar ++ [("keep":Str)]).map D.str = ar.map D.str ++ [D.str "keep"]:=by rw [map_append];rfl
     rw [k1,if_pos rfl] at nx ex
     refine ifT rfl ?_
     cases k3:lkS ws (b + 1) (ar ++ [("keep":Str)]) with
     | inr c =>
      rw [k3] at ex
      refine .inl ⟨_,ws,rfl,rfl,?_⟩
      dsimp only [thD]
      ac_nf
      exact ⟨by decide,lm,c,⟨ws,b + 1,ar ++ [("keep":Str)],by rw [am],⟨dr ws rfl l4 _,len⟩,⟨vr,br⟩,k3⟩,fun M2 sb=>⟨ex c rfl,sb⟩⟩
     | inl c =>
      rw [k3] at nx ex
      dsimp only at nx ex
      refine .inr ⟨_,ws,rfl,rfl,?_⟩
      dsimp only [thD]
      ac_nf
      refine ⟨by decide,lm,ws,b + 1,ar ++ [("keep":Str)],by rw [am],⟨dr ws rfl l4 _,len⟩,⟨vr,br⟩,c,k3,?_⟩
      ac_nf
      rw [aK]
      exact ifF (by decide) ⟨rfl,_,_,_,nx,rfl⟩
   | ev ws =>
    rw [lkR] at nx ex
    rw [vaT] at vr
    rw [gdR,hmR] at dr hr9
    rw [boR] at br
    unfold lkB at nx ex
    ac_nf
    refine ifF rfl ⟨_,rfl,rfl,(fun _ _ e=>by cases e),bv,?_⟩
    ac_nf
    refine ifT rfl ⟨_,_,rfl,rfl,?_⟩
    cases k1:lP (.ev ws) ar with
    | false =>
     rw [k1] at ex
     exact ifF rfl ⟨ex b rfl,.refl _⟩
    | true =>
     have l4:=pU k1
     have len:(ar ++ [("ever":Str)]).length<=1000:=by rw [length_append];show ar.length + 1<=1000;omega
     have lm:(ar.map D.str).length + 1<=1000:=by rw [length_map];omega
     have am:(ar ++ [("ever":Str)]).map D.str = ar.map D.str ++ [D.str "ever"]:=by rw [map_append];rfl
     rw [k1,if_pos rfl] at nx ex
     refine ifT rfl ?_
     cases k3:lkS ws (b + 1) (ar ++ [("ever":Str)]) with
     | inr c =>
      rw [k3] at ex
      refine .inl ⟨_,ws,rfl,rfl,?_⟩
      dsimp only [thD]
      ac_nf
      exact ⟨by decide,lm,c,⟨ws,b + 1,ar ++ [("ever":Str)],by rw [am],⟨dr ws rfl l4 _,len⟩,⟨vr,br.1⟩,k3⟩,fun M2 sb=>⟨ex c rfl,sb⟩⟩
     | inl c =>
      rw [k3] at nx ex
      dsimp only at nx ex
      refine .inr ⟨_,ws,rfl,rfl,?_⟩
      dsimp only [thD]
      ac_nf
      refine ⟨by decide,lm,ws,b + 1,ar ++ [("ever":Str)],by rw [am],⟨dr ws rfl l4 _,len⟩,⟨vr,br.1⟩,c,k3,?_⟩
      ac_nf
      rw [aK]
      have gb:=br.2 _ _ _ (by rw [aBu];exact Bool.or_true _) k3
      rw [uZ ws (rO _ _ _ _ k3)]
      refine ifT (by decide) ⟨gdS ws,rfl,aDX k3 vr (by omega),tT ws vr,gb,?_⟩
      ac_nf
      cases he:enB (gdS ws) with
      | true =>
       rw [he] at nx
       exact ifF rfl ⟨rfl,_,_,_,nx,rfl⟩
      | false =>
       rw [he] at ex
       exact ifT rfl ⟨ex b rfl,.refl _⟩
   | bad d =>
    rw [lkR] at ex
    ac_nf
    refine ifF rfl ⟨_,rfl,rfl,(fun _ _ e=>by cases e),bv,?_⟩
    ac_nf
    exact ifF rfl ⟨ex b rfl,.refl _⟩
  ·rintro ρ M' ⟨rfl,b,o1,o2,hb,rfl⟩
   rw [aCF,take_length,hz] at hb
   cases hb
def iT:DSp:=fun ds M Q=>∃ rs,ds = [.tup (kZ rs)]/\(mI rs/\boS rs)/\hmS (gdS rs)<=60/\(∃ b,lkS rs 0 [] = .inl b)/\Q (.tup (kZ rs)) M
noncomputable abbrev jO:Stmt:=top 61
theorem qC:aR ["rows"] ["rows"] (aH jO):=⟨rfl,rfl,rfl,by decide +kernel,rfl,by decide +kernel,by decide +kernel⟩
theorem yP (hF:cE K mg "program_of" jO ["rows"]) (cU:Has P w K mg base 128 "look_at_rows" ["rows","number","around"] (aAq 8)) (eZ:Has P w K mg base 119 "not_too_long" ["program"] jK):Has P w K mg base 129 "program_of" ["rows"] iT:=by
 refine Has.mkZ hF qC (fun ds M Q ⟨_,z,_⟩=>by rw [z];rfl) fun f cdv A outer s H ds M Q E hr h=>?_
 obtain ⟨rs,rfl,va,hm,⟨b,hb⟩,q⟩:=h
 refine ⟨_,(aF (eC (aG cU hr (by decide) (aB (aA 0) (aB aC (aB (aQ aD) aD)))))
  (aE (aM (aG eZ hr (by decide) (aB (aA 0) aD))))),?_⟩
 ac_nf
 refine ⟨by decide,rs,0,[],rfl,⟨⟨⟨by decide,by decide⟩,by omega⟩,by decide⟩,va,b,hb,?_⟩
 have d8:=aDX hb va.1 (by omega)
 rw [uZ rs (rO _ _ _ _ hb)] at q ⊢
 exact ⟨gdS rs,rfl,d8,hm,aX q⟩
def aJG:List D->DM->Int->Prop:=fun ds M i=>∃ rs,ds = [.tup (kZ rs)]/\(mI rs/\boS rs)/\hmS (gdS rs)<=900/\lkS rs 0 [] = .inr i
theorem xE {C_NoRow:Addr} (hF:cE K mg "program_of" jO ["rows"]) (gH:jZ P w K mg base "NoRow" C_NoRow "row") (fQ:eT P w K mg base 128 "look_at_rows" ["rows","number","around"] C_NoRow "row" (aJn 8)) (cU:Has P w K mg base 128 "look_at_rows" ["rows","number","around"] (aAq 8)) (eZ:Has P w K mg base 119 "not_too_long" ["program"] jK):eT P w K mg base 129 "program_of" ["rows"] C_NoRow "row" aJG:=by
 refine eT.mkZ hF gH qC (fun ds M i ⟨_,z,_⟩=>by rw [z];rfl) fun f cdv A outer s H ds M iw E hr h hRO hPO=>?_
 obtain ⟨rs,rfl,va,hm,hz⟩:=h
 refine ⟨_,(aF (wN (eC (pP fQ hr (by decide) hPO (aB (aA 0) (aB aC (aB (aQ aD) aD)))))
  (eC (aG cU hr (by decide) (aB (aA 0) (aB aC (aB (aQ aD) aD))))))
  (aE (aM (aG eZ hr (by decide) (aB (aA 0) aD))))),?_⟩
 ac_nf
 exact .inl ⟨by decide,iw,⟨rs,0,[],rfl,⟨⟨⟨by decide,by decide⟩,hm⟩,by decide⟩,va,hz⟩,fun M' sb=>⟨rfl,sb⟩⟩
mutual
noncomputable def ofR:Rw->Th
 | .pl p=>.pl p
 | .ag n ws=>.ag n (ofS ws)
 | .kp ws=>.kp (ofS ws)
 | .ev ws=>.ev (ofS ws)
noncomputable def ofS:List Rw->List Th
 | []=>[]
 | r :: rs=>ofR r :: ofS rs
end
mutual
theorem aNf:∀ r:Rw,gdR (ofR r) = r
 | .pl p=>by rw [ofR,gdR]
 | .ag n ws=>by rw [ofR,gdR,iO ws]
 | .kp ws=>by rw [ofR,gdR,iO ws]
 | .ev ws=>by rw [ofR,gdR,iO ws]
theorem iO:∀ rs:List Rw,gdS (ofS rs) = rs
 | []=>by rw [ofS,gdS]
 | r :: rs=>by rw [ofS,gdS,aNf r,iO rs]
end
mutual
theorem aNE:∀ r:Rw,okT (ofR r)
 | .pl p=>by rw [ofR,okT];trivial
 | .ag n ws=>by rw [ofR,okT];exact yD ws
 | .kp ws=>by rw [ofR,okT];exact yD ws
 | .ev ws=>by rw [ofR,okT];exact yD ws
theorem yD:∀ rs:List Rw,okS (ofS rs)
 | []=>by rw [ofS,okS];trivial
 | r :: rs=>by rw [ofS,okS];exact ⟨aNE r,yD rs⟩
end
theorem wL (rs:List Rw):kZ (ofS rs) = dF rs:=by rw [uZ _ (yD rs),iO]
theorem aON:∀ t b:Fin 12,gwB (((t.val + 1:Int):Rat) / ((b.val + 1:Int):Rat)) = true:=by decide +kernel
theorem aN8 {t b:Int} (t1:1<=t) (t2:t<=12) (b1:1<=b) (b2:b<=12):gwB ((t:Rat) / (b:Rat)) = true:=by
 have:=aON ⟨(t - 1).toNat,by omega⟩ ⟨(b - 1).toNat,by omega⟩
 dsimp only at this
 rw [show (((t - 1).toNat:Nat):Int) + 1 = t by omega,show (((b - 1).toNat:Nat):Int) + 1 = b by omega] at this
 exact this
theorem aKr {A:Nat} {p:Pl} (h:FA A p):plV p:=by
 refine ⟨h.2,fun a e=>?_⟩
 subst e
 obtain ⟨t,b,⟨t0,t1⟩,⟨b0,b1⟩,e⟩:=h.1
 have:=aN8 (t:=(t:Int)) (b:=(b:Int)) (by omega) (by omega) (by omega) (by omega)
 rw [Rat.intCast_natCast,Rat.intCast_natCast,<- e,Rat.mul_div_cancel (by
  intro z
  have:=Rat.intCast_eq_zero_iff.mp (show ((b:Int):Rat) = 0 by rw [Rat.intCast_natCast];exact z)
  omega)] at this
 exact this
theorem aCT:∀ {rs:List Rw} {r:Rw},r ∈ rs->dnR r<=dnS rs
 | x :: xs,r,m=>by
  rw [dnS]
  rcases List.mem_cons.mp m with rfl | z
  ·omega
  ·have:=aCT z;omega
mutual
theorem aOw:∀ r:Rw,gwR 690 r->wR r
 | .pl p,h=>by
  cases p with
  | grow a=>rw [gwR] at h;rw [wR];exact h
  | _ =>
      rw [wR];· trivial
      all_goals (intro _ z;cases z)
 | .ag n ws,h=>by
  rw [gwR] at h
  rw [wR]
  exact ⟨aFJ ws h.2,by omega,fun r hr=>.inl (by have:=aCT hr;omega),.inr (by omega)⟩
 | .kp ws,h=>by rw [wR];trivial
 | .ev ws,h=>by rw [wR];trivial
theorem aFJ:∀ rs:List Rw,gwS 690 rs->wS rs
 | [],_=>by rw [wS];trivial
 | r :: rs,h=>by rw [gwS] at h;rw [wS];exact ⟨aOw r h.1,aFJ rs h.2⟩
end
theorem aNp {rs:List Rw} (h:gwS 690 rs) (l:dnS rs<=704):loS rs:=⟨aFJ rs h,by omega,fun r hr=>.inl (by have:=aCT hr;omega)⟩
theorem s45:(Str.ofString "-") = Ty.one 45:=by decide +kernel
theorem s48:(Str.ofString "0") = Ty.one 48:=by decide +kernel
theorem s47:(Str.ofString "/") = Ty.one 47:=by decide +kernel
theorem s32:(Str.ofString " ") = Ty.one 32:=by decide +kernel
theorem s10:(Str.ofString "\n") = Ty.one 10:=by decide +kernel
theorem s0:(Str.ofString "") = Str.empty:=by decide +kernel
theorem nt0:Ty.nt 0 = Str.ofString "0":=by decide +kernel
theorem aE1 (m:Nat) (c:Nat) (h:c < 48):¬ (Ty.dg m).head? = some c:=fun e=>by
 obtain ⟨y,ys,ey⟩:=List.exists_cons_of_ne_nil (Ty.dg_ne m)
 rw [ey,List.head?_cons] at e
 have:=Ty.dg_all m y (by rw [ey];exact mem_cons_self ..)
 have:y = c:=Option.some.inj e
 omega
def iZ:DSp:=fun ds M Q=>∃ n:Int,ds = [.str (Ty.nt n)]/\n.natAbs < 2 ^ 120/\Q (.int n) M
noncomputable abbrev mG:Stmt:=top 75
theorem kR:aR ["text","figures"] ["text"] (aH mG):=⟨rfl,rfl,rfl,by decide +kernel,rfl,by decide +kernel,by decide +kernel⟩
theorem aAu (hF:cE K mg "whole_of" mG ["text"]) (kA:mg "int" = none):Has P w K mg base 101 "whole_of" ["text"] iZ:=by
 refine Has.mkZ hF kR (fun ds M Q ⟨_,z,_⟩=>by rw [z];rfl) fun f cdv A outer s H ds M Q E hr h=>?_
 obtain ⟨n,rfl,hn,q⟩:=h
 refine ⟨_,(fJ (aP (i:=1) kR.nd (cA (cN (pX (aA 0) aL)) (xG (aA 0) (gC aC) jU) (aA 0)))
  (aF (aV (dE (eL (eV (cN (aEk (aA 1)))) (eG (eV (cN (aDE (aA 1))))))) (aE (aM bL)) aU)
  (aF (aV (dE (eI (cN (pX (aA 1) aL)) (dA (aN (fX hr) (aA 0) aL)))) (aE (aM bL)) aU)
  (aE (aM (cX aDN kA (aB (aA 0) aD))))))),?_⟩
 have hl:=Ty.nt_len hn
 ac_nf
 refine ⟨fun ρ M'=>M' = M/\∃ x:Str,Ty.cl x = Ty.dg n.natAbs/\ρ = [some (.str (Ty.nt n)),some (.str x)],?_,?_⟩
 ·rw [s45,Ty.start_one]
  rcases Ty.nt_cases n with ⟨h0,e⟩ | ⟨h0,e⟩
  ·rw [e]
   exact ifF (decide_eq_false (aE1 _ _ (by decide))) ⟨rfl,_,e,rfl⟩
  ·rw [e]
   exact ifT (decide_eq_true rfl) ⟨by omega,rfl,_,Ty.cut_one e,rfl⟩
 rintro ρ M' ⟨rfl,x,ex,rfl⟩
 obtain ⟨a1,a2⟩:=Ty.ascii_dg ex
 ac_nf
 rw [a1]
 refine ifF rfl ?_
 rw [a2]
 refine ifF rfl ?_
 rw [s48,Ty.start_one,ex]
 by_cases c:(Ty.dg n.natAbs).head? = some 48
 ·have z:=Ty.dg_head _ _ c rfl
  have:n = 0:=by omega
  subst this
  refine ifT (decide_eq_true c) ?_
  rw [nt0,s48,aK]
  refine ifF (by decide) ⟨0,?_⟩
  rw [<- s48,<- nt0]
  exact ⟨Ty.nt_int hn,by omega,aX q⟩
 ·exact ifF (decide_eq_false c) ⟨n,Ty.nt_int hn,by omega,aX q⟩
noncomputable def qt (q:Rat):Str:=if q.den = 1 then Ty.nt q.num else Ty.nt q.num ++ Ty.one 47 ++ Ty.nt (q.den:Int)
theorem vB {x:Int} (h:Bd 110 x):x.natAbs < 2 ^ 120:=Nat.lt_of_lt_of_le h (by decide)
def kH:DSp:=fun ds M Q=>∃ q:Rat,ds = [.str (qt q)]/\BQ 110 q/\Q (FQ q) M
noncomputable abbrev iY:Stmt:=top 74
theorem bK:aR ["text","top_text","stroke","bottom_text","top","bottom"] ["text"] (aH iY):=⟨rfl,rfl,rfl,by decide +kernel,rfl,by decide +kernel,by decide +kernel⟩
theorem vO (hF:cE K mg "fraction_of" iY ["text"]) (cF:Has P w K mg base 101 "whole_of" ["text"] iZ) (dJ:Has P w K mg base 102 "is_reduced" ["top","bottom"] iS):Has P w K mg base 103 "fraction_of" ["text"] kH:=by
 refine Has.mkZ hF bK (fun ds M Q ⟨_,z,_⟩=>by rw [z];rfl) fun f cdv A outer s H ds M Q E hr h=>?_
 obtain ⟨x,rfl,bx,q⟩:=h
 refine ⟨_,(aF (fN (xS (aA 0) aL) (gO (n:=3) rfl (bA (aS (i:=1) bK.nd) (bA (aS (i:=2) bK.nd) (bA (aS (i:=3) bK.nd) eE)))))
  (aF (aP (i:=4) bK.nd (aG cF hr (by decide) (aB (aA 1) aD)))
  (aF (aP (i:=5) bK.nd (cA (aN (fX hr) (aA 2) aL) (aG cF hr (by decide) (aB (aA 3) aD)) aC))
  (aF (aV (dE (eL (aN lS (aA 4) bL) (eL (aN lS (aA 5) bL) (eG (eV (cN (aG dJ hr (by decide) (aB (aA 4) (aB (aA 5) aD))))))))) (aE (aM bL)) aU)
  (aE (aM (cA (dE (eI (aN (fX hr) (aA 2) aL) (dA (aN (bO hr) (aA 5) aC)))) bL (aQ (aB (aA 4) (aB (aA 5) aD)))))))))),?_⟩
 have b1:=vB bx.1
 have b2:=vB bx.2
 have l1:=Ty.nt_len b1
 have l2:=Ty.nt_len b2
 have red:=aHu x
 unfold qt
 by_cases c:x.den = 1
 ·rw [if_pos c]
  ac_nf
  refine ⟨47,s47,by omega,.inl ⟨Ty.nt_not (by decide) (by decide),?_⟩⟩
  ac_nf
  refine ⟨rfl,_,rfl,b1,?_⟩
  ac_nf
  rw [<- s0,aK]
  refine ifF (by decide) (ifF rfl (ifF rfl ⟨_,_,rfl,?_⟩))
  have red1:(decide ((1:Int)<=1) && decide (Int.gcd x.num 1 = 1)) = true:=by rw [c] at red;exact red
  rw [red1]
  refine ifF rfl ?_
  rw [aK]
  refine ifF (by decide) ⟨by decide,aX ?_⟩
  rw [show D.tup [.int x.num,.int 1] = FQ x by show _ = D.tup [.int x.num,.int (x.den:Int)];rw [c];rfl]
  exact q
 ·rw [if_neg c]
  ac_nf
  refine ⟨47,s47,by rw [Ty.len_cl,Ty.cl_app,Ty.cl_app,length_append,length_append];rw [Ty.len_cl] at l1 l2;show _ + 1 + _<=_;omega,.inr ⟨Ty.nt x.num,Ty.nt (x.den:Int),by rw [Ty.cl_app,Ty.cl_app,append_assoc];rfl,Ty.nt_not (by decide) (by decide),?_⟩⟩
  ac_nf
  refine ⟨rfl,_,rfl,b1,?_⟩
  ac_nf
  rw [<- s47,aK]
  refine ifT (by decide) ⟨_,rfl,b2,?_⟩
  ac_nf
  refine ifF rfl (ifF rfl ⟨_,_,rfl,?_⟩)
  rw [red]
  refine ifF rfl ?_
  rw [aK]
  refine ifT (by decide) ?_
  rw [cB]
  exact ifF (decide_eq_false (by omega)) ⟨by decide,aX q⟩
inductive Ln where
 | pl (p:Pl) | ag (n:Nat) | kp | ev | en
noncomputable def lnW:Ln->List Str
 | .pl p=>wd p :: (nu p).map qt
 | .ag n=>["again",Ty.nt (n:Int)]
 | .kp=>["keep"]
 | .ev=>["ever"]
 | .en=>["end"]
noncomputable def lnT (l:Ln):Str:=Builtin.Str.glued (Ty.one 32) (lnW l)
noncomputable def hdD:Ln->D
 | .pl p=>plD p
 | .ag n=>.tup [.str "again",.int (n:Int)]
 | .kp=>.tup [.str "keep"]
 | .ev=>.tup [.str "ever"]
 | .en=>.non
def lnV:Ln->Prop
 | .pl p=>∀ q ∈ nu p,BQ 110 q
 | .ag n=>n<=12
 | _=>True
theorem aGo (l:Ln):lnW l ≠ []:=by cases l<;>exact fun e=>nomatch e
theorem aLD {q:Rat} {c:Nat} (h:c ≠ 45) (h1:c ≠ 47) (h2:¬ (48<=c/\c<=57)):c ∉ Ty.cl (qt q):=fun z=>by
 unfold qt at z
 split at z
 ·exact Ty.nt_not h h2 z
 ·rw [Ty.cl_app,Ty.cl_app] at z
  rcases List.mem_append.mp z with z | z
  ·rcases List.mem_append.mp z with z | z
   ·exact Ty.nt_not h h2 z
   ·exact h1 (List.mem_singleton.mp z)
  ·exact Ty.nt_not h h2 z
theorem aCR (p:Pl):32 ∉ Ty.cl (wd p)/\10 ∉ Ty.cl (wd p)/\(wd p).length<=7:=by
 have h:∀ x ∈ [("go":Str),"side","skip","dot","left","right","round","mirror","grow","quarter","half","arc"],32 ∉ Ty.cl x/\10 ∉ Ty.cl x/\x.length<=7:=by decide +kernel
 exact h _ (by cases p<;>dsimp only [wd]<;>decide)
theorem wJ (l:Ln) (c:Nat) (h:c = 32 ∨ c = 10):∀ s ∈ lnW l,c ∉ Ty.cl s:=by
 have c1:c ≠ 45:=by omega
 have c2:c ≠ 47:=by omega
 have c3:¬ (48<=c/\c<=57):=by omega
 have dc:∀ x:Str,(32 ∉ Ty.cl x/\10 ∉ Ty.cl x)->c ∉ Ty.cl x:=fun x z=>h.elim (fun e=>e ▸ z.1) (fun e=>e ▸ z.2)
 intro s hs
 cases l with
 | pl p =>
  rcases List.mem_cons.mp hs with rfl | hs
  ·exact dc _ ⟨(aCR p).1,(aCR p).2.1⟩
  ·obtain ⟨q,_,rfl⟩:=List.mem_map.mp hs
   exact aLD c1 c2 c3
 | ag n =>
  rcases List.mem_cons.mp hs with rfl | hs
  ·exact dc _ (by decide +kernel)
  ·rw [List.mem_singleton.mp hs];exact Ty.nt_not c1 c3
 | kp=>rw [List.mem_singleton.mp hs];exact dc _ (by decide +kernel)
 | ev=>rw [List.mem_singleton.mp hs];exact dc _ (by decide +kernel)
 | en=>rw [List.mem_singleton.mp hs];exact dc _ (by decide +kernel)
theorem aJZ {q:Rat} (h:BQ 110 q):(qt q).length<=80:=by
 have l1:=Ty.nt_len (vB h.1)
 have l2:=Ty.nt_len (vB h.2)
 unfold qt
 split
 ·omega
 ·rw [Ty.len_cl,Ty.cl_app,Ty.cl_app,length_append,length_append]
  rw [Ty.len_cl] at l1 l2
  show _ + 1 + _<=_
  omega
theorem wT {b:Nat}:∀ {xs:List Str},(∀ x ∈ xs,x.length<=b)->(xs.map (·.length)).sum<=xs.length * b
 | [],_=>Nat.zero_le _
 | x :: xs,h=>by
  rw [map_cons,sum_cons,length_cons,Nat.add_mul]
  have h1:=h x (mem_cons_self ..)
  have h2:=wT (xs:=xs) fun y hy=>h y (mem_cons_of_mem _ hy)
  omega
theorem aAG {l:Ln} (h:lnV l):(lnW l).length<=5/\∀ s ∈ lnW l,s.length<=80:=by
 cases l with
 | pl p =>
  refine ⟨by show (((nu p).map qt).length + 1)<=5;rw [length_map];have:=aB2 p;omega,fun s hs=>?_⟩
  rcases List.mem_cons.mp hs with rfl | hs
  ·have:=(aCR p).2.2;omega
  ·obtain ⟨q,hq,rfl⟩:=List.mem_map.mp hs
   exact aJZ (h q hq)
 | ag n =>
  have h:n<=12:=h
  refine ⟨by show 2<=5;decide,fun s hs=>?_⟩
  rcases List.mem_cons.mp hs with rfl | hs
  ·decide +kernel
  ·rw [List.mem_singleton.mp hs]
   exact Nat.le_trans (Ty.nt_len (n:=(n:Int)) (by show n < 2 ^ 120;omega)) (by decide)
 | kp=>exact ⟨by show 1<=5;decide,fun s hs=>by rw [List.mem_singleton.mp hs];decide +kernel⟩
 | ev=>exact ⟨by show 1<=5;decide,fun s hs=>by rw [List.mem_singleton.mp hs];decide +kernel⟩
 | en=>exact ⟨by show 1<=5;decide,fun s hs=>by rw [List.mem_singleton.mp hs];decide +kernel⟩
theorem sY {l:Ln} (h:lnV l):(lnT l).length<=405:=by
 obtain ⟨h1,h2⟩:=aAG h
 unfold lnT
 rw [size_glued]
 have:=wT h2
 show _ + _ * 1<=_
 omega
theorem aHQ (l:Ln):10 ∉ Ty.cl (lnT l):=by
 unfold lnT
 rw [Ty.cl_join]
 have:∀ xs:List (List Nat),(∀ x ∈ xs,10 ∉ x)->10 ∉ Ty.jl 32 xs:=by
  intro xs
  induction xs with
  | nil=>intro _ z;cases z
  | cons x r ih =>
   intro h z
   cases r with
   | nil=>exact h x (mem_cons_self ..) z
   | cons y r =>
    rcases List.mem_append.mp z with z | z
    ·exact h x (mem_cons_self ..) z
    ·rcases List.mem_cons.mp z with z | z
     ·cases z
     ·exact ih (fun x hx=>h x (mem_cons_of_mem _ hx)) z
 refine this _ fun x hx=>?_
 obtain ⟨s,hs,rfl⟩:=List.mem_map.mp hx
 exact wJ l 10 (.inr rfl) s hs
noncomputable def aNd:List Str:=["","-","1/2"]
def qN:DSp:=fun ds M Q=>∃ t,ds = [.str t]/\t ∈ aNd/\Q .non M
theorem aAt (hF:cE K mg "whole_of" mG ["text"]) (kA:mg "int" = none):Has P w K mg base 101 "whole_of" ["text"] qN:=by
 refine Has.mkZ hF kR (fun ds M Q ⟨_,z,_⟩=>by rw [z];rfl) fun f cdv A outer s H ds M Q E hr h=>?_
 obtain ⟨t,rfl,ht,q⟩:=h
 refine ⟨_,(fJ (aP (i:=1) kR.nd (cA (cN (pX (aA 0) aL)) (xG (aA 0) (gC aC) jU) (aA 0)))
  (aF (aV (dE (eL (eV (cN (aEk (aA 1)))) (eG (eV (cN (aDE (aA 1))))))) (aE (aM bL)) aU)
  (aF (aV (dE (eI (cN (pX (aA 1) aL)) (dA (aN (fX hr) (aA 0) aL)))) (aE (aM bL)) aU)
  (aE (aM (cX aDN kA (aB (aA 0) aD))))))),?_⟩
 ac_nf
 refine ⟨fun ρ M'=>M' = M/\∃ x:Str,(x = "" ∨ x = "1/2")/\ρ = [some (.str t),some (.str x)],?_,?_⟩
 ·rw [s45,Ty.start_one]
  unfold aNd at ht
  simp only [mem_cons,not_mem_nil,or_false] at ht
  rcases ht with rfl | rfl | rfl
  ·exact ifF (by decide +kernel) ⟨rfl,_,.inl rfl,rfl⟩
  ·exact ifT (by decide +kernel) ⟨by decide +kernel,rfl,_,.inl (by decide +kernel),rfl⟩
  ·exact ifF (by decide +kernel) ⟨rfl,_,.inr rfl,rfl⟩
 rintro ρ M' ⟨rfl,x,hx,rfl⟩
 ac_nf
 rcases hx with rfl | rfl
 ·exact ifF (by decide +kernel) (ifT (by decide +kernel) (aX q))
 ·exact ifF (by decide +kernel) (ifT (by decide +kernel) (aX q))
noncomputable def aL3:List Str:=["","-","1/1","4/2"]
def qE:DSp:=fun ds M Q=>∃ t,ds = [.str t]/\t ∈ aL3/\Q .non M
theorem wA (hF:cE K mg "fraction_of" iY ["text"]) (cF:Has P w K mg base 101 "whole_of" ["text"] iZ) (w_whole_of:Has P w K mg base 101 "whole_of" ["text"] qN) (dJ:Has P w K mg base 102 "is_reduced" ["top","bottom"] iS):Has P w K mg base 103 "fraction_of" ["text"] qE:=by
 refine Has.mkZ hF bK (fun ds M Q ⟨_,z,_⟩=>by rw [z];rfl) fun f cdv A outer s H ds M Q E hr h=>?_
 obtain ⟨t,rfl,ht,q⟩:=h
 unfold aL3 at ht
 have hc:(t = "" ∨ t = "-") ∨ (t = "1/1" ∨ t = "4/2"):=by
  simp only [mem_cons,not_mem_nil,or_false] at ht
  rcases ht with h | h | h | h
  ·exact .inl (.inl h)
  ·exact .inl (.inr h)
  ·exact .inr (.inl h)
  ·exact .inr (.inr h)
 rcases hc with hc | hc
 ·have cF:=w_whole_of
  refine ⟨_,(aF (fN (xS (aA 0) aL) (gO (n:=3) rfl (bA (aS (i:=1) bK.nd) (bA (aS (i:=2) bK.nd) (bA (aS (i:=3) bK.nd) eE)))))
  (aF (aP (i:=4) bK.nd (aG cF hr (by decide) (aB (aA 1) aD)))
  (aF (aP (i:=5) bK.nd (cA (aN (fX hr) (aA 2) aL) (aG cF hr (by decide) (aB (aA 3) aD)) aC))
  (aF (aV (dE (eL (aN lS (aA 4) bL) (eL (aN lS (aA 5) bL) (eG (eV (cN (aG dJ hr (by decide) (aB (aA 4) (aB (aA 5) aD))))))))) (aE (aM bL)) aU)
  (aE (aM (cA (dE (eI (aN (fX hr) (aA 2) aL) (dA (aN (bO hr) (aA 5) aC)))) bL (aQ (aB (aA 4) (aB (aA 5) aD)))))))))),?_⟩
  have n47:47 ∉ Ty.cl t:=by rcases hc with rfl | rfl<;>decide +kernel
  have l0:t.length<=900000:=by rcases hc with rfl | rfl<;>decide +kernel
  ac_nf
  refine ⟨47,s47,l0,.inl ⟨n47,?_⟩⟩
  ac_nf
  refine ⟨rfl,t,rfl,by rcases hc with rfl | rfl<;>decide +kernel,?_⟩
  ac_nf
  rw [<- s0,aK]
  exact ifF (by decide) (ifT rfl (aX q))
 ·refine ⟨_,(aF (fN (xS (aA 0) aL) (gO (n:=3) rfl (bA (aS (i:=1) bK.nd) (bA (aS (i:=2) bK.nd) (bA (aS (i:=3) bK.nd) eE)))))
  (aF (aP (i:=4) bK.nd (aG cF hr (by decide) (aB (aA 1) aD)))
  (aF (aP (i:=5) bK.nd (cA (aN (fX hr) (aA 2) aL) (aG cF hr (by decide) (aB (aA 3) aD)) aC))
  (aF (aV (dE (eL (aN lS (aA 4) bL) (eL (aN lS (aA 5) bL) (eG (eV (cN (aG dJ hr (by decide) (aB (aA 4) (aB (aA 5) aD))))))))) (aE (aM bL)) aU)
  (aE (aM (cA (dE (eI (aN (fX hr) (aA 2) aL) (dA (aN (bO hr) (aA 5) aC)))) bL (aQ (aB (aA 4) (aB (aA 5) aD)))))))))),?_⟩
  obtain ⟨a,b,ea,na,b1,ab⟩:∃ a b:Int,Ty.cl t = Ty.cl (Ty.nt a) ++ 47 :: Ty.cl (Ty.nt b)/\a.natAbs < 2 ^ 120/\b.natAbs < 2 ^ 120/\((a = 1/\b = 1) ∨ (a = 4/\b = 2)):=by
   rcases hc with rfl | rfl
   ·exact ⟨1,1,by decide +kernel,by decide,by decide,.inl ⟨rfl,rfl⟩⟩
   ·exact ⟨4,2,by decide +kernel,by decide,by decide,.inr ⟨rfl,rfl⟩⟩
  have l0:t.length<=900000:=by rcases hc with rfl | rfl<;>decide +kernel
  ac_nf
  refine ⟨47,s47,l0,.inr ⟨Ty.nt a,Ty.nt b,ea,Ty.nt_not (by decide) (by decide),?_⟩⟩
  ac_nf
  refine ⟨rfl,_,rfl,na,?_⟩
  ac_nf
  rw [<- s47,aK]
  refine ifT (by decide) ⟨_,rfl,b1,?_⟩
  ac_nf
  refine ifF rfl (ifF rfl ⟨_,_,rfl,?_⟩)
  rcases ab with ⟨rfl,rfl⟩ | ⟨rfl,rfl⟩
  ·refine ifF (by decide) ?_
   rw [aK]
   refine ifT (by decide) ?_
   rw [cB]
   exact ifT (by decide) (aX q)
  ·exact ifT (by decide) (aX q)
theorem xW (p:Pl):wd p ≠ "again"/\wd p ≠ "keep"/\wd p ≠ "ever"/\wd p ≠ "end":=by cases p<;>dsimp only [wd]<;>decide
theorem aI0 (rs:List Rat):(rs.map FQ).all (bR 60) = true/\(rs.map FQ).any yE = false:=by
 constructor
 ·rw [List.all_map,all_eq_true];exact fun x _=>rfl
 ·rw [List.any_map,List.any_eq_false];exact fun x _=>(by intro z;cases z)
def qY:DSp:=fun ds M Q=>∃ l,ds = [.str (lnT l)]/\lnV l/\∀ M',aZ M M'->Q (hdD l) M'
noncomputable abbrev eN:Stmt:=top 73
theorem aY:aR ["text","word","numbers","found","many"] ["text"] (aH eN):=⟨rfl,rfl,rfl,by decide +kernel,rfl,by decide +kernel,by decide +kernel⟩
theorem aB5 (hF:cE K mg "head_of" eN ["text"]) (cV:mg "tuple" = none) (cY:mg "len" = none) (cF:Has P w K mg base 101 "whole_of" ["text"] iZ) (dM:Has P w K mg base 103 "fraction_of" ["text"] kH) (bD:Has P w K mg base 101 "numbers_behind" ["word"] dU):Has P w K mg base 104 "head_of" ["text"] qY:=by
 refine Has.mkZ hF aY (fun ds M Q ⟨_,z,_⟩=>by rw [z];rfl) fun f cdv A outer s H ds M Q E hr h=>?_
 obtain ⟨l,rfl,lv,q⟩:=h
 refine ⟨_,(aF (fN (fM (aA 0) aL) (tF rfl (bA (aS (i:=1) aY.nd) (bA (aS (i:=2) aY.nd) eE))))
  (fJ (aV (aN (bO hr) (aA 1) aL) (aF (fZ (i:=3) (⟨rfl,by decide +kernel,by decide +kernel,by decide +kernel,rfl,by decide +kernel⟩:oW ["text","word","numbers","found","many"] (aH eN) ["number"] [none] _) rfl aY.nd (aA 2) (fun _ _ _ _ _=>(aS (i:=0) (show Nodup (["number"]:List Str) by decide +kernel))) (fun _ _ _ _ _=>(aG cF hr (by decide) (aB (aA 0) aD))))
  (aE (aP (i:=4) aY.nd aC))) (aE (aV (dE (eL (aN (bO hr) (aA 1) aL) (eG (aN (bO hr) (aA 1) aL)))) (aF (aP (i:=3) aY.nd (aA 2))
  (aE (aP (i:=4) aY.nd aC))) (aF (fZ (i:=3) (⟨rfl,by decide +kernel,by decide +kernel,by decide +kernel,rfl,by decide +kernel⟩:oW ["text","word","numbers","found","many"] (aH eN) ["number"] [none] _) rfl aY.nd (aA 2) (fun _ _ _ _ _=>(aS (i:=0) (show Nodup (["number"]:List Str) by decide +kernel))) (fun _ _ _ _ _=>(aG dM hr (by decide) (aB (aA 0) aD))))
  (aE (aP (i:=4) aY.nd (aG bD hr (by decide) (aB (aA 1) aD))))))))
  (aE (aM (cA (dE (eI (aN (bO hr) (cD fV cY (aB (aA 3) aD)) (aA 4)) (dA (aN (pN hr) bL (aA 3) rfl)))) (aO iV (aQ (aB (aA 1) aD)) (cX jA cV (aB (aA 3) aD))) bL))))),?_⟩
 have ll:=sY lv
 ac_nf
 refine ⟨32,lnW l,s32,rfl,aGo l,wJ l 32 (.inl rfl),by decide,by omega,fun p0 hp0=>?_⟩
 have sb0:=aZ.new hp0 ((lnW l).map D.str)
 have h0:bH M p0 ((lnW l).map D.str) p0 = some ((lnW l).map D.str):=aJ
 generalize bH M p0 ((lnW l).map D.str) = M1 at sb0 h0 ⊢
 cases l with
 | pl p =>
  obtain ⟨n1,n2,n3,n4⟩:=xW p
  have nl:=aB2 p
  ac_nf
  refine ⟨_,_,h0,fun p1 hp1=>?_⟩
  have sb1:=sb0.trans (aZ.new hp1 (((nu p).map qt).map D.str))
  have h1:bH M1 p1 (((nu p).map qt).map D.str) p1 = some (((nu p).map qt).map D.str):=aJ
  rw [show map D.str (map qt (nu p)) = ((nu p).map qt).map D.str from rfl]
  generalize bH M1 p1 (((nu p).map qt).map D.str) = M2 at sb1 h1 ⊢
  ac_nf
  refine ⟨fun ρ M'=>aZ M2 M'/\∃ pf,M' (.l pf) = some ((nu p).map FQ)/\ρ = [some (.str (lnT (.pl p))),some (.str (wd p)),some (.ref p1),some (.ref pf),some (.int (((nu p).length:Nat):Int))],?_,?_⟩
  ·rw [aK]
   refine ifF (decide_eq_false n1) ?_
   rw [aK]
   refine ifF (decide_eq_false n2) ?_
   rw [aK]
   refine ifF (decide_eq_false n3) ?_
   refine ⟨_,h1,?_⟩
   refine ⟨by rw [length_map,length_map];omega,fun i ys M'=>M' = M2/\ys = ((nu p).take i).map FQ,⟨rfl,rfl⟩,fun i ys M' _ hi a e=>(by cases e;rw [hi.1];exact h1),?_,?_⟩
   ·rintro i d ys M' hd ⟨rfl,rfl⟩
    rw [getElem?_map,getElem?_map] at hd
    cases e:(nu p)[i]? with
    | none=>rw [e] at hd;cases hd
    | some x =>
     rw [e] at hd
     cases hd
     ac_nf
     exact ⟨x,rfl,lv x (mem_of_getElem? e),rfl,by rw [iE e,map_append];rfl⟩
   rintro ys M' _ ⟨rfl,rfl⟩ pf hpf
   ac_nf
   refine ⟨_,rfl,.inl ⟨_,aAS p,aZ.new hpf _,pf,?_,rfl⟩⟩
   rw [aJ,length_map,length_map,take_length]
  ·rintro ρ M3 ⟨sb,pf,hpf,rfl⟩
   ac_nf
   refine ⟨_,hpf,?_⟩
   rw [cB]
   obtain ⟨f1,f2⟩:=aI0 (nu p)
   refine ifT (decide_eq_true (by rw [length_map])) ⟨_,hpf,f1,?_⟩
   rw [f2]
   refine ifT rfl ⟨by decide,_,hpf,?_⟩
   ac_nf
   refine ⟨by rw [length_map];show 1 + _<=1000;omega,aX ?_⟩
   have:=q _ (sb1.trans sb)
   rw [show hdD (.pl p) = plD p from rfl,mX] at this
   exact this
 | ag n =>
  have lv:n<=12:=lv
  ac_nf
  refine ⟨D.str "again",[D.str (Ty.nt (n:Int))],h0,fun p1 hp1=>?_⟩
  have sb1:=sb0.trans (aZ.new hp1 [D.str (Ty.nt (n:Int))])
  have h1:bH M1 p1 [D.str (Ty.nt (n:Int))] p1 = some [D.str (Ty.nt (n:Int))]:=aJ
  generalize bH M1 p1 [D.str (Ty.nt (n:Int))] = M2 at sb1 h1 ⊢
  ac_nf
  refine ⟨fun ρ M'=>aZ M2 M'/\∃ pf,M' (.l pf) = some [D.int (n:Int)]/\ρ = [some (.str (lnT (.ag n))),some (.str "again"),some (.ref p1),some (.ref pf),some (.int 1)],?_,?_⟩
  ·rw [aK]
   refine ifT (by decide) ⟨_,h1,?_⟩
   refine ⟨Nat.le_of_ble_eq_true rfl,fun i ys M'=>M' = M2/\ys = ([D.int (n:Int)]).take i,⟨rfl,rfl⟩,fun i ys M' _ hi a e=>(by cases e;rw [hi.1];exact h1),?_,?_⟩
   ·rintro i d ys M' hd ⟨rfl,rfl⟩
    have i0:i = 0:=by
     have:=(List.getElem?_eq_some_iff.mp hd).1
     rw [length_singleton] at this
     omega
    subst i0
    cases hd
    ac_nf
    exact ⟨_,rfl,by show n < 2 ^ 120;omega,rfl,rfl⟩
   rintro ys M' _ ⟨rfl,rfl⟩ pf hpf
   exact ⟨aZ.new hpf _,pf,aJ,rfl⟩
  ·rintro ρ M3 ⟨sb,pf,hpf,rfl⟩
   ac_nf
   refine ⟨_,hpf,?_⟩
   rw [cB]
   refine ifT (decide_eq_true rfl) ⟨_,hpf,rfl,?_⟩
   refine ifT rfl ⟨by decide,_,hpf,?_⟩
   ac_nf
   exact ⟨Nat.le_of_ble_eq_true rfl,aX (q _ (sb1.trans sb))⟩
 | kp =>
  ac_nf
  refine ⟨D.str "keep",[],h0,fun p1 hp1=>?_⟩
  have sb1:=sb0.trans (aZ.new hp1 [])
  have h1:bH M1 p1 [] p1 = some []:=aJ
  generalize bH M1 p1 [] = M2 at sb1 h1 ⊢
  ac_nf
  refine ⟨fun ρ M'=>M' = M2/\ρ = [some (.str (lnT .kp)),some (.str "keep"),some (.ref p1),some (.ref p1),some (.int 0)],?_,?_⟩
  ·rw [aK]
   refine ifF (by decide) ?_
   rw [aK]
   exact ifT (by decide) (ifT rfl ⟨rfl,rfl⟩)
  ·rintro ρ M3 ⟨rfl,rfl⟩
   ac_nf
   refine ⟨_,h1,?_⟩
   rw [cB]
   refine ifT (by decide) ⟨_,h1,rfl,?_⟩
   refine ifT rfl ⟨by decide,_,h1,?_⟩
   ac_nf
   exact ⟨by decide,aX (q _ sb1)⟩
 | ev =>
  ac_nf
  refine ⟨D.str "ever",[],h0,fun p1 hp1=>?_⟩
  have sb1:=sb0.trans (aZ.new hp1 [])
  have h1:bH M1 p1 [] p1 = some []:=aJ
  generalize bH M1 p1 [] = M2 at sb1 h1 ⊢
  ac_nf
  refine ⟨fun ρ M'=>M' = M2/\ρ = [some (.str (lnT .ev)),some (.str "ever"),some (.ref p1),some (.ref p1),some (.int 0)],?_,?_⟩
  ·rw [aK]
   refine ifF (by decide) ?_
   rw [aK]
   refine ifF (by decide) ?_
   rw [aK]
   exact ifT (by decide) ⟨rfl,rfl⟩
  ·rintro ρ M3 ⟨rfl,rfl⟩
   ac_nf
   refine ⟨_,h1,?_⟩
   rw [cB]
   refine ifT (by decide) ⟨_,h1,rfl,?_⟩
   refine ifT rfl ⟨by decide,_,h1,?_⟩
   ac_nf
   exact ⟨by decide,aX (q _ sb1)⟩
 | en =>
  ac_nf
  refine ⟨D.str "end",[],h0,fun p1 hp1=>?_⟩
  have sb1:=sb0.trans (aZ.new hp1 [])
  have h1:bH M1 p1 [] p1 = some []:=aJ
  generalize bH M1 p1 [] = M2 at sb1 h1 ⊢
  ac_nf
  refine ⟨fun ρ M'=>aZ M2 M'/\∃ pf,M' (.l pf) = some []/\ρ = [some (.str (lnT .en)),some (.str "end"),some (.ref p1),some (.ref pf),some .non],?_,?_⟩
  ·rw [aK]
   refine ifF (by decide) ?_
   rw [aK]
   refine ifF (by decide) ?_
   rw [aK]
   refine ifF (by decide) ⟨_,h1,?_⟩
   refine ⟨by decide,fun i ys M'=>M' = M2/\ys = [],⟨rfl,rfl⟩,fun i ys M' _ hi a e=>(by cases e;rw [hi.1];exact h1),?_,?_⟩
   ·rintro i d ys M' hd _
    cases hd
   rintro ys M' _ ⟨rfl,rfl⟩ pf hpf
   ac_nf
   exact ⟨_,rfl,.inr ⟨by decide,aZ.new hpf _,pf,aJ,rfl⟩⟩
  ·rintro ρ M3 ⟨sb,pf,hpf,rfl⟩
   ac_nf
   refine ⟨_,hpf,?_⟩
   exact ⟨rfl,rfl,ifF rfl (aX (q _ (sb1.trans sb)))⟩
noncomputable def sB:List Str:=[" ","go","go 1/1","go 4/2","again","again 1/2","end 1","keep 2","ever ","go -","Dot"]
noncomputable def nN:Str->List Str
 | t=>if t = " " then ["",""] else if t = "go" then ["go"] else if t = "go 1/1" then ["go","1/1"] else if t = "go 4/2" then ["go","4/2"] else if t = "again" then ["again"] else if t = "again 1/2" then ["again","1/2"] else if t = "end 1" then ["end","1"] else if t = "keep 2" then ["keep","2"] else if t = "ever " then ["ever",""] else if t = "go -" then ["go","-"] else [t]
theorem tV:∀ t ∈ sB,t = Builtin.Str.glued (Ty.one 32) (nN t)/\(∀ s ∈ nN t,32 ∉ Ty.cl s)/\nN t ≠ []/\t.length<=20/\10 ∉ Ty.cl t:=by decide +kernel
def zY:DSp:=fun ds M Q=>∃ t,ds = [.str t]/\t ∈ sB/\∀ M',aZ M M'->Q .non M'
theorem aCJ (hF:cE K mg "head_of" eN ["text"]) (cV:mg "tuple" = none) (cY:mg "len" = none) (cF:Has P w K mg base 101 "whole_of" ["text"] iZ) (w_whole_of:Has P w K mg base 101 "whole_of" ["text"] qN) (dM:Has P w K mg base 103 "fraction_of" ["text"] kH) (w_fraction_of:Has P w K mg base 103 "fraction_of" ["text"] qE) (bD:Has P w K mg base 101 "numbers_behind" ["word"] dU):Has P w K mg base 104 "head_of" ["text"] zY:=by
 refine Has.mkZ hF aY (fun ds M Q ⟨_,z,_⟩=>by rw [z];rfl) fun f cdv A outer s H ds M Q E hr h=>?_
 obtain ⟨t,rfl,ht,q⟩:=h
 obtain ⟨e1,e2,e3,e4,_⟩:=tV t ht
 have hc:(∃ w0 x,nN t = [w0,x]/\x ∈ aL3/\(w0 = "" ∨ w0 = "go")) ∨ nN t = [("again":Str),"1/2"] ∨ (nN t = [("go":Str)] ∨ nN t = [("again":Str)] ∨ nN t = [("end":Str),"1"] ∨ nN t = [("keep":Str),"2"] ∨ nN t = [("ever":Str),""] ∨ nN t = [("Dot":Str)]):=by
  simp only [sB,mem_cons,not_mem_nil,or_false] at ht
  rcases ht with rfl | rfl | rfl | rfl | rfl | rfl | rfl | rfl | rfl | rfl | rfl
  ·exact .inl ⟨"","",by decide +kernel,by decide,.inl rfl⟩
  ·exact .inr (.inr (.inl (by decide +kernel)))
  ·exact .inl ⟨"go","1/1",by decide +kernel,by decide,.inr rfl⟩
  ·exact .inl ⟨"go","4/2",by decide +kernel,by decide,.inr rfl⟩
  ·exact .inr (.inr (.inr (.inl (by decide +kernel))))
  ·exact .inr (.inl (by decide +kernel))
  ·exact .inr (.inr (.inr (.inr (.inl (by decide +kernel)))))
  ·exact .inr (.inr (.inr (.inr (.inr (.inl (by decide +kernel))))))
  ·exact .inr (.inr (.inr (.inr (.inr (.inr (.inl (by decide +kernel)))))))
  ·exact .inl ⟨"go","-",by decide +kernel,by decide,.inr rfl⟩
  ·exact .inr (.inr (.inr (.inr (.inr (.inr (.inr (by decide +kernel)))))))
 rcases hc with ⟨w0,x,ew,hx,hw⟩ | ew | hc
 ·have dM:=w_fraction_of
  refine ⟨_,(aF (fN (fM (aA 0) aL) (tF rfl (bA (aS (i:=1) aY.nd) (bA (aS (i:=2) aY.nd) eE))))
  (fJ (aV (aN (bO hr) (aA 1) aL) (aF (fZ (i:=3) (⟨rfl,by decide +kernel,by decide +kernel,by decide +kernel,rfl,by decide +kernel⟩:oW ["text","word","numbers","found","many"] (aH eN) ["number"] [none] _) rfl aY.nd (aA 2) (fun _ _ _ _ _=>(aS (i:=0) (show Nodup (["number"]:List Str) by decide +kernel))) (fun _ _ _ _ _=>(aG cF hr (by decide) (aB (aA 0) aD))))
  (aE (aP (i:=4) aY.nd aC))) (aE (aV (dE (eL (aN (bO hr) (aA 1) aL) (eG (aN (bO hr) (aA 1) aL)))) (aF (aP (i:=3) aY.nd (aA 2))
  (aE (aP (i:=4) aY.nd aC))) (aF (fZ (i:=3) (⟨rfl,by decide +kernel,by decide +kernel,by decide +kernel,rfl,by decide +kernel⟩:oW ["text","word","numbers","found","many"] (aH eN) ["number"] [none] _) rfl aY.nd (aA 2) (fun _ _ _ _ _=>(aS (i:=0) (show Nodup (["number"]:List Str) by decide +kernel))) (fun _ _ _ _ _=>(aG dM hr (by decide) (aB (aA 0) aD))))
  (aE (aP (i:=4) aY.nd (aG bD hr (by decide) (aB (aA 1) aD))))))))
  (aE (aM (cA (dE (eI (aN (bO hr) (cD fV cY (aB (aA 3) aD)) (aA 4)) (dA (aN (pN hr) bL (aA 3) rfl)))) (aO iV (aQ (aB (aA 1) aD)) (cX jA cV (aB (aA 3) aD))) bL))))),?_⟩
  ac_nf
  refine ⟨32,nN t,s32,e1,e3,e2,by decide,by omega,fun p0 hp0=>?_⟩
  rw [ew]
  have sb0:=aZ.new hp0 ([w0,x].map D.str)
  have h0:bH M p0 ([w0,x].map D.str) p0 = some [D.str w0,.str x]:=aJ
  generalize bH M p0 ([w0,x].map D.str) = M1 at sb0 h0 ⊢
  ac_nf
  refine ⟨_,_,h0,fun p1 hp1=>?_⟩
  have sb1:=sb0.trans (aZ.new hp1 [D.str x])
  have h1:bH M1 p1 [D.str x] p1 = some [D.str x]:=aJ
  generalize bH M1 p1 [D.str x] = M2 at sb1 h1 ⊢
  ac_nf
  have nw:w0 ≠ "again"/\w0 ≠ "keep"/\w0 ≠ "ever":=by rcases hw with rfl | rfl<;>decide
  refine ⟨fun ρ M'=>aZ M2 M'/\∃ pf m,M' (.l pf) = some [.non]/\(m = .non ∨ m = .int 1)/\ρ = [some (.str t),some (.str w0),some (.ref p1),some (.ref pf),some m],?_,?_⟩
  ·rw [aK]
   refine ifF (decide_eq_false nw.1) ?_
   rw [aK]
   refine ifF (decide_eq_false nw.2.1) ?_
   rw [aK]
   refine ifF (decide_eq_false nw.2.2) ?_
   refine ⟨_,h1,?_⟩
   refine ⟨Nat.le_of_ble_eq_true rfl,fun i ys M'=>M' = M2/\ys = ([D.non]).take i,⟨rfl,rfl⟩,fun i ys M' _ hi a e=>(by cases e;rw [hi.1];exact h1),?_,?_⟩
   ·rintro i d ys M' hd ⟨rfl,rfl⟩
    have i0:i = 0:=by
     have:=(List.getElem?_eq_some_iff.mp hd).1
     rw [length_singleton] at this
     omega
    subst i0
    cases hd
    ac_nf
    exact ⟨x,rfl,hx,rfl,rfl⟩
   rintro ys M' _ ⟨rfl,rfl⟩ pf hpf
   ac_nf
   rcases hw with rfl | rfl
   ·exact ⟨_,rfl,.inr ⟨by decide,aZ.new hpf _,pf,_,aJ,.inl rfl,rfl⟩⟩
   ·exact ⟨_,rfl,.inl ⟨1,by decide,aZ.new hpf _,pf,_,aJ,.inr rfl,rfl⟩⟩
  ·rintro ρ M3 ⟨sb,pf,m,hpf,hm,rfl⟩
   ac_nf
   refine ⟨_,hpf,?_⟩
   rcases hm with rfl | rfl
   ·exact ⟨rfl,rfl,ifF rfl (ifF rfl (aX (q _ (sb1.trans sb))))⟩
   ·rw [cB]
    refine ifT (by decide) ⟨_,hpf,rfl,ifF rfl (aX (q _ (sb1.trans sb)))⟩
 ·have cF:=w_whole_of
  refine ⟨_,(aF (fN (fM (aA 0) aL) (tF rfl (bA (aS (i:=1) aY.nd) (bA (aS (i:=2) aY.nd) eE))))
  (fJ (aV (aN (bO hr) (aA 1) aL) (aF (fZ (i:=3) (⟨rfl,by decide +kernel,by decide +kernel,by decide +kernel,rfl,by decide +kernel⟩:oW ["text","word","numbers","found","many"] (aH eN) ["number"] [none] _) rfl aY.nd (aA 2) (fun _ _ _ _ _=>(aS (i:=0) (show Nodup (["number"]:List Str) by decide +kernel))) (fun _ _ _ _ _=>(aG cF hr (by decide) (aB (aA 0) aD))))
  (aE (aP (i:=4) aY.nd aC))) (aE (aV (dE (eL (aN (bO hr) (aA 1) aL) (eG (aN (bO hr) (aA 1) aL)))) (aF (aP (i:=3) aY.nd (aA 2))
  (aE (aP (i:=4) aY.nd aC))) (aF (fZ (i:=3) (⟨rfl,by decide +kernel,by decide +kernel,by decide +kernel,rfl,by decide +kernel⟩:oW ["text","word","numbers","found","many"] (aH eN) ["number"] [none] _) rfl aY.nd (aA 2) (fun _ _ _ _ _=>(aS (i:=0) (show Nodup (["number"]:List Str) by decide +kernel))) (fun _ _ _ _ _=>(aG dM hr (by decide) (aB (aA 0) aD))))
  (aE (aP (i:=4) aY.nd (aG bD hr (by decide) (aB (aA 1) aD))))))))
  (aE (aM (cA (dE (eI (aN (bO hr) (cD fV cY (aB (aA 3) aD)) (aA 4)) (dA (aN (pN hr) bL (aA 3) rfl)))) (aO iV (aQ (aB (aA 1) aD)) (cX jA cV (aB (aA 3) aD))) bL))))),?_⟩
  ac_nf
  refine ⟨32,nN t,s32,e1,e3,e2,by decide,by omega,fun p0 hp0=>?_⟩
  rw [ew]
  have sb0:=aZ.new hp0 ([("again":Str),"1/2"].map D.str)
  have h0:bH M p0 ([("again":Str),"1/2"].map D.str) p0 = some (D.str "again" :: [D.str "1/2"]):=aJ
  generalize bH M p0 ([("again":Str),"1/2"].map D.str) = M1 at sb0 h0 ⊢
  ac_nf
  refine ⟨_,_,h0,fun p1 hp1=>?_⟩
  have sb1:=sb0.trans (aZ.new hp1 ([D.str "1/2"]))
  have h1:bH M1 p1 ([D.str "1/2"]) p1 = some ([D.str "1/2"]):=aJ
  generalize bH M1 p1 ([D.str "1/2"]) = M2 at sb1 h1 ⊢
  ac_nf
  refine ⟨fun ρ M'=>aZ M2 M'/\∃ pf,M' (.l pf) = some [.non]/\ρ = [some (.str t),some (.str "again"),some (.ref p1),some (.ref pf),some (.int 1)],?_,?_⟩
  ·rw [aK]
   refine ifT (by decide) ⟨_,h1,?_⟩
   refine ⟨Nat.le_of_ble_eq_true rfl,fun i ys M'=>M' = M2/\ys = ([D.non]).take i,⟨rfl,rfl⟩,fun i ys M' _ hi a e=>(by cases e;rw [hi.1];exact h1),?_,?_⟩
   ·rintro i d ys M' hd ⟨rfl,rfl⟩
    have i0:i = 0:=by
     have:=(List.getElem?_eq_some_iff.mp hd).1
     rw [length_singleton] at this
     omega
    subst i0
    cases hd
    ac_nf
    exact ⟨_,rfl,by decide,rfl,rfl⟩
   rintro ys M' _ ⟨rfl,rfl⟩ pf hpf
   exact ⟨aZ.new hpf _,pf,aJ,rfl⟩
  ·rintro ρ M3 ⟨sb,pf,hpf,rfl⟩
   ac_nf
   refine ⟨_,hpf,?_⟩
   rw [cB]
   refine ifT (by decide) ⟨_,hpf,rfl,ifF rfl (aX (q _ (sb1.trans sb)))⟩
 ·refine ⟨_,(aF (fN (fM (aA 0) aL) (tF rfl (bA (aS (i:=1) aY.nd) (bA (aS (i:=2) aY.nd) eE))))
  (fJ (aV (aN (bO hr) (aA 1) aL) (aF (fZ (i:=3) (⟨rfl,by decide +kernel,by decide +kernel,by decide +kernel,rfl,by decide +kernel⟩:oW ["text","word","numbers","found","many"] (aH eN) ["number"] [none] _) rfl aY.nd (aA 2) (fun _ _ _ _ _=>(aS (i:=0) (show Nodup (["number"]:List Str) by decide +kernel))) (fun _ _ _ _ _=>(aG cF hr (by decide) (aB (aA 0) aD))))
  (aE (aP (i:=4) aY.nd aC))) (aE (aV (dE (eL (aN (bO hr) (aA 1) aL) (eG (aN (bO hr) (aA 1) aL)))) (aF (aP (i:=3) aY.nd (aA 2))
  (aE (aP (i:=4) aY.nd aC))) (aF (fZ (i:=3) (⟨rfl,by decide +kernel,by decide +kernel,by decide +kernel,rfl,by decide +kernel⟩:oW ["text","word","numbers","found","many"] (aH eN) ["number"] [none] _) rfl aY.nd (aA 2) (fun _ _ _ _ _=>(aS (i:=0) (show Nodup (["number"]:List Str) by decide +kernel))) (fun _ _ _ _ _=>(aG dM hr (by decide) (aB (aA 0) aD))))
  (aE (aP (i:=4) aY.nd (aG bD hr (by decide) (aB (aA 1) aD))))))))
  (aE (aM (cA (dE (eI (aN (bO hr) (cD fV cY (aB (aA 3) aD)) (aA 4)) (dA (aN (pN hr) bL (aA 3) rfl)))) (aO iV (aQ (aB (aA 1) aD)) (cX jA cV (aB (aA 3) aD))) bL))))),?_⟩
  obtain ⟨w0,cT,ew,hc⟩:∃ (w0:Str) (cT:List Str),nN t = w0 :: cT/\(((w0 = "go" ∨ w0 = "again" ∨ w0 = "Dot")/\cT = []) ∨ (w0 = "end"/\cT = [("1":Str)]) ∨ ((w0 = "keep" ∨ w0 = "ever")/\∃ x,cT = [x])):=by
   rcases hc with e | e | e | e | e | e
   ·exact ⟨_,_,e,.inl ⟨.inl rfl,rfl⟩⟩
   ·exact ⟨_,_,e,.inl ⟨.inr (.inl rfl),rfl⟩⟩
   ·exact ⟨_,_,e,.inr (.inl ⟨rfl,rfl⟩)⟩
   ·exact ⟨_,_,e,.inr (.inr ⟨.inl rfl,_,rfl⟩)⟩
   ·exact ⟨_,_,e,.inr (.inr ⟨.inr rfl,_,rfl⟩)⟩
   ·exact ⟨_,_,e,.inl ⟨.inr (.inr rfl),rfl⟩⟩
  ac_nf
  refine ⟨32,nN t,s32,e1,e3,e2,by decide,by omega,fun p0 hp0=>?_⟩
  rw [ew]
  have sb0:=aZ.new hp0 ((w0 :: cT).map D.str)
  have h0:bH M p0 ((w0 :: cT).map D.str) p0 = some (D.str w0 :: cT.map D.str):=aJ
  generalize bH M p0 ((w0 :: cT).map D.str) = M1 at sb0 h0 ⊢
  ac_nf
  refine ⟨_,_,h0,fun p1 hp1=>?_⟩
  have sb1:=sb0.trans (aZ.new hp1 (cT.map D.str))
  have h1:bH M1 p1 (cT.map D.str) p1 = some (cT.map D.str):=aJ
  generalize bH M1 p1 (cT.map D.str) = M2 at sb1 h1 ⊢
  ac_nf
  refine ⟨fun ρ M'=>aZ M2 M'/\∃ pf m ys,M' (.l pf) = some ys/\(m = .non ∨ ∃ k:Int,m = .int k/\(ys.length:Int) ≠ k)/\ρ = [some (.str t),some (.str w0),some (.ref p1),some (.ref pf),some m],?_,?_⟩
  ·have no:∀ (M':DM) (Q:DQ),M' (.l p1) = some []->(∀ pf,M' (.l pf) = none->Q (.ref pf) (bH M' pf []))->∀ (te:DE),aBt (some p1) [] [none] (gN 0) te M' Q:=fun M' Q h q te =>
    ⟨by decide,fun i ys M2=>M2 = M'/\ys = [],⟨rfl,rfl⟩,fun i ys M2 _ hi a e=>(by cases e;rw [hi.1];exact h),(fun i d ys M2 hd _=>by cases hd),fun ys M2 _ hi p hp=>by obtain ⟨rfl,rfl⟩:=hi;exact q p hp⟩
   rcases hc with ⟨hw,rfl⟩ | ⟨rfl,rfl⟩ | ⟨hw,x,rfl⟩
   ·rcases hw with rfl | rfl | rfl
    ·rw [aK]
     refine ifF (by decide) ?_
     rw [aK]
     refine ifF (by decide) ?_
     rw [aK]
     exact ifF (by decide) ⟨_,h1,no M2 _ h1 (fun pf hpf=>⟨_,rfl,.inl ⟨1,by decide,aZ.new hpf _,pf,_,_,aJ,.inr ⟨1,rfl,by decide⟩,rfl⟩⟩) _⟩
    ·rw [aK]
     exact ifT (by decide) ⟨_,h1,no M2 _ h1 (fun pf hpf=>⟨aZ.new hpf _,pf,_,_,aJ,.inr ⟨1,rfl,by decide⟩,rfl⟩) _⟩
    ·rw [aK]
     refine ifF (by decide) ?_
     rw [aK]
     refine ifF (by decide) ?_
     rw [aK]
     exact ifF (by decide) ⟨_,h1,no M2 _ h1 (fun pf hpf=>⟨_,rfl,.inr ⟨by decide,aZ.new hpf _,pf,_,_,aJ,.inl rfl,rfl⟩⟩) _⟩
   ·rw [aK]
    refine ifF (by decide) ?_
    rw [aK]
    refine ifF (by decide) ?_
    rw [aK]
    refine ifF (by decide) ⟨_,h1,?_⟩
    refine ⟨by decide,fun i ys M'=>M' = M2/\ys = ([FQ 1]).take i,⟨rfl,rfl⟩,fun i ys M' _ hi a e=>(by cases e;rw [hi.1];exact h1),?_,?_⟩
    ·rintro i d ys M' hd ⟨rfl,rfl⟩
     have i0:i = 0:=by
      have:=(List.getElem?_eq_some_iff.mp hd).1
      rw [length_map,length_singleton] at this
      omega
     subst i0
     cases hd
     ac_nf
     exact ⟨1,by rw [show qt 1 = (("1":Str)) by decide +kernel],⟨by unfold Bd;decide,by unfold Bd;decide⟩,rfl,rfl⟩
    rintro ys M' _ ⟨rfl,rfl⟩ pf hpf
    ac_nf
    exact ⟨_,rfl,.inr ⟨by decide,aZ.new hpf _,pf,_,_,aJ,.inl rfl,rfl⟩⟩
   ·rcases hw with rfl | rfl
    ·rw [aK]
     refine ifF (by decide) ?_
     rw [aK]
     exact ifT (by decide) (ifT rfl ⟨.refl _,p1,_,_,h1,.inr ⟨0,rfl,by show ((1:Nat):Int) ≠ 0;decide⟩,rfl⟩)
    ·rw [aK]
     refine ifF (by decide) ?_
     rw [aK]
     refine ifF (by decide) ?_
     rw [aK]
     exact ifT (by decide) ⟨.refl _,p1,_,_,h1,.inr ⟨0,rfl,by show ((1:Nat):Int) ≠ 0;decide⟩,rfl⟩
  ·rintro ρ M3 ⟨sb,pf,m,ys,hpf,hm,rfl⟩
   ac_nf
   refine ⟨_,hpf,?_⟩
   rcases hm with rfl | ⟨k,rfl,nk⟩
   ·exact ⟨rfl,rfl,ifF rfl (ifF rfl (aX (q _ (sb1.trans sb))))⟩
   ·rw [cB]
    exact ifF (decide_eq_false nk) (ifF rfl (aX (q _ (sb1.trans sb))))
mutual
noncomputable def lsR:Rw->List Ln
 | .pl p=>[.pl p]
 | .ag n ws=>.ag n :: (lsS ws ++ [.en])
 | .kp ws=>.kp :: (lsS ws ++ [.en])
 | .ev ws=>.ev :: (lsS ws ++ [.en])
noncomputable def lsS:List Rw->List Ln
 | []=>[]
 | r :: rs=>lsR r ++ lsS rs
end
noncomputable def hw:Ln->List D
 | .ag n=>[.str "again",.int (n:Int)]
 | .kp=>[.str "keep"]
 | .ev=>[.str "ever"]
 | _=>[]
def isO:Ln->Prop
 | .ag _=>True
 | .kp=>True
 | .ev=>True
 | _=>False
noncomputable def adT (st:List (List D)) (d:D):List (List D):=st.dropLast ++ [st.getLast?.getD [] ++ [d]]
noncomputable def stL (s:List Ln × List (List D)):Ln->List Ln × List (List D)
 | .pl p=>(s.1,adT s.2 (plD p))
 | .en=>(s.1.dropLast,adT s.2.dropLast (.tup (hw (s.1.getLast?.getD .en) ++ [.tup (s.2.getLast?.getD [])])))
 | l=>(s.1 ++ [l],s.2 ++ [[]])
theorem xL (st:List (List D)) (u:List D) (d:D):adT (st ++ [u]) d = st ++ [u ++ [d]]:=by
 unfold adT
 rw [dropLast_concat,List.getLast?_concat];rfl
theorem aA4 (hs:List Ln) (h:Ln) (st:List (List D)) (u e:List D):stL (hs ++ [h],st ++ [u] ++ [e]) .en = (hs,st ++ [u ++ [.tup (hw h ++ [.tup e])]]):=by
 unfold stL
 dsimp only
 rw [dropLast_concat,dropLast_concat,List.getLast?_concat,List.getLast?_concat,xL];rfl
mutual
theorem aN5:∀ (r:Rw) (hs:List Ln) (st:List (List D)) (u:List D),(lsR r).foldl stL (hs,st ++ [u]) = (hs,st ++ [u ++ [rwD r]])
 | .pl p,hs,st,u=>by
  rw [lsR,rwD,foldl_cons,foldl_nil]
  show (hs,adT (st ++ [u]) (plD p)) = _
  rw [xL]
 | .ag n ws,hs,st,u=>by
  rw [lsR,foldl_cons,foldl_append]
  show foldl stL (foldl stL (hs ++ [.ag n],st ++ [u] ++ [[]]) (lsS ws)) [.en] = _
  rw [aCs ws (hs ++ [Ln.ag n]) (st ++ [u]) [],foldl_cons,foldl_nil,nil_append,aA4,rwD];rfl
 | .kp ws,hs,st,u=>by
  rw [lsR,foldl_cons,foldl_append]
  show foldl stL (foldl stL (hs ++ [.kp],st ++ [u] ++ [[]]) (lsS ws)) [.en] = _
  rw [aCs ws (hs ++ [Ln.kp]) (st ++ [u]) [],foldl_cons,foldl_nil,nil_append,aA4,rwD];rfl
 | .ev ws,hs,st,u=>by
  rw [lsR,foldl_cons,foldl_append]
  show foldl stL (foldl stL (hs ++ [.ev],st ++ [u] ++ [[]]) (lsS ws)) [.en] = _
  rw [aCs ws (hs ++ [Ln.ev]) (st ++ [u]) [],foldl_cons,foldl_nil,nil_append,aA4,rwD];rfl
theorem aCs:∀ (rs:List Rw) (hs:List Ln) (st:List (List D)) (u:List D),(lsS rs).foldl stL (hs,st ++ [u]) = (hs,st ++ [u ++ dF rs])
 | [],hs,st,u=>by rw [lsS,dF,foldl_nil,append_nil]
 | r :: rs,hs,st,u=>by rw [lsS,dF,foldl_append,aN5 r,aCs rs,append_assoc];rfl
end
def vld:Nat->List Ln->Prop
 | _,[]=>True
 | d,.pl _ :: r=>vld d r
 | 0,.en :: _=>False
 | d + 1,.en :: r=>vld d r
 | d,.ag _ :: r=>vld (d + 1) r
 | d,.kp :: r=>vld (d + 1) r
 | d,.ev :: r=>vld (d + 1) r
mutual
theorem aNW:∀ (r:Rw) (d:Nat) (l:List Ln),vld d l->vld d (lsR r ++ l)
 | .pl p,d,l,h=>by rw [lsR];cases d<;>exact h
 | .ag n ws,d,l,h=>by
  rw [lsR,cons_append,append_assoc]
  have:vld (d + 1) (lsS ws ++ ([Ln.en] ++ l)):=aAi ws (d + 1) _ h
  cases d<;>exact this
 | .kp ws,d,l,h=>by
  rw [lsR,cons_append,append_assoc]
  have:vld (d + 1) (lsS ws ++ ([Ln.en] ++ l)):=aAi ws (d + 1) _ h
  cases d<;>exact this
 | .ev ws,d,l,h=>by
  rw [lsR,cons_append,append_assoc]
  have:vld (d + 1) (lsS ws ++ ([Ln.en] ++ l)):=aAi ws (d + 1) _ h
  cases d<;>exact this
theorem aAi:∀ (rs:List Rw) (d:Nat) (l:List Ln),vld d l->vld d (lsS rs ++ l)
 | [],d,l,h=>by rw [lsS];exact h
 | r :: rs,d,l,h=>by rw [lsS,append_assoc];exact aNW r d _ (aAi rs d l h)
end
theorem tI {l:Ln}:lnT l = Str.ofString "end" ↔ l = .en:=by
 constructor
 ·intro h
  have e:Ty.jl 32 ((lnW l).map Ty.cl) = Ty.jl 32 (([Str.ofString "end"]).map Ty.cl):=by
   rw [<- Ty.cl_join]
   show Ty.cl (lnT l) = Ty.cl (Str.ofString "end")
   rw [h]
  have:=Ty.map_cl_inj (Ty.jl_inj (c:=32) (fun z=>aGo l (List.map_eq_nil_iff.mp z)) (by simp) (fun p hp=>by
   obtain ⟨s,hs,rfl⟩:=List.mem_map.mp hp
   exact wJ l 32 (.inl rfl) s hs) (fun p hp=>by
   obtain ⟨s,hs,rfl⟩:=List.mem_map.mp hp
   rw [List.mem_singleton.mp hs];decide +kernel) e)
  cases l with
  | pl p=>exact absurd (List.cons.inj this).1 (xW p).2.2.2
  | ag n=>exact absurd (List.cons.inj this).1 (by decide)
  | kp=>exact absurd (List.cons.inj this).1 (by decide)
  | ev=>exact absurd (List.cons.inj this).1 (by decide)
  | en=>rfl
 ·rintro rfl;rfl
structure KS (B M:DM) (ph pl:Addr) (hs:List D) (fs:List (Addr × List D)):Prop where
 hh:M ph = some hs
 hl:M pl = some (fs.map fun f=>D.ref f.1)
 it:∀ f ∈ fs,M f.1 = some f.2
 nod:(ph :: pl :: fs.map (·.1)).Nodup
 bn:∀ a ∈ ph :: pl :: fs.map (·.1),B (.l a) = none
 sub:aZ B M
theorem fF {B M:DM} {a:Addr} {ds:List D} (h:aZ B M) (n:B (.l a) = none):aZ B (bH M a ds):=fun b o e=>by
 rw [aCM (vF e n)];exact h b o e
theorem aCB {B M:DM} {a:Addr} (s:aZ B M) (h:M (.l a) = none):B (.l a) = none:=by
 cases c:B (.l a) with
 | none=>rfl
 | some o=>rw [s _ _ c] at h;cases h
theorem KS.ne {B M:DM} {ph pl:Addr} {hs:List D} {fs:List (Addr × List D)} (h:KS B M ph pl hs fs):ph ≠ pl/\∀ f ∈ fs,f.1 ≠ ph/\f.1 ≠ pl:=by
 have n:=h.nod
 rw [nodup_cons,nodup_cons] at n
 refine ⟨fun e=>n.1 (by rw [e];exact mem_cons_self ..),fun f hf=>⟨fun e=>n.1 (mem_cons_of_mem _ (by rw [<- e];exact mem_map_of_mem hf)),fun e=>n.2.1 (by rw [<- e];exact mem_map_of_mem hf)⟩⟩
theorem KS.top {B M:DM} {ph pl q:Addr} {hs u:List D} {gs:List (Addr × List D)} (h:KS B M ph pl hs (gs ++ [(q,u)])) (d:D):KS B (bH M q (u ++ [d])) ph pl hs (gs ++ [(q,u ++ [d])]):=by
 obtain ⟨n1,n2⟩:=h.ne
 have hq:=n2 (q,u) (by simp)
 have e1:(gs ++ [(q,u ++ [d])]).map (·.1) = (gs ++ [(q,u)]).map (·.1):=by rw [map_append,map_append];rfl
 have e2:((gs ++ [(q,u ++ [d])]).map fun f=>D.ref f.1) = ((gs ++ [(q,u)]).map fun f=>D.ref f.1):=by rw [map_append,map_append];rfl
 refine ⟨by rw [bI (Ne.symm hq.1)];exact h.hh,by rw [bI (Ne.symm hq.2),e2];exact h.hl,fun f hf=>?_,by rw [e1];exact h.nod,by rw [e1];exact h.bn,fF h.sub (h.bn q (by simp))⟩
 rcases List.mem_append.mp hf with hf | hf
 ·have nq:f.1 ≠ q:=fun e=>by
   have n:=h.nod
   rw [nodup_cons,nodup_cons,map_append,nodup_append] at n
   exact n.2.2.2.2 f.1 (mem_map_of_mem hf) q (by simp) e
  rw [bI nq];exact h.it f (mem_append_left _ hf)
 ·rw [List.mem_singleton.mp hf];exact aJ
theorem KS.push {B M:DM} {ph pl p:Addr} {hs:List D} {fs:List (Addr × List D)} (h:KS B M ph pl hs fs) (d:D) (hp:bH M ph (hs ++ [d]) (.l p) = none):KS B (bH (bH (bH M ph (hs ++ [d])) p []) pl ((fs.map fun f=>D.ref f.1) ++ [.ref p])) ph pl (hs ++ [d]) (fs ++ [(p,[])]):=by
 obtain ⟨n1,n2⟩:=h.ne
 obtain ⟨np,hp1⟩:=fU hp
 have npl:p ≠ pl:=fun e=>by rw [e,h.hl] at hp1;cases hp1
 have nf:∀ f ∈ fs,f.1 ≠ p:=fun f hf e=>by rw [<- e,h.it f hf] at hp1;cases hp1
 have bp:=aCB h.sub hp1
 refine ⟨?_,?_,fun f hf=>?_,?_,?_,?_⟩
 ·rw [bI n1,bI (Ne.symm np)];exact aJ
 ·rw [map_append];exact aJ
 ·rcases List.mem_append.mp hf with hf | hf
  ·rw [bI (n2 f hf).2,bI (nf f hf),bI (n2 f hf).1];exact h.it f hf
  ·rw [List.mem_singleton.mp hf]
   show bH _ pl _ (.l p) = some []
   rw [bI npl];exact aJ
 ·have n:=h.nod
  rw [nodup_cons,nodup_cons] at n ⊢
  rw [map_append]
  refine ⟨fun z=>?_,fun z=>?_,?_⟩
  ·rcases List.mem_cons.mp z with z | z
   ·exact n1 z
   ·rcases List.mem_append.mp z with z | z
    ·exact n.1 (mem_cons_of_mem _ z)
    ·exact np (List.mem_singleton.mp z).symm
  ·rcases List.mem_append.mp z with z | z
   ·exact n.2.1 z
   ·exact npl (List.mem_singleton.mp z).symm
  ·rw [nodup_append]
   refine ⟨n.2.2,by simp,fun a ha b hb=>?_⟩
   rw [List.mem_singleton.mp hb]
   obtain ⟨f,hf,rfl⟩:=List.mem_map.mp ha
   exact nf f hf
 ·intro a ha
  rw [map_append] at ha
  rcases List.mem_cons.mp ha with rfl | ha
  ·exact h.bn _ (by simp)
  ·rcases List.mem_cons.mp ha with rfl | ha
   ·exact h.bn _ (by simp)
   ·rcases List.mem_append.mp ha with ha | ha
    ·exact h.bn a (mem_cons_of_mem _ (mem_cons_of_mem _ ha))
    ·rw [List.mem_singleton.mp ha];exact bp
 ·exact fF (fF (fF h.sub (h.bn _ (by simp))) bp) (h.bn _ (by simp))
theorem KS.pop {B M:DM} {ph pl q r:Addr} {hs u e:List D} {gs:List (Addr × List D)} {d0:D} (h:KS B M ph pl (hs ++ [d0]) (gs ++ [(q,u)] ++ [(r,e)])) (d:D):KS B (bH (bH (bH M ph hs) pl ((gs ++ [(q,u)]).map fun f=>D.ref f.1)) q (u ++ [d])) ph pl hs (gs ++ [(q,u ++ [d])]):=by
 obtain ⟨n1,n2⟩:=h.ne
 have sub1:∀ f ∈ gs ++ [(q,u)],f ∈ gs ++ [(q,u)] ++ [(r,e)]:=fun f hf=>mem_append_left _ hf
 have key:KS B (bH (bH M ph hs) pl ((gs ++ [(q,u)]).map fun f=>D.ref f.1)) ph pl hs (gs ++ [(q,u)]):=by
  refine ⟨by rw [bI n1];exact aJ,aJ,fun f hf=>?_,?_,fun a ha=>?_,fF (fF h.sub (h.bn _ (by simp))) (h.bn _ (by simp))⟩
  ·rw [bI (n2 f (sub1 f hf)).2,bI (n2 f (sub1 f hf)).1];exact h.it f (sub1 f hf)
  ·have n:=h.nod
   rw [map_append] at n
   rw [<- cons_append,<- cons_append,nodup_append] at n
   exact n.1
  ·refine h.bn a ?_
   rw [map_append,<- cons_append,<- cons_append]
   exact mem_append_left _ ha
 exact key.top d
theorem opD {l:Ln} (h:isO l):hdD l = .tup (hw l)/\(hw l).length<=2/\∃ k r,hw l = .str k :: r/\k ∈ aGK:=by
 cases l with
 | ag n=>exact ⟨rfl,Nat.le_of_ble_eq_true rfl,_,_,rfl,by decide⟩
 | kp=>exact ⟨rfl,by decide,_,_,rfl,by decide⟩
 | ev=>exact ⟨rfl,by decide,_,_,rfl,by decide⟩
 | pl p=>exact h.elim
 | en=>exact h.elim
theorem wG {xs:List D} {y:D}:(xs ++ [y])[(xs ++ [y]).length - 1]? = some y:=by
 rw [length_append,length_singleton,Nat.add_sub_cancel,getElem?_append_right (Nat.le_refl _),Nat.sub_self];rfl
theorem KS.mono {B M M':DM} {ph pl:Addr} {hs:List D} {fs:List (Addr × List D)} (h:KS B M ph pl hs fs) (s:aZ M M'):KS B M' ph pl hs fs :=
 ⟨s _ _ h.hh,s _ _ h.hl,fun f hf=>s _ _ (h.it f hf),h.nod,h.bn,h.sub.trans s⟩
theorem iF {α:Type} {xs:List α} (h:xs ≠ []):∃ ys y,xs = ys ++ [y]:=⟨_,_,(List.dropLast_concat_getLast h).symm⟩
theorem aAe {l:Ln} (h:isO l) {d:Nat} {r:List Ln} (v:vld d (l :: r)):vld (d + 1) r:=by
 cases l with
 | ag n=>cases d<;>exact v
 | kp=>cases d<;>exact v
 | ev=>cases d<;>exact v
 | pl p=>exact h.elim
 | en=>exact h.elim
theorem aNw {l:Ln} (h:isO l) {s:List Ln × List (List D)}:stL s l = (s.1 ++ [l],s.2 ++ [[]]):=by
 cases l with
 | pl p=>exact h.elim
 | en=>exact h.elim
 | _=>rfl
def rJ:DSp:=fun ds M Q=>∃ (pt:Addr) (rs:List Rw),ds = [.ref pt]/\M pt = some ((lsS rs).map fun l=>D.str (lnT l))/\(∀ l ∈ lsS rs,lnV l)/\(lsS rs).length<=400/\∀ M',aZ M M'->Q (.tup (dF rs)) M'
noncomputable abbrev pS:Stmt:=top 72
theorem cW:aR ["lines","heads","lists","at","text","head","block"] ["lines"] (aH pS):=⟨rfl,rfl,rfl,by decide +kernel,rfl,by decide +kernel,by decide +kernel⟩
theorem aCP (hF:cE K mg "rows_of" pS ["lines"]) (hU:mg "enumerate" = none) (cV:mg "tuple" = none) (cY:mg "len" = none) (jS:Has P w K mg base 104 "head_of" ["text"] qY) (bD:Has P w K mg base 101 "numbers_behind" ["word"] dU):Has P w K mg base 105 "rows_of" ["lines"] rJ:=by
 refine Has.mkZ hF cW (fun ds M Q ⟨_,_,z,_⟩=>by rw [z];rfl) fun f cdv A outer s H ds M Q E hr h=>?_
 obtain ⟨pt,rs,rfl,ht,lv,ln,q⟩:=h
 refine ⟨_,(aF (aP (i:=1) cW.nd (cK aD))
  (aF (aP (i:=2) cW.nd (cK (aB (cK aD) aD)))
  (aF (aBG PassesOwn.never rfl hU (aB (aA 0) aD) (gO (n:=2) rfl (bA (aS (i:=3) cW.nd) (bA (aS (i:=4) cW.nd) eE))) (aF (aP (i:=5) cW.nd (aG jS hr (by decide) (aB (aA 4) aD)))
  (aE (aV (dE (eI (aN (bO hr) (aA 4) aL) (dA (aN (aAr hr) (aA 1) (cK aD))))) (aF (aP (i:=6) cW.nd (aO iV (wH (aA 1)) (aQ (aB (cX jA cV (aB (wH (aA 2)) aD)) aD))))
  (aE (eC (dH (aI (aA 2) (gF aC)) (aA 6))))) (aE (aV (aN lS (aA 5) bL) (aE lN) (aE (aV (aN lS (aG bD hr (by decide) (aB (aI (aA 5) aC) aD)) bL) (aF (eC (dH (aA 1) (aA 5)))
  (aE (eC (dH (aA 2) (cK aD))))) (aE (eC (dH (aI (aA 2) (gF aC)) (aA 5))))))))))))
  (aF (aV (aN (aAr hr) (aA 1) (cK aD)) (aE lN) aU)
  (aE (aM (cX jA cV (aB (aI (aA 2) aC) aD)))))))),?_⟩
 ac_nf
 refine ⟨by decide,fun ph hph=>⟨by decide,fun p0 hp0=>⟨by decide,fun pl hpl=>?_⟩⟩⟩
 have ks0:KS M (bH (bH (bH M ph []) p0 []) pl [D.ref p0]) ph pl [] [(p0,[])]:=by
  obtain ⟨n1,hp0'⟩:=fU hp0
  obtain ⟨n2,hpl'⟩:=fU hpl
  obtain ⟨n3,hpl''⟩:=fU hpl'
  refine ⟨by rw [bI (Ne.symm n3),bI (Ne.symm n1)];exact aJ,aJ,fun f hf=>?_,?_,fun a ha=>?_,fF (fF (fF (.refl _) hph) hp0') hpl''⟩
  ·rw [List.mem_singleton.mp hf]
   show bH _ pl _ (.l p0) = some []
   rw [bI (Ne.symm n2)];exact aJ
  ·simp [n1,n2,n3,Ne.symm n1,Ne.symm n2,Ne.symm n3]
  ·simp at ha
   rcases ha with rfl | rfl | rfl
   ·exact hph
   ·exact hpl''
   ·exact hp0'
 generalize bH (bH (bH M ph []) p0 []) pl [D.ref p0] = M1 at ks0 ⊢
 refine ⟨_,ks0.sub _ _ ht,?_⟩
 refine ⟨fun i ρ M'=>∃ (hs:List Ln) (fs:List (Addr × List D)) (o3 o4 o5 o6:Option D),KS M M' ph pl (hs.map hdD) fs/\(∀ h ∈ hs,isO h)/\(fs.length = hs.length + 1/\hs.length<=i/\∀ f ∈ fs,f.2.length<=i)/\vld hs.length ((lsS rs).drop i)/\((lsS rs).drop i).foldl stL (hs,fs.map (·.2)) = ([],[dF rs])/\ρ = [some (.ref pt),some (.ref ph),some (.ref pl),o3,o4,o5,o6],?_,?_,?_,?_⟩
 ·refine ⟨[],[(p0,[])],none,none,none,none,ks0,(fun h hh=>by cases hh),⟨rfl,Nat.zero_le _,fun f hf=>by rw [List.mem_singleton.mp hf];exact Nat.zero_le _⟩,?_,?_,rfl⟩
  ·have:=aAi rs 0 [] trivial
   rw [append_nil] at this
   exact this
  ·exact aCs rs [] [] []
 ·rintro i ρ M' _ ⟨hs,fs,_,_,_,_,ks,_⟩
  exact ks.sub _ _ ht
 ·rintro i d ρ M' hd ⟨hs,fs,o3,o4,o5,o6,ks,ho,⟨hlen,b1,b2⟩,hv,hf,rfl⟩
  rw [getElem?_map] at hd
  cases hl:(lsS rs)[i]? with
  | none=>rw [hl] at hd;cases hd
  | some l =>
   rw [hl] at hd
   cases hd
   have li:=(List.getElem?_eq_some_iff.mp hl).1
   have edr:(lsS rs).drop i = l :: (lsS rs).drop (i + 1):=by
    rw [List.drop_eq_getElem_cons li,(List.getElem?_eq_some_iff.mp hl).2]
   rw [edr] at hv hf
   rw [foldl_cons] at hf
   have lvl:=lv l (mem_of_getElem? hl)
   ac_nf
   refine ⟨rfl,l,rfl,lvl,fun M2 s2=>?_⟩
   have ks:=ks.mono s2
   clear s2
   ac_nf
   by_cases hop:isO l
   ·obtain ⟨o1,o2,k0,r0,o3',o4'⟩:=opD hop
    rw [aK]
    refine ifF (decide_eq_false fun z=>by rw [tI.mp z] at hop;exact hop) ?_
    rw [o1,o3']
    ac_nf
    refine ifF rfl ?_
    rw [zG]
    ac_nf
    refine ⟨_,rfl,.inr ⟨o4',?_⟩⟩
    ac_nf
    refine ifT rfl ⟨⟨_,ks.hh⟩,_,_,rfl,ks.hh,by rw [length_map];omega,?_⟩
    obtain ⟨n1,n2⟩:=ks.ne
    refine ⟨⟨_,by rw [bI (Ne.symm n1)];exact ks.hl⟩,by decide,fun p9 hp9=>?_⟩
    obtain ⟨np,hp1⟩:=fU hp9
    have npl:pl ≠ p9:=fun e=>by rw [<- e,ks.hl] at hp1;cases hp1
    refine ⟨_,_,rfl,by rw [bI npl,bI (Ne.symm n1)];exact ks.hl,by rw [length_map];omega,?_⟩
    have kp:=ks.push (.tup (.str k0 :: r0)) hp9
    refine ⟨hs ++ [l],fs ++ [(p9,[])],_,_,_,_,?_,?_,⟨?_,?_,?_⟩,?_,?_,rfl⟩
    ·rw [map_append,map_cons,map_nil,o1,o3'];exact kp
    ·intro x hx
     rcases List.mem_append.mp hx with hx | hx
     ·exact ho x hx
     ·rw [List.mem_singleton.mp hx];exact hop
    ·rw [length_append,length_append,length_singleton,length_singleton,hlen]
    ·rw [length_append,length_singleton];omega
    ·intro f hf
     rcases List.mem_append.mp hf with hf | hf
     ·have:=b2 f hf;omega
     ·rw [List.mem_singleton.mp hf];exact Nat.zero_le _
    ·rw [length_append,length_singleton]
     exact aAe hop hv
    ·rw [aNw hop] at hf
     rw [map_append];exact hf
   cases l with
   | en =>
    cases hs with
    | nil=>exact hv.elim
    | cons h0 hs0 =>
     obtain ⟨hs,h,eh⟩:=iF (xs:=h0 :: hs0) (by simp)
     rw [eh] at ks ho hlen b1 hv hf
     rw [length_append,length_singleton] at hv hlen b1
     have nf:fs ≠ []:=fun z=>by rw [z] at hlen;simp at hlen
     obtain ⟨fs1,⟨r,e⟩,rfl⟩:=iF nf
     have nf1:fs1 ≠ []:=fun z=>by rw [z] at hlen;simp at hlen
     obtain ⟨gs,⟨q0,u⟩,rfl⟩:=iF nf1
     rw [aK]
     refine ifT (decide_eq_true rfl) ⟨by decide,fun pe hpe=>?_⟩
     have ks:=ks.mono (aZ.new hpe [])
     have hpe2:bH M2 pe [] pe = some []:=aJ
     generalize bH M2 pe [] = M3 at ks hpe2 ⊢
     clear hpe
     rw [map_append,map_cons,map_nil] at ks
     obtain ⟨n1,n2⟩:=ks.ne
     obtain ⟨o1,o2,_⟩:=opD (ho h (by simp))
     refine ⟨_,ks.hh,hpe2,?_⟩
     refine ifT (by simp) ?_
     have hr':=(n2 (r,e) (by simp))
     have hq':=(n2 (q0,u) (by simp))
     refine ⟨_,_,ks.hh,wG,_,D.ref r,by rw [bI (Ne.symm n1)];exact ks.hl,by rw [map_append,map_cons,map_nil];exact wG,?_⟩
     rw [o1,dropLast_concat,show (map (fun f=>D.ref f.1) (gs ++ [(q0,u)] ++ [(r,e)])).dropLast = (gs ++ [(q0,u)]).map (fun f=>D.ref f.1) by rw [map_append,map_cons,map_nil,dropLast_concat]]
     refine ⟨e,by rw [bI hr'.2,bI hr'.1];exact ks.it (r,e) (by simp),by decide,?_⟩
     have le:e.length<=i:=b2 (r,e) (by simp)
     have lu:u.length<=i:=b2 (q0,u) (by simp)
     refine ⟨by show (hw h).length + 1<=1000;omega,_,D.ref q0,aJ,by rw [map_append];exact aAJ,⟨u,by rw [bI hq'.2,bI hq'.1];exact ks.it (q0,u) (by simp)⟩,u,_,rfl,by rw [bI hq'.2,bI hq'.1];exact ks.it (q0,u) (by simp),by omega,?_⟩
     refine ⟨hs,gs ++ [(q0,u ++ [.tup (hw h ++ [.tup e])])],_,_,_,_,ks.pop _,fun x hx=>ho x (mem_append_left _ hx),⟨?_,by omega,fun f hf=>?_⟩,hv,?_,rfl⟩
     ·rw [length_append,length_append,length_singleton,length_singleton] at hlen
      rw [length_append,length_singleton];omega
     ·rcases List.mem_append.mp hf with hf | hf
      ·have:=b2 f (mem_append_left _ (mem_append_left _ hf));omega
      ·rw [List.mem_singleton.mp hf]
       show (u ++ [_]).length<=i + 1
       rw [length_append,length_singleton];omega
     ·rw [map_append,map_append,map_cons,map_nil,map_cons,map_nil,aA4] at hf
      rw [map_append,map_cons,map_nil]
      exact hf
   | pl p =>
    have nf:fs ≠ []:=fun z=>by rw [z] at hlen;simp at hlen
    obtain ⟨gs,⟨q0,u⟩,rfl⟩:=iF nf
    have lu:u.length<=i:=b2 (q0,u) (by simp)
    rw [aK]
    refine ifF (decide_eq_false fun z=>by cases tI.mp z) ?_
    rw [show hdD (.pl p) = plD p from rfl,mX]
    ac_nf
    refine ifF rfl ?_
    rw [zG]
    ac_nf
    refine ⟨_,rfl,.inl ⟨_,aAS p,?_⟩⟩
    ac_nf
    refine ifF rfl ⟨_,D.ref q0,ks.hl,by rw [map_append];exact aAJ,⟨u,ks.it (q0,u) (by simp)⟩,u,_,rfl,ks.it (q0,u) (by simp),by omega,?_⟩
    rw [<- mX]
    refine ⟨hs,gs ++ [(q0,u ++ [plD p])],_,_,_,_,ks.top _,ho,⟨?_,by omega,fun f hf=>?_⟩,?_,?_,rfl⟩
    ·rw [length_append,length_singleton] at hlen
     rw [length_append,length_singleton];omega
    ·rcases List.mem_append.mp hf with hf | hf
     ·have:=b2 f (mem_append_left _ hf);omega
     ·rw [List.mem_singleton.mp hf]
      show (u ++ [_]).length<=i + 1
      rw [length_append,length_singleton];omega
    ·generalize hs.length = k at hv ⊢
     cases k<;>exact hv
    ·rw [map_append,map_cons,map_nil] at hf ⊢
     rw [show stL (hs,gs.map (·.2) ++ [u]) (.pl p) = (hs,adT (gs.map (·.2) ++ [u]) (plD p)) from rfl,xL] at hf
     exact hf
   | ag n=>exact absurd trivial hop
   | kp=>exact absurd trivial hop
   | ev=>exact absurd trivial hop
 ·rintro ρ M' ⟨hs,fs,o3,o4,o5,o6,ks,ho,⟨hlen,b1,b2⟩,hv,hf,rfl⟩
  rw [length_map,drop_length,foldl_nil] at hf
  obtain rfl:hs = []:=congrArg Prod.fst hf
  replace hf:fs.map (·.2) = [dF rs]:=congrArg Prod.snd hf
  obtain ⟨f,rfl⟩:∃ f,fs = [f]:=by
   match fs,hlen with
   | [f],_=>exact ⟨f,rfl⟩
  have ef:f.2 = dF rs:=(List.cons.inj hf).1
  ac_nf
  refine ⟨by decide,fun pe hpe=>⟨_,(aZ.new hpe _) _ _ ks.hh,aJ,ifF rfl ?_⟩⟩
  have ks:=ks.mono (aZ.new hpe [])
  refine ⟨_,_,ks.hl,rfl,f.2,ks.it f (by simp),aX ?_⟩
  rw [ef]
  exact q _ ks.sub
noncomputable def dpt:Nat->List Ln->Nat
 | d,[]=>d
 | d,.pl _ :: r=>dpt d r
 | d,.en :: r=>dpt (d - 1) r
 | d,.ag _ :: r=>dpt (d + 1) r
 | d,.kp :: r=>dpt (d + 1) r
 | d,.ev :: r=>dpt (d + 1) r
theorem lO {l:Ln} (h:isO l) {d:Nat} {r:List Ln}:dpt d (l :: r) = dpt (d + 1) r:=by
 cases l with
 | pl p=>exact h.elim
 | en=>exact h.elim
 | _=>rfl
def aJk (d:Nat) (t:Str):Prop:=t ∈ sB ∨ (t = "end"/\d = 0)
def aJe:List D->DM->Int->Prop:=fun ds M i=>∃ (pt:Addr) (ls:List Ln) (tl:List Str),ds = [.ref pt]/\M pt = some ((ls.map fun l=>D.str (lnT l)) ++ tl.map D.str)/\(∀ l ∈ ls,lnV l)/\vld 0 ls/\ls.length<=400/\((∃ t r,tl = t :: r/\aJk (dpt 0 ls) t) ∨ (tl = []/\0 < dpt 0 ls))/\i = (ls.length:Int)
theorem aB4 {C_NoText:Addr} (hF:cE K mg "rows_of" pS ["lines"]) (iC:jZ P w K mg base "NoText" C_NoText "line") (hU:mg "enumerate" = none) (cV:mg "tuple" = none) (cY:mg "len" = none) (jS:Has P w K mg base 104 "head_of" ["text"] qY) (w_head_of:Has P w K mg base 104 "head_of" ["text"] zY) (bD:Has P w K mg base 101 "numbers_behind" ["word"] dU):eT P w K mg base 105 "rows_of" ["lines"] C_NoText "line" aJe:=by
 refine eT.mkZ hF iC cW (fun ds M i ⟨_,_,_,z,_⟩=>by rw [z];rfl) fun f cdv A outer s H ds M iw E hr h hRO hPO=>?_
 obtain ⟨pt,ls,tl,rfl,ht,lv,v0,ln,how,rfl⟩:=h
 refine ⟨_,(aF (aP (i:=1) cW.nd (cK aD))
  (aF (aP (i:=2) cW.nd (cK (aB (cK aD) aD)))
  (aF (aBG PassesOwn.leaving rfl hU (aB (aA 0) aD) (gO (n:=2) rfl (bA (aS (i:=3) cW.nd) (bA (aS (i:=4) cW.nd) eE))) (aF (wN (aP (i:=5) cW.nd (aG jS hr (by decide) (aB (aA 4) aD)))
  (aP (i:=5) cW.nd (aG w_head_of hr (by decide) (aB (aA 4) aD))))
  (aE (aV (dE (eI (aN (bO hr) (aA 4) aL) (dA (aN (aAr hr) (aA 1) (cK aD))))) (aF (aP (i:=6) cW.nd (aO iV (wH (aA 1)) (aQ (aB (cX jA cV (aB (wH (aA 2)) aD)) aD))))
  (aE (eC (dH (aI (aA 2) (gF aC)) (aA 6))))) (aE (aV (aN lS (aA 5) bL) (aE (mE hRO hr (by first | decide | omega) (aA 3))) (aE (aV (aN lS (aG bD hr (by decide) (aB (aI (aA 5) aC) aD)) bL) (aF (eC (dH (aA 1) (aA 5)))
  (aE (eC (dH (aA 2) (cK aD))))) (aE (eC (dH (aI (aA 2) (gF aC)) (aA 5))))))))))))
  (aF (aV (aN (aAr hr) (aA 1) (cK aD)) (aE (mE hRO hr (by first | decide | omega) (cD fV cY (aB (aA 0) aD)))) aU)
  (aE (aM (cX jA cV (aB (aI (aA 2) aC) aD)))))))),?_⟩
 ac_nf
 refine ⟨by decide,fun ph hph=>⟨by decide,fun p0 hp0=>⟨by decide,fun pl hpl=>?_⟩⟩⟩
 have ks0:KS M (bH (bH (bH M ph []) p0 []) pl [D.ref p0]) ph pl [] [(p0,[])]:=by
  obtain ⟨n1,hp0'⟩:=fU hp0
  obtain ⟨n2,hpl'⟩:=fU hpl
  obtain ⟨n3,hpl''⟩:=fU hpl'
  refine ⟨by rw [bI (Ne.symm n3),bI (Ne.symm n1)];exact aJ,aJ,fun f hf=>?_,?_,fun a ha=>?_,fF (fF (fF (.refl _) hph) hp0') hpl''⟩
  ·rw [List.mem_singleton.mp hf]
   show bH _ pl _ (.l p0) = some []
   rw [bI (Ne.symm n2)];exact aJ
  ·simp [n1,n2,n3,Ne.symm n1,Ne.symm n2,Ne.symm n3]
  ·simp at ha
   rcases ha with rfl | rfl | rfl
   ·exact hph
   ·exact hpl''
   ·exact hp0'
 generalize bH (bH (bH M ph []) p0 []) pl [D.ref p0] = M1 at ks0 ⊢
 refine ⟨_,ks0.sub _ _ ht,?_⟩
 refine ⟨fun i ρ M'=>i<=ls.length/\∃ (hs:List Ln) (fs:List (Addr × List D)) (o3 o4 o5 o6:Option D),KS M M' ph pl (hs.map hdD) fs/\(∀ h ∈ hs,isO h)/\(fs.length = hs.length + 1/\hs.length<=i/\∀ f ∈ fs,f.2.length<=i)/\vld hs.length (ls.drop i)/\dpt hs.length (ls.drop i) = dpt 0 ls/\ρ = [some (.ref pt),some (.ref ph),some (.ref pl),o3,o4,o5,o6],?_,?_,?_,?_⟩
 ·refine ⟨Nat.zero_le _,[],[(p0,[])],none,none,none,none,ks0,(fun h hh=>by cases hh),⟨rfl,Nat.zero_le _,fun f hf=>by rw [List.mem_singleton.mp hf];exact Nat.zero_le _⟩,?_,?_,rfl⟩
  ·exact v0
  ·rfl
 ·rintro i ρ M' _ ⟨_,hs,fs,_,_,_,_,ks,_⟩
  exact ks.sub _ _ ht
 ·rintro i d ρ M' hd ⟨il,hs,fs,o3,o4,o5,o6,ks,ho,⟨hlen,b1,b2⟩,hv,hf,rfl⟩
  by_cases ci:i < ls.length
  ·rw [getElem?_append_left (by rw [length_map];exact ci),getElem?_map] at hd
   cases hl:ls[i]? with
   | none=>rw [hl] at hd;cases hd
   | some l =>
    rw [hl] at hd
    cases hd
    have li:=(List.getElem?_eq_some_iff.mp hl).1
    have edr:ls.drop i = l :: ls.drop (i + 1):=by
     rw [List.drop_eq_getElem_cons li,(List.getElem?_eq_some_iff.mp hl).2]
    rw [edr] at hv hf
    have lvl:=lv l (mem_of_getElem? hl)
    ac_nf
    refine ⟨rfl,.inl ⟨l,rfl,lvl,fun M2 s2=>?_⟩⟩
    have ks:=ks.mono s2
    clear s2
    ac_nf
    by_cases hop:isO l
    ·obtain ⟨o1,o2,k0,r0,o3',o4'⟩:=opD hop
     rw [aK]
     refine ifF (decide_eq_false fun z=>by rw [tI.mp z] at hop;exact hop) ?_
     rw [o1,o3']
     ac_nf
     refine ifF rfl ?_
     rw [zG]
     ac_nf
     refine ⟨_,rfl,.inr ⟨o4',?_⟩⟩
     ac_nf
     refine ifT rfl ⟨⟨_,ks.hh⟩,_,_,rfl,ks.hh,by rw [length_map];omega,?_⟩
     obtain ⟨n1,n2⟩:=ks.ne
     refine ⟨⟨_,by rw [bI (Ne.symm n1)];exact ks.hl⟩,by decide,fun p9 hp9=>?_⟩
     obtain ⟨np,hp1⟩:=fU hp9
     have npl:pl ≠ p9:=fun e=>by rw [<- e,ks.hl] at hp1;cases hp1
     refine ⟨_,_,rfl,by rw [bI npl,bI (Ne.symm n1)];exact ks.hl,by rw [length_map];omega,?_⟩
     have kp:=ks.push (.tup (.str k0 :: r0)) hp9
     refine ⟨by omega,hs ++ [l],fs ++ [(p9,[])],_,_,_,_,?_,?_,⟨?_,?_,?_⟩,?_,?_,rfl⟩
     ·rw [map_append,map_cons,map_nil,o1,o3'];exact kp
     ·intro x hx
      rcases List.mem_append.mp hx with hx | hx
      ·exact ho x hx
      ·rw [List.mem_singleton.mp hx];exact hop
     ·rw [length_append,length_append,length_singleton,length_singleton,hlen]
     ·rw [length_append,length_singleton];omega
     ·intro f hf
      rcases List.mem_append.mp hf with hf | hf
      ·have:=b2 f hf;omega
      ·rw [List.mem_singleton.mp hf];exact Nat.zero_le _
     ·rw [length_append,length_singleton]
      exact aAe hop hv
     ·rw [length_append,length_singleton,<- hf,lO hop]
    cases l with
    | en =>
     cases hs with
     | nil=>exact hv.elim
     | cons h0 hs0 =>
      obtain ⟨hs,h,eh⟩:=iF (xs:=h0 :: hs0) (by simp)
      rw [eh] at ks ho hlen b1 hv hf
      rw [length_append,length_singleton] at hv hlen b1
      have nf:fs ≠ []:=fun z=>by rw [z] at hlen;simp at hlen
      obtain ⟨fs1,⟨r,e⟩,rfl⟩:=iF nf
      have nf1:fs1 ≠ []:=fun z=>by rw [z] at hlen;simp at hlen
      obtain ⟨gs,⟨q0,u⟩,rfl⟩:=iF nf1
      rw [aK]
      refine ifT (decide_eq_true rfl) ⟨by decide,fun pe hpe=>?_⟩
      have ks:=ks.mono (aZ.new hpe [])
      have hpe2:bH M2 pe [] pe = some []:=aJ
      generalize bH M2 pe [] = M3 at ks hpe2 ⊢
      clear hpe
      rw [map_append,map_cons,map_nil] at ks
      obtain ⟨n1,n2⟩:=ks.ne
      obtain ⟨o1,o2,_⟩:=opD (ho h (by simp))
      refine ⟨_,ks.hh,hpe2,?_⟩
      refine ifT (by simp) ?_
      have hr':=(n2 (r,e) (by simp))
      have hq':=(n2 (q0,u) (by simp))
      refine ⟨_,_,ks.hh,wG,_,D.ref r,by rw [bI (Ne.symm n1)];exact ks.hl,by rw [map_append,map_cons,map_nil];exact wG,?_⟩
      rw [o1,dropLast_concat,show (map (fun f=>D.ref f.1) (gs ++ [(q0,u)] ++ [(r,e)])).dropLast = (gs ++ [(q0,u)]).map (fun f=>D.ref f.1) by rw [map_append,map_cons,map_nil,dropLast_concat]]
      refine ⟨e,by rw [bI hr'.2,bI hr'.1];exact ks.it (r,e) (by simp),by decide,?_⟩
      have le:e.length<=i:=b2 (r,e) (by simp)
      have lu:u.length<=i:=b2 (q0,u) (by simp)
      refine ⟨by show (hw h).length + 1<=1000;omega,_,D.ref q0,aJ,by rw [map_append];exact aAJ,⟨u,by rw [bI hq'.2,bI hq'.1];exact ks.it (q0,u) (by simp)⟩,u,_,rfl,by rw [bI hq'.2,bI hq'.1];exact ks.it (q0,u) (by simp),by omega,?_⟩
      refine ⟨by omega,hs,gs ++ [(q0,u ++ [.tup (hw h ++ [.tup e])])],_,_,_,_,ks.pop _,fun x hx=>ho x (mem_append_left _ hx),⟨?_,by omega,fun f hf=>?_⟩,hv,?_,rfl⟩
      ·rw [length_append,length_append,length_singleton,length_singleton] at hlen
       rw [length_append,length_singleton];omega
      ·rcases List.mem_append.mp hf with hf | hf
       ·have:=b2 f (mem_append_left _ (mem_append_left _ hf));omega
       ·rw [List.mem_singleton.mp hf]
        show (u ++ [_]).length<=i + 1
        rw [length_append,length_singleton];omega
      ·rw [<- hf,length_append,length_singleton];rfl
    | pl p =>
     have nf:fs ≠ []:=fun z=>by rw [z] at hlen;simp at hlen
     obtain ⟨gs,⟨q0,u⟩,rfl⟩:=iF nf
     have lu:u.length<=i:=b2 (q0,u) (by simp)
     rw [aK]
     refine ifF (decide_eq_false fun z=>by cases tI.mp z) ?_
     rw [show hdD (.pl p) = plD p from rfl,mX]
     ac_nf
     refine ifF rfl ?_
     rw [zG]
     ac_nf
     refine ⟨_,rfl,.inl ⟨_,aAS p,?_⟩⟩
     ac_nf
     refine ifF rfl ⟨_,D.ref q0,ks.hl,by rw [map_append];exact aAJ,⟨u,ks.it (q0,u) (by simp)⟩,u,_,rfl,ks.it (q0,u) (by simp),by omega,?_⟩
     rw [<- mX]
     refine ⟨by omega,hs,gs ++ [(q0,u ++ [plD p])],_,_,_,_,ks.top _,ho,⟨?_,by omega,fun f hf=>?_⟩,?_,?_,rfl⟩
     ·rw [length_append,length_singleton] at hlen
      rw [length_append,length_singleton];omega
     ·rcases List.mem_append.mp hf with hf | hf
      ·have:=b2 f (mem_append_left _ hf);omega
      ·rw [List.mem_singleton.mp hf]
       show (u ++ [_]).length<=i + 1
       rw [length_append,length_singleton];omega
     ·generalize hs.length = k at hv ⊢
      cases k<;>exact hv
     ·exact hf
    | ag n=>exact absurd trivial hop
    | kp=>exact absurd trivial hop
    | ev=>exact absurd trivial hop
  ·have ei:i = ls.length:=by omega
   subst ei
   rw [getElem?_append_right (by rw [length_map];exact Nat.le_refl _),length_map,Nat.sub_self] at hd
   rw [drop_length] at hf
   replace hf:hs.length = dpt 0 ls:=hf
   rcases how with ⟨t,r,rfl,st⟩ | ⟨rfl,_⟩
   ·cases hd
    ac_nf
    rcases st with st | ⟨rfl,d0⟩
    ·refine ⟨rfl,.inr ⟨t,rfl,st,fun M2 s2=>?_⟩⟩
     ac_nf
     rw [aK]
     refine ifF (decide_eq_false fun z=>by rw [z] at st;exact absurd st (by decide)) ?_
     ac_nf
     exact ifF rfl ⟨rfl,ks.sub.trans s2⟩
    ·refine ⟨rfl,.inl ⟨.en,rfl,trivial,fun M2 s2=>?_⟩⟩
     have ks:=ks.mono s2
     obtain rfl:hs = []:=List.eq_nil_of_length_eq_zero (by omega)
     ac_nf
     rw [aK]
     refine ifT (decide_eq_true rfl) ⟨by decide,fun pe hpe=>⟨_,(aZ.new hpe _) _ _ ks.hh,aJ,ifF rfl ?_⟩⟩
     exact ⟨rfl,ks.sub.trans (aZ.new hpe _)⟩
   ·cases hd
 ·rintro ρ M' ⟨il,hs,fs,o3,o4,o5,o6,ks,ho,⟨hlen,b1,b2⟩,hv,hf,rfl⟩
  rcases how with ⟨t,r,rfl,st⟩ | ⟨rfl,d0⟩
  ·rw [length_append,length_map,length_map,length_cons] at il
   omega
  ·rw [length_append,length_map,map_nil,length_nil,Nat.add_zero,drop_length] at hf
   replace hf:hs.length = dpt 0 ls:=hf
   ac_nf
   obtain ⟨h0,hs0,rfl⟩:=List.exists_cons_of_ne_nil (l:=hs) fun z=>by rw [z] at hf;exact absurd hf (by show 0 ≠ _;omega)
   refine ⟨by decide,fun pe hpe=>⟨_,(aZ.new hpe _) _ _ ks.hh,aJ,ifT rfl ⟨_,(aZ.new hpe _) _ _ (ks.sub _ _ ht),?_,ks.sub.trans (aZ.new hpe _)⟩⟩⟩
   rw [map_nil,append_nil,length_map]
def nR:DSp:=fun ds M Q=>∃ q:Rat,ds = [FQ q]/\BQ 110 q/\Q (.str (qt q)) M
noncomputable abbrev lG:Stmt:=top 70
theorem yU:aR ["number"] ["number"] (aH lG):=⟨rfl,rfl,rfl,by decide +kernel,rfl,by decide +kernel,by decide +kernel⟩
theorem vU (hF:cE K mg "number_text" lG ["number"]):Has P w K mg base 101 "number_text" ["number"] nR:=by
 refine Has.mkZ hF yU (fun ds M Q ⟨_,z,_⟩=>by rw [z];rfl) fun f cdv A outer s H ds M Q E hr h=>?_
 obtain ⟨x,rfl,bx,q⟩:=h
 refine ⟨_,(aE (aM (cA (aN (bO hr) (aI (aA 0) aC) aC) (aI9 (aI (aA 0) aC)) (aH6 (aI (aA 0) aC) (aI (aA 0) aC))))),?_⟩
 have b1:=vB bx.1
 have b2:=vB bx.2
 have l1:=Ty.nt_len b1
 have l2:=Ty.nt_len b2
 unfold qt at q
 ac_nf
 rw [cB]
 by_cases c:x.den = 1
 ·rw [if_pos c] at q
  exact ifT (decide_eq_true (by rw [c];rfl)) ⟨Ty.log_small b1,aX q⟩
 ·rw [if_neg c] at q
  rw [s47]
  have e1:(Ty.nt x.num ++ Ty.one 47).length<=1000000:=by
   rw [Ty.len_cl,Ty.cl_app,length_append];rw [Ty.len_cl] at l1;show _ + 1<=_;omega
  have e2:(Ty.nt x.num ++ Ty.one 47 ++ Ty.nt (x.den:Int)).length<=1000000:=by
   rw [Ty.len_cl,Ty.cl_app,Ty.cl_app,length_append,length_append];rw [Ty.len_cl] at l1 l2;show _ + 1 + _<=_;omega
  exact ifF (decide_eq_false (by omega)) ⟨Ty.log_small b1,e1,Ty.log_small b2,e2,aX q⟩
theorem aID (n:Nat):Str.ofString "again " ++ Ty.nt (n:Int) = lnT (.ag n):=by
 refine Ty.ext ?_
 unfold lnT
 rw [Ty.cl_app,Ty.cl_join]
 show _ = Ty.cl (Str.ofString "again") ++ 32 :: Ty.cl (Ty.nt (n:Int))
 rw [show Ty.cl (Str.ofString "again ") = Ty.cl (Str.ofString "again") ++ [32] by decide +kernel,append_assoc];rfl
noncomputable def LS (l:Ln):D:=.str (lnT l)
theorem sA:∀ xs ys:List Rw,lsS (xs ++ ys) = lsS xs ++ lsS ys
 | [],ys=>by rw [lsS];rfl
 | x :: xs,ys=>by rw [cons_append,lsS,lsS,sA xs ys,append_assoc]
theorem aJy {rs:List Rw} {i:Nat} {r:Rw} (h:rs[i]? = some r):lsS (rs.take (i + 1)) = lsS (rs.take i) ++ lsR r:=by
 rw [iE h,sA,lsS,lsS,append_nil]
theorem aNl {rs:List Rw} {i:Nat} {r:Rw} (h:rs[i]? = some r):∃ ys,lsS rs = lsS (rs.take i) ++ lsR r ++ ys:=by
 refine ⟨lsS (rs.drop (i + 1)),?_⟩
 rw [<- aJy h,<- sA,List.take_append_drop]
def nX (d:Nat):DSp:=fun ds M Q=>∃ rs:List Rw,ds = [.tup (dF rs)]/\DpS d rs/\(∀ l ∈ lsS rs,lnV l)/\(lsS rs).length<=400/\∀ (p:Addr) (M':DM),aZ M M'->M (.l p) = none->M' (.l p) = some ((lsS rs).map LS)->Q (.ref p) M'
noncomputable abbrev mT:Stmt:=top 69
theorem hG:aR ["rows","lines","row","within"] ["rows"] (aH mT):=⟨rfl,rfl,rfl,by decide +kernel,rfl,by decide +kernel,by decide +kernel⟩
theorem aA6 (hF:cE K mg "lines_of" mT ["rows"]) (bT:Has P w K mg base 101 "rows_within" ["row"] gB) (lF:Has P w K mg base 101 "number_text" ["number"] nR):Has P w K mg base 118 "lines_of" ["rows"] (nX 8):=by
 have all:∀ d,Has P w K mg base (110 + d) "lines_of" ["rows"] (nX d):=fun d=>by
  induction d with
  | zero=>exact (Has.never hF hG 109).imp fun ds M Q ⟨rs,_,z,_⟩=>z
  | succ d jT =>
   refine Has.mkZ (k:=110 + d) hF hG (fun ds M Q ⟨a,z,_⟩=>by rw [z];rfl) fun f cdv A outer s H ds M Q E hr h=>?_
   obtain ⟨rs,rfl,dp,lv,ln,q⟩:=h
   refine ⟨_,(aF (aP (i:=1) hG.nd (cK aD))
  (aF (jY PassesOwn.never rfl (aA 0) (aS (i:=2) hG.nd) (aF (aP (i:=3) hG.nd (aG bT hr (by omega) (aB (aA 2) aD)))
  (aE (aV (aN lS (aA 3) bL) (aE (eC (dH (aA 1) (pJ aL (aO dZ (cK (aB (aI (aA 2) aC) aD)) (aAL (⟨rfl,by decide +kernel,by decide +kernel,by decide +kernel,rfl,by decide +kernel⟩:oW ["rows","lines","row","within"] (aH mT) ["number"] [none] _) rfl (qP (aA 2) (gC aC) jU) (fun _ _ _ _ _=>(aS (i:=0) (show Nodup (["number"]:List Str) by decide +kernel))) (fun _ _ _ _ _=>(aG lF hr (by omega) (aB (aA 0) aD))))))))) (aF (eC (dH (aA 1) (cA (aN (bO hr) (aI (aA 2) aC) aL) (aHK (aI (aA 2) aC)) (aI (aA 2) aC))))
  (aE (aHv (i:=1) hG.nd (aO dZ (aG jT hr (by omega) (aB (aA 3) aD)) (cK (aB aL aD))))))))))
  (aE (aM (aA 1))))),?_⟩
   ac_nf
   refine ⟨by decide,fun pl hpl=>?_⟩
   refine ⟨fun i ρ M'=>aZ M M'/\M' (.l pl) = some ((lsS (rs.take i)).map LS)/\∃ o2 o3,ρ = [some (.tup (dF rs)),some (.ref pl),o2,o3],⟨aZ.new hpl _,by rw [take_zero,lsS];exact aJ,none,none,rfl⟩,fun i ρ M' _ _ a e=>(by cases e),?_,?_⟩
   ·rintro i d1 ρ M1 hd ⟨sb,hl,o2,o3,rfl⟩
    obtain ⟨r,hr',rfl⟩:=oU hd
    have dr:=dp.2 r (mem_of_getElem? hr')
    obtain ⟨ys,ey⟩:=aNl hr'
    have l1:(lsS (rs.take i)).length + (lsR r).length<=400:=by rw [ey,length_append,length_append] at ln;omega
    have vr:∀ l ∈ lsR r,lnV l:=fun l hl=>lv l (by rw [ey];exact mem_append_left _ (mem_append_right _ hl))
    have nx:=aJy hr'
    ac_nf
    refine ⟨r,rfl,?_⟩
    cases r with
    | pl p =>
     rw [lsR] at vr l1 nx
     have vp:=vr (.pl p) (by simp)
     have nl:=aB2 p
     dsimp only [inR]
     ac_nf
     refine ifT rfl ⟨⟨_,hl⟩,?_⟩
     rw [show rwD (.pl p) = plD p by rw [rwD],mX]
     ac_nf
     rw [zG]
     ac_nf
     refine ⟨by decide,fun p1 hp1=>?_⟩
     rw [yT]
     have s1:=aZ.new hp1 [D.str (wd p)]
     have h1:bH M1 p1 [D.str (wd p)] (.l p1) = some [D.str (wd p)]:=aJ
     generalize bH M1 p1 [D.str (wd p)] = M2 at s1 h1 ⊢
     refine ⟨by rw [length_map];omega,fun i ys M'=>M' = M2/\ys = ((nu p).take i).map (fun q=>D.str (qt q)),⟨rfl,rfl⟩,fun i ys M' _ _ a e=>(by cases e),?_,?_⟩
     ·rintro i d ys M' hd ⟨rfl,rfl⟩
      rw [getElem?_map] at hd
      cases e:(nu p)[i]? with
      | none=>rw [e] at hd;cases hd
      | some x =>
       rw [e] at hd
       cases hd
       ac_nf
       exact ⟨x,rfl,vp x (mem_of_getElem? e),rfl,by rw [iE e,map_append];rfl⟩
     rintro ys M' _ ⟨rfl,rfl⟩ p2 hp2
     rw [length_map,take_length]
     have s2:=s1.trans (aZ.new hp2 ((nu p).map fun q=>D.str (qt q)))
     obtain ⟨w1,w2⟩:=aAG (l:=.pl p) vp
     refine ⟨_,_,(aZ.new hp2 _) _ _ h1,aJ,by rw [length_map];show 1 + _<=1000;omega,fun p3 hp3=>⟨lnW (.pl p),?_,?_,_,_,rfl,(s2.trans (aZ.new hp3 _)) _ _ hl,by rw [length_map];omega,fF (sb.trans (s2.trans (aZ.new hp3 _))) hpl,?_,_,_,rfl⟩⟩
     ·rw [aJ]
      show some (D.str (wd p) :: (nu p).map fun q=>D.str (qt q)) = some (((wd p) :: (nu p).map qt).map D.str)
      rw [map_cons,map_map];rfl
     ·have:=wT w2
      rw [s32]
      show _ + _ * 1<=_
      omega
     ·rw [aJ,nx,map_append,s32];rfl
    | ag n ws =>
     rw [lsR] at vr l1 nx
     rw [length_cons,length_append,length_singleton] at l1
     have vp:n<=12:=vr (.ag n) (by simp)
     have vw:∀ l ∈ lsS ws,lnV l:=fun l hl=>vr l (by simp [hl])
     dsimp only [inR]
     ac_nf
     refine ifF rfl ⟨⟨_,hl⟩,?_⟩
     rw [show rwD (.ag n ws) = .tup [.str "again",.int (n:Int),.tup (dF ws)] by rw [rwD]]
     ac_nf
     rw [aK]
     have n120:((n:Int)).natAbs < 2 ^ 120:=by show n < 2 ^ 120;omega
     refine ifT (by decide) ⟨Ty.log_small n120,?_⟩
     rw [show Str.ofString "again " ++ Str.ofString (toString (n:Int)) = lnT (.ag n) from aID n]
     have ll:=sY (l:=.ag n) vp
     refine ⟨by omega,_,_,rfl,hl,by rw [length_map];omega,?_⟩
     have sb1:aZ M (bH M1 pl ((lsS (rs.take i)).map LS ++ [D.str (lnT (.ag n))])):=fF sb hpl
     have hl1:bH M1 pl ((lsS (rs.take i)).map LS ++ [D.str (lnT (.ag n))]) (.l pl) = some ((lsS (rs.take i)).map LS ++ [D.str (lnT (.ag n))]):=aJ
     generalize bH M1 pl ((lsS (rs.take i)).map LS ++ [D.str (lnT (.ag n))]) = M2 at sb1 hl1 ⊢
     ac_nf
     refine ⟨ws,rfl,(vI dr).2,vw,by omega,fun p2 M3 s3 hp2 h2=>?_⟩
     ac_nf
     refine ⟨by decide,fun p3 hp3=>?_⟩
     have s3':=s3.trans (aZ.new hp3 [D.str "end"])
     refine ⟨_,_,(aZ.new hp3 _) _ _ h2,aJ,by rw [length_map];show _ + 1<=1000;omega,fun p4 hp4=>?_⟩
     have s4:=s3'.trans (aZ.new hp4 ((lsS ws).map LS ++ [D.str "end"]))
     refine ⟨_,_,s4 _ _ hl1,aJ,by rw [length_append,length_append,length_map,length_map,length_singleton,length_singleton];omega,fF (sb1.trans s4) hpl,?_,_,_,rfl⟩
     rw [aJ,nx,map_append,map_cons,map_append,map_cons,map_nil,append_assoc]
     rfl
    | kp ws =>
     rw [lsR] at vr l1 nx
     rw [length_cons,length_append,length_singleton] at l1
     have vw:∀ l ∈ lsS ws,lnV l:=fun l hl=>vr l (by simp [hl])
     dsimp only [inR]
     ac_nf
     refine ifF rfl ⟨⟨_,hl⟩,?_⟩
     rw [show rwD (.kp ws) = .tup [.str "keep",.tup (dF ws)] by rw [rwD]]
     ac_nf
     rw [aK]
     refine ifF (by decide) ?_
     rw [show D.str (Str.ofString "keep") = D.str (lnT .kp) from rfl]
     have ll:=sY (l:=.kp) trivial
     refine ⟨_,_,rfl,hl,by rw [length_map];omega,?_⟩
     have sb1:aZ M (bH M1 pl ((lsS (rs.take i)).map LS ++ [D.str (lnT .kp)])):=fF sb hpl
     have hl1:bH M1 pl ((lsS (rs.take i)).map LS ++ [D.str (lnT .kp)]) (.l pl) = some ((lsS (rs.take i)).map LS ++ [D.str (lnT .kp)]):=aJ
     generalize bH M1 pl ((lsS (rs.take i)).map LS ++ [D.str (lnT .kp)]) = M2 at sb1 hl1 ⊢
     ac_nf
     refine ⟨ws,rfl,xZ dr,vw,by omega,fun p2 M3 s3 hp2 h2=>?_⟩
     ac_nf
     refine ⟨by decide,fun p3 hp3=>?_⟩
     have s3':=s3.trans (aZ.new hp3 [D.str "end"])
     refine ⟨_,_,(aZ.new hp3 _) _ _ h2,aJ,by rw [length_map];show _ + 1<=1000;omega,fun p4 hp4=>?_⟩
     have s4:=s3'.trans (aZ.new hp4 ((lsS ws).map LS ++ [D.str "end"]))
     refine ⟨_,_,s4 _ _ hl1,aJ,by rw [length_append,length_append,length_map,length_map,length_singleton,length_singleton];omega,fF (sb1.trans s4) hpl,?_,_,_,rfl⟩
     rw [aJ,nx,map_append,map_cons,map_append,map_cons,map_nil,append_assoc]
     rfl
    | ev ws =>
     rw [lsR] at vr l1 nx
     rw [length_cons,length_append,length_singleton] at l1
     have vw:∀ l ∈ lsS ws,lnV l:=fun l hl=>vr l (by simp [hl])
     dsimp only [inR]
     ac_nf
     refine ifF rfl ⟨⟨_,hl⟩,?_⟩
     rw [show rwD (.ev ws) = .tup [.str "ever",.tup (dF ws)] by rw [rwD]]
     ac_nf
     rw [aK]
     refine ifF (by decide) ?_
     rw [show D.str (Str.ofString "ever") = D.str (lnT .ev) from rfl]
     have ll:=sY (l:=.ev) trivial
     refine ⟨_,_,rfl,hl,by rw [length_map];omega,?_⟩
     have sb1:aZ M (bH M1 pl ((lsS (rs.take i)).map LS ++ [D.str (lnT .ev)])):=fF sb hpl
     have hl1:bH M1 pl ((lsS (rs.take i)).map LS ++ [D.str (lnT .ev)]) (.l pl) = some ((lsS (rs.take i)).map LS ++ [D.str (lnT .ev)]):=aJ
     generalize bH M1 pl ((lsS (rs.take i)).map LS ++ [D.str (lnT .ev)]) = M2 at sb1 hl1 ⊢
     ac_nf
     refine ⟨ws,rfl,aCw dr,vw,by omega,fun p2 M3 s3 hp2 h2=>?_⟩
     ac_nf
     refine ⟨by decide,fun p3 hp3=>?_⟩
     have s3':=s3.trans (aZ.new hp3 [D.str "end"])
     refine ⟨_,_,(aZ.new hp3 _) _ _ h2,aJ,by rw [length_map];show _ + 1<=1000;omega,fun p4 hp4=>?_⟩
     have s4:=s3'.trans (aZ.new hp4 ((lsS ws).map LS ++ [D.str "end"]))
     refine ⟨_,_,s4 _ _ hl1,aJ,by rw [length_append,length_append,length_map,length_map,length_singleton,length_singleton];omega,fF (sb1.trans s4) hpl,?_,_,_,rfl⟩
     rw [aJ,nx,map_append,map_cons,map_append,map_cons,map_nil,append_assoc]
     rfl
   ·rintro ρ M' ⟨sb,hl,o2,o3,rfl⟩
    rw [lX,take_length] at hl
    exact aX (q pl M' sb hpl hl)
 exact all 8
noncomputable def txt (rs:List Rw):Str:=Builtin.Str.glued (Ty.one 10) ((lsS rs).map lnT)
theorem aMe (l:Ln):0 < (lnT l).length:=by
 unfold lnT
 rw [size_glued]
 have:∃ x r,lnW l = x :: r/\0 < x.length:=by
  cases l with
  | pl p =>
   refine ⟨_,_,rfl,?_⟩
   have h:∀ x ∈ [("go":Str),"side","skip","dot","left","right","round","mirror","grow","quarter","half","arc"],0 < x.length:=by decide +kernel
   exact h _ (by cases p<;>dsimp only [wd]<;>decide)
  | ag n=>exact ⟨_,_,rfl,by decide +kernel⟩
  | kp=>exact ⟨_,_,rfl,by decide +kernel⟩
  | ev=>exact ⟨_,_,rfl,by decide +kernel⟩
  | en=>exact ⟨_,_,rfl,by decide +kernel⟩
 obtain ⟨x,r,e,h⟩:=this
 rw [e,map_cons,sum_cons]
 omega
def LnT (t:Str):Prop:=0 < t.length/\t.length<=405/\10 ∉ Ty.cl t
theorem aAW {l:Ln} (h:lnV l):LnT (lnT l):=⟨aMe l,sY h,aHQ l⟩
theorem aJN:∀ t ∈ sB,LnT t:=fun t h=>by
 obtain ⟨_,_,_,a,b⟩:=tV t h
 have p:∀ t ∈ sB,0 < t.length:=by decide +kernel
 exact ⟨p t h,by omega,b⟩
theorem tS {ts:List Str} (h:∀ t ∈ ts,LnT t) (l:ts.length<=120):(Builtin.Str.glued (Ty.one 10) ts).length<=80000/\(ts.map (·.length)).sum + ts.length * (Ty.one 10).length<=1000000:=by
 have:=wT (b:=405) (xs:=ts) fun x hx=>(h x hx).2.1
 rw [size_glued]
 show _ + _ * 1<=80000/\_ + _ * 1<=1000000
 omega
theorem aG8 {ts:List Str} (h:∀ t ∈ ts,LnT t) (n:ts ≠ []):Builtin.Str.glued (Ty.one 10) ts ≠ Str.ofString "":=fun z=>by
 cases ts with
 | nil=>exact n rfl
 | cons t ts =>
  have p:=(h t (mem_cons_self ..)).1
  have:0 < (Builtin.Str.glued (Ty.one 10) (t :: ts)).length:=by rw [size_glued,map_cons,sum_cons];omega
  rw [z] at this
  exact absurd this (by decide +kernel)
theorem aKx (ls:List Ln):ls.map LS = (ls.map lnT).map D.str:=by rw [map_map];rfl
def xM:DSp:=fun ds M Q=>∃ rs:List Rw,ds = [.tup (dF rs)]/\DpS 8 rs/\(∀ l ∈ lsS rs,lnV l)/\(lsS rs).length<=120/\∀ M',aZ M M'->Q (.str (txt rs)) M'
noncomputable abbrev uQ:Stmt:=top 68
theorem aDs:aR ["program"] ["program"] (aH uQ):=⟨rfl,rfl,rfl,by decide +kernel,rfl,by decide +kernel,by decide +kernel⟩
theorem aCG (hF:cE K mg "written" uQ ["program"]) (jT:Has P w K mg base 118 "lines_of" ["rows"] (nX 8)):Has P w K mg base 119 "written" ["program"] xM:=by
 refine Has.mkZ hF aDs (fun ds M Q ⟨_,z,_⟩=>by rw [z];rfl) fun f cdv A outer s H ds M Q E hr h=>?_
 obtain ⟨rs,rfl,d8,lv,ll,q⟩:=h
 refine ⟨_,(aE (aM (pJ aL (aG jT hr (by decide) (aB (aA 0) aD))))),?_⟩
 ac_nf
 refine ⟨rs,rfl,d8,lv,by omega,fun p M' sb hp h1=>?_⟩
 ac_nf
 refine ⟨(lsS rs).map lnT,by rw [h1,aKx],?_,?_⟩
 ·rw [s10]
  exact (tS (fun t ht=>by obtain ⟨l,hl,rfl⟩:=List.mem_map.mp ht;exact aAW (lv l hl)) (by rw [length_map];exact ll)).2
 ·rw [s10]
  exact aX (q _ sb)
structure OkR (rs:List Rw):Prop where
 lv:∀ l ∈ lsS rs,lnV l
 ln:(lsS rs).length<=100
 va:mI (ofS rs)/\boS (ofS rs)
 hm:hmS rs<=60
theorem OkR.lt {rs:List Rw} (h:OkR rs):∀ t ∈ (lsS rs).map lnT,LnT t:=fun t ht=>by
 obtain ⟨l,hl,rfl⟩:=List.mem_map.mp ht
 exact aAW (h.lv l hl)
theorem aDU {rs:List Rw} (h:rs ≠ []):(lsS rs).map lnT ≠ []:=by
 cases rs with
 | nil=>exact absurd rfl h
 | cons r rs =>
  rw [lsS]
  cases r<;>rw [lsR]<;>simp
def aDQ:DSp:=fun ds M Q=>∃ rs:List Rw,ds = [.str (txt rs)]/\OkR rs/\(∃ b,lkS (ofS rs) 0 [] = .inl b)/\∀ M',aZ M M'->Q (.tup (dF rs)) M'
noncomputable abbrev aAC:Stmt:=top 71
theorem aA0:aR ["text"] ["text"] (aH aAC):=⟨rfl,rfl,rfl,by decide +kernel,rfl,by decide +kernel,by decide +kernel⟩
theorem aGL (hF:cE K mg "read" aAC ["text"]) (hJ:Has P w K mg base 105 "rows_of" ["lines"] rJ) (dB:Has P w K mg base 129 "program_of" ["rows"] iT):Has P w K mg base 130 "read" ["text"] aDQ:=by
 refine Has.mkZ hF aA0 (fun ds M Q ⟨_,z,_⟩=>by rw [z];rfl) fun f cdv A outer s H ds M Q E hr h=>?_
 obtain ⟨rs,rfl,ok,lk,q⟩:=h
 refine ⟨_,(aE (aM (aG dB hr (by decide) (aB (cA (aN (fX hr) (aA 0) aL) (aG hJ hr (by decide) (aB (fM (aA 0) aL) aD)) (aQ aD)) aD)))),?_⟩
 by_cases ne:rs = []
 ·subst ne
  ac_nf
  rw [aK]
  refine ifF (by rw [decide_eq_true (show txt [] = Str.ofString "" by unfold txt;rw [lsS];decide +kernel)];rfl) ⟨by decide,ofS [],by rw [wL,dF],ok.va,by rw [iO];exact ok.hm,lk,?_⟩
  rw [wL]
  exact aX (q _ (.refl _))
 ·have ll:=ok.ln
  ac_nf
  rw [aK]
  refine ifT (by rw [decide_eq_false (show ¬ txt rs = Str.ofString "" from aG8 ok.lt (aDU ne))];rfl) ⟨10,(lsS rs).map lnT,s10,rfl,aDU ne,fun s hs=>(ok.lt s hs).2.2,by decide,Nat.le_trans (tS ok.lt (by rw [length_map];omega)).1 (by decide),fun p hp=>?_⟩
  ac_nf
  refine ⟨p,rs,rfl,by rw [aJ,map_map];rfl,ok.lv,by omega,fun M' sb=>?_⟩
  refine ⟨ofS rs,by rw [wL],ok.va,by rw [iO];exact ok.hm,lk,?_⟩
  rw [wL]
  exact aX (q _ ((aZ.new hp _).trans sb))
def aJm:List D->DM->Int->Prop:=fun ds M i=>∃ (ls:List Ln) (tl:List Str),ds = [.str (Builtin.Str.glued (Ty.one 10) (ls.map lnT ++ tl))]/\(∀ l ∈ ls,lnV l)/\(∀ t ∈ tl,LnT t)/\vld 0 ls/\ls.length + tl.length<=100/\((∃ t r,tl = t :: r/\aJk (dpt 0 ls) t) ∨ (tl = []/\0 < dpt 0 ls))/\i = (ls.length:Int)
def aJf:List D->DM->Int->Prop:=fun ds M i=>∃ rs:List Rw,ds = [.str (txt rs)]/\OkR rs/\rs ≠ []/\lkS (ofS rs) 0 [] = .inr i
theorem aGm {C_NoText C_NoRow:Addr} (hF:cE K mg "read" aAC ["text"]) (iC:jZ P w K mg base "NoText" C_NoText "line") (gH:jZ P w K mg base "NoRow" C_NoRow "row") (uM:eT P w K mg base 105 "rows_of" ["lines"] C_NoText "line" aJe) (hJ:Has P w K mg base 105 "rows_of" ["lines"] rJ) (mR:eT P w K mg base 129 "program_of" ["rows"] C_NoRow "row" aJG) (dB:Has P w K mg base 129 "program_of" ["rows"] iT):eT P w K mg base 130 "read" ["text"] C_NoText "line" aJm/\eT P w K mg base 130 "read" ["text"] C_NoRow "row" aJf:=by
 constructor
 ·refine eT.mkZ hF iC aA0 (fun ds M i ⟨_,_,z,_⟩=>by rw [z];rfl) fun f cdv A outer s H ds M iw E hr h hRO hPO=>?_
  obtain ⟨ls,tl,rfl,lv,lt,vl,ll,how,rfl⟩:=h
  refine ⟨_,(aE (wN (aM (aG dB hr (by decide) (aB (cA (aN (fX hr) (aA 0) aL) (pP uM hr (by decide) hPO (aB (fM (aA 0) aL) aD)) (aQ aD)) aD)))
  (aM (aG dB hr (by decide) (aB (cA (aN (fX hr) (aA 0) aL) (aG hJ hr (by decide) (aB (fM (aA 0) aL) aD)) (aQ aD)) aD))))),?_⟩
  have all:∀ t ∈ ls.map lnT ++ tl,LnT t:=fun t ht=>by
   rcases List.mem_append.mp ht with ht | ht
   ·obtain ⟨l,hl,rfl⟩:=List.mem_map.mp ht
    exact aAW (lv l hl)
   ·exact lt t ht
  have ne:ls.map lnT ++ tl ≠ []:=by
   rcases how with ⟨t,r,rfl,_⟩ | ⟨_,d0⟩
   ·simp
   ·intro z
    have:ls = []:=List.map_eq_nil_iff.mp (List.append_eq_nil_iff.mp z).1
    rw [this] at d0
    exact absurd d0 (by show ¬ 0 < 0;decide)
  have l9:(ls.map lnT ++ tl).length<=120:=by rw [length_append,length_map];omega
  ac_nf
  refine .inl ?_
  rw [aK]
  refine ifT (by rw [decide_eq_false (aG8 all ne)];rfl) ⟨10,ls.map lnT ++ tl,s10,rfl,ne,fun s hs=>(all s hs).2.2,by decide,Nat.le_trans (tS all l9).1 (by decide),fun p hp=>?_⟩
  ac_nf
  exact ⟨_,⟨p,ls,tl,rfl,by rw [aJ,map_append,map_map];rfl,lv,vl,by omega,how,rfl⟩,fun M' sb=>⟨rfl,(aZ.new hp _).trans sb⟩⟩
 ·refine eT.mkZ hF gH aA0 (fun ds M i ⟨_,z,_⟩=>by rw [z];rfl) fun f cdv A outer s H ds M iw E hr h hRO hPO=>?_
  obtain ⟨rs,rfl,ok,ne,hz⟩:=h
  refine ⟨_,(aE (wN (aM (pP mR hr (by decide) hPO (aB (cA (aN (fX hr) (aA 0) aL) (aG hJ hr (by decide) (aB (fM (aA 0) aL) aD)) (aQ aD)) aD)))
  (aM (aG dB hr (by decide) (aB (cA (aN (fX hr) (aA 0) aL) (aG hJ hr (by decide) (aB (fM (aA 0) aL) aD)) (aQ aD)) aD))))),?_⟩
  have ll:=ok.ln
  ac_nf
  refine .inl ?_
  rw [aK]
  refine ifT (by rw [decide_eq_false (show ¬ txt rs = Str.ofString "" from aG8 ok.lt (aDU ne))];rfl) ⟨10,(lsS rs).map lnT,s10,rfl,aDU ne,fun s hs=>(ok.lt s hs).2.2,by decide,Nat.le_trans (tS ok.lt (by rw [length_map];omega)).1 (by decide),fun p hp=>?_⟩
  ac_nf
  refine ⟨p,rs,rfl,by rw [aJ,map_map];rfl,ok.lv,by omega,fun M' sb=>?_⟩
  exact ⟨_,⟨ofS rs,by rw [wL],ok.va,by rw [iO];have:=ok.hm;omega,hz⟩,fun M2 s2=>⟨rfl,((aZ.new hp _).trans sb).trans s2⟩⟩
theorem aOK {p:Pl} (h:plB 100 p):∀ x ∈ nu p,BQ 100 x:=by
 intro x hx
 cases p with
 | go a=>exact List.mem_singleton.mp hx ▸ h
 | skip a=>exact List.mem_singleton.mp hx ▸ h
 | grow a=>exact List.mem_singleton.mp hx ▸ h.1
 | quarter a=>exact List.mem_singleton.mp hx ▸ h.1
 | half a=>exact List.mem_singleton.mp hx ▸ h.1
 | side a b =>
  simp only [nu,mem_cons,not_mem_nil,or_false] at hx
  rcases hx with rfl | rfl
  ·exact h.1
  ·exact h.2
 | arc a b c d =>
  simp only [nu,mem_cons,not_mem_nil,or_false] at hx
  obtain ⟨b1,b2,b3,b4,_⟩:=h
  rcases hx with rfl | rfl | rfl | rfl
  ·exact b1
  ·exact b2
  ·exact b3
  ·exact b4
 | _=>cases hx
inductive Lo where
 | ok (l:Ln) | od (t:Str)
noncomputable def loT:Lo->Str
 | .ok l=>lnT l
 | .od t=>t
noncomputable def LoS (x:Lo):D:=.str (loT x)
def lnK:Ln->Prop
 | .pl p=>∃ A,FA A p
 | .ag n=>n<=4
 | _=>True
def loV:Lo->Prop
 | .ok l=>lnK l
 | .od t=>t ∈ sB
theorem aDW {l:Ln} (h:lnK l):lnV l:=by
 cases l with
 | pl p =>
  obtain ⟨A,h⟩:=h
  exact fun q hq=>(aOK h.2 q hq).mono (by decide)
 | ag n=>exact Nat.le_trans h (by decide)
 | _=>trivial
theorem aDD {x:Lo} (h:loV x):LnT (loT x):=by
 cases x with
 | ok l=>exact aAW (aDW h)
 | od t=>exact aJN t h
noncomputable def stp:Nat->List Lo->Option Nat
 | d,[]=>if d = 0 then none else some 0
 | _,.od _ :: _=>some 0
 | 0,.ok .en :: _=>some 0
 | d + 1,.ok .en :: r=>(stp d r).map (· + 1)
 | d,.ok (.pl _) :: r=>(stp d r).map (· + 1)
 | d,.ok (.ag _) :: r=>(stp (d + 1) r).map (· + 1)
 | d,.ok .kp :: r=>(stp (d + 1) r).map (· + 1)
 | d,.ok .ev :: r=>(stp (d + 1) r).map (· + 1)
theorem aGF {l:Ln} (h:isO l) {d:Nat} {r:List Lo}:stp d (.ok l :: r) = (stp (d + 1) r).map (· + 1):=by
 cases l with
 | pl p=>exact h.elim
 | en=>exact h.elim
 | _=>cases d<;>rfl
theorem aG6 {p:Pl} {d:Nat} {r:List Lo}:stp d (.ok (.pl p) :: r) = (stp d r).map (· + 1):=by cases d<;>rfl
theorem aBh {l:Ln} (h:isO l) {d:Nat} {r:List Ln} (v:vld (d + 1) r):vld d (l :: r):=by
 cases l with
 | pl p=>exact h.elim
 | en=>exact h.elim
 | _=>cases d<;>exact v
theorem vA {p:Pl} {d:Nat} {r:List Ln}:vld d (.pl p :: r) = vld d r:=by cases d<;>rfl
theorem qA {p:Pl} {d:Nat} {r:List Ln}:dpt d (.pl p :: r) = dpt d r:=by cases d<;>rfl
def aHr (d:Nat) (x:Lo):Prop:=(∃ t,x = .od t) ∨ (x = .ok .en/\d = 0)
theorem xV:∀ (Ls:List Lo) (d k:Nat),stp d Ls = some k->∃ (ls:List Ln) (tl:List Lo),Ls = ls.map .ok ++ tl/\vld d ls/\ls.length = k/\((∃ x r,tl = x :: r/\aHr (dpt d ls) x) ∨ (tl = []/\0 < dpt d ls))
 | [],d,k,h=>by
  cases d with
  | zero=>cases h
  | succ d=>cases h;exact ⟨[],[],rfl,trivial,rfl,.inr ⟨rfl,Nat.succ_pos _⟩⟩
 | x :: r,d,k,h=>by
  cases x with
  | od t=>cases d<;>cases h<;>exact ⟨[],_,rfl,trivial,rfl,.inl ⟨_,_,rfl,.inl ⟨_,rfl⟩⟩⟩
  | ok l =>
   have next:∀ d',stp d (.ok l :: r) = (stp d' r).map (· + 1)->(∀ q,vld d' q->vld d (l :: q))->(∀ q,dpt d (l :: q) = dpt d' q)->∃ (ls:List Ln) (tl:List Lo),Lo.ok l :: r = ls.map .ok ++ tl/\vld d ls/\ls.length = k/\((∃ x r,tl = x :: r/\aHr (dpt d ls) x) ∨ (tl = []/\0 < dpt d ls)):=fun d' e1 e2 e3=>by
    rw [e1] at h
    cases e:stp d' r with
    | none=>rw [e] at h;cases h
    | some k' =>
     rw [e] at h
     cases h
     obtain ⟨ls,tl,a1,a2,a3,a4⟩:=xV r d' k' e
     exact ⟨l :: ls,tl,by rw [a1];rfl,e2 ls a2,by rw [length_cons,a3],by rw [e3];exact a4⟩
   by_cases hop:isO l
   ·exact next (d + 1) (aGF hop) (fun q v=>aBh hop v) (fun q=>lO hop)
   cases l with
   | pl p=>exact next d aG6 (fun q v=>by rw [vA];exact v) (fun q=>qA)
   | en =>
    cases d with
    | zero=>cases h;exact ⟨[],_,rfl,trivial,rfl,.inl ⟨_,_,rfl,.inr ⟨rfl,rfl⟩⟩⟩
    | succ d=>exact next d rfl (fun q v=>v) (fun q=>rfl)
   | _=>exact absurd trivial hop
theorem aBK:∀ (Ls:List Lo) (d:Nat),stp d Ls = none->∃ ls:List Ln,Ls = ls.map .ok/\vld d ls/\dpt d ls = 0
 | [],d,h=>by
  cases d with
  | zero=>exact ⟨[],rfl,trivial,rfl⟩
  | succ d=>cases h
 | x :: r,d,h=>by
  cases x with
  | od t=>cases d<;>cases h
  | ok l =>
   have next:∀ d',stp d (.ok l :: r) = (stp d' r).map (· + 1)->(∀ q,vld d' q->vld d (l :: q))->(∀ q,dpt d (l :: q) = dpt d' q)->∃ ls:List Ln,Lo.ok l :: r = ls.map .ok/\vld d ls/\dpt d ls = 0:=fun d' e1 e2 e3=>by
    rw [e1] at h
    cases e:stp d' r with
    | some k'=>rw [e] at h;cases h
    | none =>
     obtain ⟨ls,a1,a2,a3⟩:=aBK r d' e
     exact ⟨l :: ls,by rw [a1];rfl,e2 ls a2,by rw [e3];exact a3⟩
   by_cases hop:isO l
   ·exact next (d + 1) (aGF hop) (fun q v=>aBh hop v) (fun q=>lO hop)
   cases l with
   | pl p=>exact next d aG6 (fun q v=>by rw [vA];exact v) (fun q=>qA)
   | en =>
    cases d with
    | zero=>cases h
    | succ d=>exact next d rfl (fun q v=>v) (fun q=>rfl)
   | _=>exact absurd trivial hop
theorem aAA:∀ (ls:List Ln) (d:Nat) (tl:List Lo),vld d ls->stp d (ls.map .ok ++ tl) = (stp (dpt d ls) tl).map (· + ls.length)
 | [],d,tl,_=>by
  show stp d tl = (stp d tl).map (· + 0)
  cases stp d tl<;>rfl
 | l :: ls,d,tl,v=>by
  have fin:∀ d',stp d ((l :: ls).map .ok ++ tl) = (stp d' (ls.map .ok ++ tl)).map (· + 1)->vld d' ls->dpt d (l :: ls) = dpt d' ls->stp d ((l :: ls).map .ok ++ tl) = (stp (dpt d (l :: ls)) tl).map (· + (l :: ls).length):=fun d' e1 e2 e3=>by
   rw [e1,e3,aAA ls d' tl e2]
   cases stp (dpt d' ls) tl with
   | none=>rfl
   | some k=>show some (k + ls.length + 1) = some (k + (ls.length + 1));rfl
  by_cases hop:isO l
  ·exact fin (d + 1) (aGF hop) (aAe hop v) (lO hop)
  cases l with
  | pl p=>exact fin d aG6 (by rw [vA] at v;exact v) qA
  | en =>
   cases d with
   | zero=>exact v.elim
   | succ d=>exact fin d rfl v rfl
  | _=>exact absurd trivial hop
theorem aGr {ls:List Ln} {x:Lo} {r:List Lo} (v:vld 0 ls) (h:aHr (dpt 0 ls) x):stp 0 (ls.map .ok ++ x :: r) = some ls.length:=by
 rw [aAA ls 0 _ v]
 rcases h with ⟨t,rfl⟩ | ⟨rfl,e⟩
 ·cases dpt 0 ls<;>exact congrArg some (Nat.zero_add _)
 ·rw [e];exact congrArg some (Nat.zero_add _)
mutual
theorem aNq:∀ (r:Rw) (d:Nat) (l:List Ln),dpt d (lsR r ++ l) = dpt d l
 | .pl p,d,l=>by rw [lsR];exact qA
 | .ag n ws,d,l=>by
  rw [lsR,cons_append,append_assoc,lO (l:=.ag n) trivial,xB ws];rfl
 | .kp ws,d,l=>by
  rw [lsR,cons_append,append_assoc,lO (l:=.kp) trivial,xB ws];rfl
 | .ev ws,d,l=>by
  rw [lsR,cons_append,append_assoc,lO (l:=.ev) trivial,xB ws];rfl
theorem xB:∀ (rs:List Rw) (d:Nat) (l:List Ln),dpt d (lsS rs ++ l) = dpt d l
 | [],d,l=>by rw [lsS];rfl
 | r :: rs,d,l=>by rw [lsS,append_assoc,aNq r,xB rs]
end
theorem aOu (rs:List Rw) (d:Nat):dpt d (lsS rs) = d:=by have:=xB rs d [];rw [append_nil] at this;exact this
theorem aFD (rs:List Rw):stp 0 ((lsS rs).map .ok) = none:=by
 have h1:vld 0 (lsS rs):=by have:=aAi rs 0 [] trivial;rw [append_nil] at this;exact this
 have:=aAA (lsS rs) 0 [] h1
 rw [append_nil] at this
 rw [this,aOu rs 0]
 rfl
noncomputable def flt:List (Ln × List Rw)->List Ln
 | []=>[]
 | (h,r) :: st=>h :: (lsS r ++ flt st)
theorem sF:∀ xs ys,flt (xs ++ ys) = flt xs ++ flt ys
 | [],ys=>rfl
 | (h,r) :: xs,ys=>by
  show h :: (lsS r ++ flt (xs ++ ys)) = h :: (lsS r ++ flt xs) ++ flt ys
  rw [sF,cons_append,append_assoc]
noncomputable def blk:Ln->List Rw->Rw
 | .ag n,ws=>.ag n ws
 | .kp,ws=>.kp ws
 | .ev,ws=>.ev ws
 | _,_=>.pl .dot
theorem aLH {h:Ln} (o:isO h) (ws:List Rw):lsR (blk h ws) = h :: (lsS ws ++ [.en]):=by
 cases h with
 | pl p=>exact o.elim
 | en=>exact o.elim
 | ag n=>show lsR (.ag n ws) = _;rw [lsR]
 | kp=>show lsR (.kp ws) = _;rw [lsR]
 | ev=>show lsR (.ev ws) = _;rw [lsR]
theorem sW:∀ (xs:List Ln) (d:Nat) (ys:List Ln),dpt d (xs ++ ys) = dpt (dpt d xs) ys
 | [],d,ys=>rfl
 | l :: xs,d,ys=>by
  have fin:∀ d',(∀ q,dpt d (l :: q) = dpt d' q)->dpt d ((l :: xs) ++ ys) = dpt (dpt d (l :: xs)) ys:=fun d' e=>by
   rw [cons_append,e,e,sW xs d' ys]
  by_cases hop:isO l
  ·exact fin (d + 1) fun q=>lO hop
  cases l with
  | pl p=>exact fin d fun q=>qA
  | en=>exact fin (d - 1) fun q=>rfl
  | _=>exact absurd trivial hop
theorem aD5:∀ (xs:List Ln) (d:Nat) (ys:List Ln),vld d (xs ++ ys)->vld d xs/\vld (dpt d xs) ys
 | [],d,ys,h=>⟨trivial,h⟩
 | l :: xs,d,ys,h=>by
  have fin:∀ d',(∀ q,vld d' q->vld d (l :: q))->(∀ q,vld d (l :: q)->vld d' q)->(∀ q,dpt d (l :: q) = dpt d' q)->vld d (l :: xs)/\vld (dpt d (l :: xs)) ys:=fun d' e1 e2 e3=>by
   obtain ⟨a,b⟩:=aD5 xs d' ys (e2 _ h)
   exact ⟨e1 _ a,by rw [e3];exact b⟩
  by_cases hop:isO l
  ·exact fin (d + 1) (fun q v=>aBh hop v) (fun q v=>aAe hop v) fun q=>lO hop
  cases l with
  | pl p=>exact fin d (fun q v=>by rw [vA];exact v) (fun q v=>by rw [vA] at v;exact v) fun q=>qA
  | en =>
   cases d with
   | zero=>exact h.elim
   | succ d=>exact fin d (fun q v=>v) (fun q v=>v) fun q=>rfl
  | _=>exact absurd trivial hop
theorem aCz (r0:List Rw) (st:List (Ln × List Rw)) (b:Rw) (o:∀ x ∈ st,isO x.1):∃ (r0':List Rw) (st':List (Ln × List Rw)),(∀ x ∈ st',isO x.1)/\lsS r0 ++ flt st ++ lsR b = lsS r0' ++ flt st'/\st'.length = st.length:=by
 by_cases e:st = []
 ·subst e
  exact ⟨r0 ++ [b],[],o,by rw [sA,lsS,lsS];simp [flt],rfl⟩
 ·obtain ⟨ys,⟨h,r⟩,rfl⟩:=iF e
  refine ⟨r0,ys ++ [(h,r ++ [b])],fun x hx=>?_,?_,by rw [length_append,length_append];rfl⟩
  ·rcases List.mem_append.mp hx with hx | hx
   ·exact o x (mem_append_left _ hx)
   ·rw [List.mem_singleton.mp hx];exact o (h,r) (by simp)
  ·rw [sF,sF]
   show lsS r0 ++ (flt ys ++ (h :: (lsS r ++ []))) ++ lsR b = lsS r0 ++ (flt ys ++ (h :: (lsS (r ++ [b]) ++ [])))
   rw [sA,lsS,lsS];simp
theorem aNT:∀ (n:Nat) (ls:List Ln),ls.length = n->vld 0 ls->∃ (r0:List Rw) (st:List (Ln × List Rw)),(∀ x ∈ st,isO x.1)/\ls = lsS r0 ++ flt st/\dpt 0 ls = st.length:=by
 intro n
 induction n with
 | zero =>
  intro ls h _
  obtain rfl:=List.eq_nil_of_length_eq_zero h
  exact ⟨[],[],(fun x hx=>by cases hx),by rw [lsS];rfl,rfl⟩
 | succ n ih =>
  intro ls h v
  obtain ⟨ys,l,rfl⟩:=iF (xs:=ls) (fun z=>by rw [z] at h;cases h)
  rw [length_append,length_singleton] at h
  obtain ⟨v1,v2⟩:=aD5 ys 0 [l] v
  obtain ⟨r0,st,a1,a2,a3⟩:=ih ys (by omega) v1
  by_cases hop:isO l
  ·refine ⟨r0,st ++ [(l,[])],fun x hx=>?_,?_,?_⟩
   ·rcases List.mem_append.mp hx with hx | hx
    ·exact a1 x hx
    ·rw [List.mem_singleton.mp hx];exact hop
   ·rw [sF,a2]
    show _ = lsS r0 ++ (flt st ++ (l :: (lsS [] ++ [])))
    rw [lsS];simp
   ·rw [sW,a3,lO hop,length_append];rfl
  cases l with
  | pl p =>
   obtain ⟨r1,st1,b1,b2,b3⟩:=aCz r0 st (.pl p) a1
   refine ⟨r1,st1,b1,by rw [<- b2,lsR,a2],?_⟩
   rw [sW,a3,b3];exact qA
  | en =>
   have ne:st ≠ []:=fun z=>by rw [a3,z] at v2;exact v2
   obtain ⟨zs,⟨h,r⟩,rfl⟩:=iF ne
   have oh:=a1 (h,r) (by simp)
   obtain ⟨r1,st1,b1,b2,b3⟩:=aCz r0 zs (blk h r) fun x hx=>a1 x (mem_append_left _ hx)
   refine ⟨r1,st1,b1,?_,?_⟩
   ·rw [<- b2,aLH oh,a2,sF]
    show lsS r0 ++ (flt zs ++ (h :: (lsS r ++ []))) ++ [Ln.en] = _
    simp
   ·rw [sW,a3,b3,length_append]
    show zs.length + 1 - 1 = _
    omega
  | _=>exact absurd trivial hop
theorem aEg {ls:List Ln} (v:vld 0 ls) (e:dpt 0 ls = 0):∃ rs,ls = lsS rs:=by
 obtain ⟨r0,st,_,a2,a3⟩:=aNT _ ls rfl v
 rw [e] at a3
 obtain rfl:=List.eq_nil_of_length_eq_zero a3.symm
 exact ⟨r0,by rw [a2];exact append_nil _⟩
theorem aGA (ls:List Ln) (d:Nat):∀ k,k<=dpt d ls->vld d ls->vld d (ls ++ replicate k .en)/\dpt d (ls ++ replicate k .en) = dpt d ls - k:=by
 have key:∀ (k d:Nat),k<=d->vld d (replicate k .en)/\dpt d (replicate k .en) = d - k:=by
  intro k
  induction k with
  | zero=>exact fun d _=>⟨trivial,rfl⟩
  | succ k ih =>
   intro d h
   obtain ⟨d,rfl⟩:∃ e,d = e + 1:=⟨d - 1,by omega⟩
   obtain ⟨a,b⟩:=ih d (by omega)
   rw [replicate_succ]
   exact ⟨a,by show dpt d _ = _;rw [b];omega⟩
 have app:∀ (xs:List Ln) (d:Nat) (ys:List Ln),vld d xs->vld (dpt d xs) ys->vld d (xs ++ ys):=by
  intro xs
  induction xs with
  | nil=>exact fun d ys _ h=>h
  | cons l xs ih =>
   intro d ys h1 h2
   by_cases hop:isO l
   ·rw [lO hop] at h2;exact aBh hop (ih _ ys (aAe hop h1) h2)
   cases l with
   | pl p=>rw [qA] at h2;rw [cons_append,vA];rw [vA] at h1;exact ih d ys h1 h2
   | en =>
    cases d with
    | zero=>exact h1.elim
    | succ d=>exact ih d ys h1 h2
   | _=>exact absurd trivial hop
 intro k hk v
 obtain ⟨a,b⟩:=key k _ hk
 exact ⟨app ls d _ v a,by rw [sW,b]⟩
noncomputable def nE (ls:List Ln):Nat:=(ls.filter fun l=>match l with | .en=>false | _=>true).length
theorem rD (xs ys:List Ln):nE (xs ++ ys) = nE xs + nE ys:=by unfold nE;rw [List.filter_append,length_append]
mutual
theorem aM9:∀ r:Rw,hmR r = nE (lsR r)
 | .pl p=>by rw [lsR,hmR];rfl
 | .ag n ws=>by rw [lsR,hmR,aCx ws];show _ = nE ([Ln.ag n] ++ (lsS ws ++ [.en]));rw [rD,rD];show _ = 1 + (_ + 0);omega
 | .kp ws=>by rw [lsR,hmR,aCx ws];show _ = nE ([Ln.kp] ++ (lsS ws ++ [.en]));rw [rD,rD];show _ = 1 + (_ + 0);omega
 | .ev ws=>by rw [lsR,hmR,aCx ws];show _ = nE ([Ln.ev] ++ (lsS ws ++ [.en]));rw [rD,rD];show _ = 1 + (_ + 0);omega
theorem aCx:∀ rs:List Rw,hmS rs = nE (lsS rs)
 | []=>by rw [lsS,hmS];rfl
 | r :: rs=>by rw [lsS,hmS,rD,aM9 r,aCx rs]
end
mutual
def k4R:Rw->Prop
 | .pl p=>∃ A,FA A p
 | .ag n ws=>n<=4/\k4S ws
 | .kp ws=>k4S ws
 | .ev ws=>k4S ws
def k4S:List Rw->Prop
 | []=>True
 | r :: rs=>k4R r/\k4S rs
end
mutual
theorem aPf:∀ r:Rw,(∀ l ∈ lsR r,lnK l)->k4R r
 | .pl p,h=>by rw [lsR] at h;rw [k4R];exact h _ (List.mem_singleton.mpr rfl)
 | .ag n ws,h=>by
  rw [lsR] at h;rw [k4R]
  exact ⟨h _ (mem_cons_self ..),aGt ws fun l hl=>h l (by simp [hl])⟩
 | .kp ws,h=>by rw [lsR] at h;rw [k4R];exact aGt ws fun l hl=>h l (by simp [hl])
 | .ev ws,h=>by rw [lsR] at h;rw [k4R];exact aGt ws fun l hl=>h l (by simp [hl])
theorem aGt:∀ rs:List Rw,(∀ l ∈ lsS rs,lnK l)->k4S rs
 | [],_=>by rw [k4S];trivial
 | r :: rs,h=>by
  rw [lsS] at h;rw [k4S]
  exact ⟨aPf r fun l hl=>h l (mem_append_left _ hl),aGt rs fun l hl=>h l (mem_append_right _ hl)⟩
end
theorem p4 (d:Nat) (x y:Nat) (h:x<=4 ^ d * y) (n:Nat) (hn:n<=4):n * x<=4 ^ (d + 1) * y:=by
 rw [Nat.pow_succ,Nat.mul_comm (4 ^ d) 4,Nat.mul_assoc]
 exact Nat.mul_le_mul hn h
mutual
theorem aNa:∀ (r:Rw) (d:Nat),Dp d r->k4R r->dnR r<=4 ^ d * hmR r
 | .pl p,d,_,_=>by rw [dnR,hmR];have:=Nat.one_le_pow d 4 (by decide);omega
 | .ag n ws,0,h,_=>h.elim
 | .ag n ws,d + 1,h,k=>by
  rw [k4R] at k;rw [dnR,hmR]
  have:=p4 d _ _ (aCL ws d (vI h).2.2 k.2) n k.1
  rw [Nat.mul_comm] at this
  exact Nat.le_trans this (Nat.mul_le_mul_left _ (show hmS ws<=1 + hmS ws by omega))
 | .kp ws,0,h,_=>h.elim
 | .kp ws,d + 1,h,k=>by
  rw [k4R] at k;rw [dnR,hmR]
  have:=p4 d _ _ (aCL ws d (xZ h).2 k) 1 (by decide)
  rw [Nat.one_mul] at this
  exact Nat.le_trans this (Nat.mul_le_mul_left _ (show hmS ws<=1 + hmS ws by omega))
 | .ev ws,0,h,_=>h.elim
 | .ev ws,d + 1,h,k=>by
  rw [k4R] at k;rw [dnR,hmR]
  have:=p4 d _ _ (aCL ws d (aCw h).2 k) 1 (by decide)
  rw [Nat.one_mul] at this
  exact Nat.le_trans this (Nat.mul_le_mul_left _ (show hmS ws<=1 + hmS ws by omega))
theorem aCL:∀ (rs:List Rw) (d:Nat),(∀ r ∈ rs,Dp d r)->k4S rs->dnS rs<=4 ^ d * hmS rs
 | [],d,_,_=>by rw [dnS];exact Nat.zero_le _
 | r :: rs,d,h,k=>by
  rw [k4S] at k;rw [dnS,hmS,Nat.mul_add]
  exact Nat.add_le_add (aNa r d (h r (mem_cons_self ..)) k.1) (aCL rs d (fun x hx=>h x (mem_cons_of_mem _ hx)) k.2)
end
mutual
def neR:Rw->Prop
 | .pl _=>True
 | .ag _ ws=>neS ws
 | .kp ws=>neS ws
 | .ev _=>False
def neS:List Rw->Prop
 | []=>True
 | r :: rs=>neR r/\neS rs
end
theorem aJl {ar:List Str} (h:evI ar = true) (x:Str):evI (ar ++ [x]) = true:=by rw [aBu,h];rfl
mutual
theorem aLz:∀ (r:Rw) (a:Int) (ar:List Str) (b:Int),evI ar = true->lkR (ofR r) a ar = .inl b->neR r
 | .pl p,_,_,_,_,_=>by rw [neR];trivial
 | .ag n ws,a,ar,b,e,h=>by rw [ofR,lkR] at h;rw [neR];exact aBi ws _ _ _ (aJl e _) (jJ h).2.2
 | .kp ws,a,ar,b,e,h=>by rw [ofR,lkR] at h;rw [neR];exact aBi ws _ _ _ (aJl e _) (jJ h).2.2
 | .ev ws,a,ar,b,e,h=>by
  rw [ofR,lkR] at h
  have:=(jJ h).1
  unfold lP at this
  unfold evI at e
  rw [show isE (.ev (ofS ws)) = true from rfl] at this
  simp [e] at this
theorem aBi:∀ (rs:List Rw) (a:Int) (ar:List Str) (b:Int),evI ar = true->lkS (ofS rs) a ar = .inl b->neS rs
 | [],_,_,_,_,_=>by rw [neS];trivial
 | r :: rs,a,ar,b,e,h=>by
  rw [ofS,lkS] at h
  cases x:lkR (ofR r) a ar with
  | inl c=>rw [x] at h;rw [neS];exact ⟨aLz r a ar c e x,aBi rs c ar b e h⟩
  | inr c=>rw [x] at h;cases h
end
theorem aJh {ws:List Rw} {d:Nat} (l:d<=2) (h:∀ r ∈ ws,Dp d r) (k:k4S ws) (m:hmS ws<=43):dnS ws<=690:=by
 have h1:=aCL ws d h k
 have h2:4 ^ d<=4 ^ 2:=Nat.pow_le_pow_right (by decide) l
 have h3:=Nat.mul_le_mul h2 m
 have h4:4 ^ 2 * 43 = 688:=rfl
 omega
mutual
theorem aNv:∀ (r:Rw) (d:Nat),d<=3->Dp d r->k4R r->hmR r<=43->neR r->gwR 690 r
 | .pl p,d,_,_,k,_,_=>by rw [k4R] at k;obtain ⟨A,h⟩:=k;exact aOc h
 | .ag n ws,0,_,h,_,_,_=>h.elim
 | .ag n ws,d + 1,l,h,k,m,e=>by
  rw [k4R] at k;rw [hmR] at m;rw [gwR];rw [neR] at e
  exact ⟨aJh (by omega) (vI h).2.2 k.2 (by omega),aDL ws d (by omega) (vI h).2.2 k.2 (by omega) e⟩
 | .kp ws,0,_,h,_,_,_=>h.elim
 | .kp ws,d + 1,l,h,k,m,e=>by
  rw [k4R] at k;rw [hmR] at m;rw [gwR];rw [neR] at e
  exact ⟨aJh (by omega) (xZ h).2 k (by omega),aDL ws d (by omega) (xZ h).2 k (by omega) e⟩
 | .ev ws,_,_,_,_,_,e=>by rw [neR] at e;exact e.elim
theorem aDL:∀ (rs:List Rw) (d:Nat),d<=3->(∀ r ∈ rs,Dp d r)->k4S rs->hmS rs<=43->neS rs->gwS 690 rs
 | [],_,_,_,_,_,_=>by rw [gwS];trivial
 | r :: rs,d,l,h,k,m,e=>by
  rw [k4S] at k;rw [hmS] at m;rw [gwS];rw [neS] at e
  exact ⟨aNv r d l (h r (mem_cons_self ..)) k.1 (by omega) e.1,aDL rs d l (fun x hx=>h x (mem_cons_of_mem _ hx)) k.2 (by omega) e.2⟩
end
mutual
theorem aOz:∀ r:Rw,k4R r->vaT (ofR r)
 | .pl p,k=>by rw [k4R] at k;obtain ⟨A,h⟩:=k;rw [ofR,vaT];exact aKr h
 | .ag n ws,k=>by rw [k4R] at k;rw [ofR,vaT];exact ⟨by omega,zW ws k.2⟩
 | .kp ws,k=>by rw [k4R] at k;rw [ofR,vaT];exact zW ws k
 | .ev ws,k=>by rw [k4R] at k;rw [ofR,vaT];exact zW ws k
theorem zW:∀ rs:List Rw,k4S rs->mI (ofS rs)
 | [],_=>by rw [ofS,mI];trivial
 | r :: rs,k=>by rw [k4S] at k;rw [ofS,mI];exact ⟨aOz r k.1,zW rs k.2⟩
end
mutual
theorem aM8:∀ r:Rw,k4R r->hmR r<=43->boR (ofR r)
 | .pl p,_,_=>by rw [ofR,boR];trivial
 | .ag n ws,k,m=>by rw [k4R] at k;rw [hmR] at m;rw [ofR,boR];exact aBH ws k.2 (by omega)
 | .kp ws,k,m=>by rw [k4R] at k;rw [hmR] at m;rw [ofR,boR];exact aBH ws k (by omega)
 | .ev ws,k,m=>by
  rw [k4R] at k;rw [hmR] at m;rw [ofR,boR]
  refine ⟨aBH ws k (by omega),fun a ar b ea lk dn=>?_⟩
  have la:1<=ar.length:=by
   cases ar with
   | nil=>cases ea
   | cons x xs=>exact Nat.succ_pos _
  have dp:=tK (ofS ws) a ar b lk (zW ws k) (by rw [iO];omega)
  rw [iO] at dp dn ⊢
  exact aNp (aDL ws (4 - ar.length) (by omega) dp k (by omega) (aBi ws a ar b ea lk)) (by omega)
theorem aBH:∀ rs:List Rw,k4S rs->hmS rs<=43->boS (ofS rs)
 | [],_,_=>by rw [ofS,boS];trivial
 | r :: rs,k,m=>by rw [k4S] at k;rw [hmS] at m;rw [ofS,boS];exact ⟨aM8 r k.1 (by omega),aBH rs k.2 (by omega)⟩
end
theorem aF5 {rs:List Rw} (h:∀ l ∈ lsS rs,lnK l) (m:nE (lsS rs)<=43) (n:(lsS rs).length<=100):OkR rs:=by
 have k:=aGt rs h
 rw [<- aCx] at m
 exact ⟨fun l hl=>aDW (h l hl),n,⟨zW rs k,aBH rs k m⟩,by omega⟩
def inX (ls:List Ln) (a:Int) (c:Int):Prop:=∃ (k:Nat) (l:Ln),c = a + (k:Int)/\ls[k]? = some l/\l ≠ .en
theorem inX.app {xs ys:List Ln} {a c:Int} (h:inX xs a c):inX (xs ++ ys) a c:=by
 obtain ⟨k,l,e,hl,n⟩:=h
 exact ⟨k,l,e,by rw [getElem?_append_left (List.getElem?_eq_some_iff.mp hl).1];exact hl,n⟩
theorem inX.pre {xs ys:List Ln} {a c:Int} (h:inX ys (a + (xs.length:Int)) c):inX (xs ++ ys) a c:=by
 obtain ⟨k,l,e,hl,n⟩:=h
 exact ⟨xs.length + k,l,by omega,by rw [getElem?_append_right (by omega),Nat.add_sub_cancel_left];exact hl,n⟩
theorem inX.cons {h:Ln} {ys:List Ln} {a c:Int} (z:inX ys (a + 1) c):inX (h :: ys) a c:=inX.pre (xs:=[h]) z
theorem aGP {h:Ln} {r:Th} {ws:List Th} {ls:List Ln} {a:Int} {ar:List Str} {z:Int ⊕ Int} (o:isO h) (hi:∀ c,z = .inr c->inX ls (a + 1) c) (hl:∀ b,z = .inl b->b = a + 1 + (ls.length:Int)):(∀ c,lkB r ws a ar z = .inr c->inX (h :: (ls ++ [.en])) a c)/\∀ b,lkB r ws a ar z = .inl b->b = a + ((h :: (ls ++ [.en])).length:Int):=by
 have own:inX (h :: (ls ++ [.en])) a a:=⟨0,h,by omega,rfl,fun e=>by rw [e] at o;exact o⟩
 unfold lkB
 constructor
 ·intro c e
  split at e
  ·cases z with
   | inl b =>
    dsimp only at e
    split at e
    ·cases e;exact own
    ·cases e
   | inr c'=>cases e;exact (inX.app (hi _ rfl)).cons
  ·cases e;exact own
 ·intro b e
  rw [length_cons,length_append,length_singleton]
  split at e
  ·cases z with
   | inl b' =>
    dsimp only at e
    have:=hl b' rfl
    split at e
    ·cases e
    ·cases e;omega
   | inr c'=>cases e
  ·cases e
mutual
theorem aMX:∀ (r:Rw) (a:Int) (ar:List Str),(∀ c,lkR (ofR r) a ar = .inr c->inX (lsR r) a c)/\∀ b,lkR (ofR r) a ar = .inl b->b = a + ((lsR r).length:Int)
 | .pl p,a,ar=>by
  rw [ofR,lkR,lsR]
  exact ⟨(fun c e=>by cases e),fun b e=>by cases e;rfl⟩
 | .ag n ws,a,ar=>by
  obtain ⟨h1,h2⟩:=aBP ws (a + 1) (ar ++ [("again":Str)])
  rw [ofR,lkR,lsR];exact aGP (h:=.ag n) trivial h1 h2
 | .kp ws,a,ar=>by
  obtain ⟨h1,h2⟩:=aBP ws (a + 1) (ar ++ [("keep":Str)])
  rw [ofR,lkR,lsR];exact aGP (h:=.kp) trivial h1 h2
 | .ev ws,a,ar=>by
  obtain ⟨h1,h2⟩:=aBP ws (a + 1) (ar ++ [("ever":Str)])
  rw [ofR,lkR,lsR];exact aGP (h:=.ev) trivial h1 h2
theorem aBP:∀ (rs:List Rw) (a:Int) (ar:List Str),(∀ c,lkS (ofS rs) a ar = .inr c->inX (lsS rs) a c)/\∀ b,lkS (ofS rs) a ar = .inl b->b = a + ((lsS rs).length:Int)
 | [],a,ar=>by
  rw [ofS,lkS,lsS]
  exact ⟨(fun c e=>by cases e),fun b e=>by cases e;show a = a + ((0:Nat):Int);omega⟩
 | r :: rs,a,ar=>by
  obtain ⟨h1,h2⟩:=aMX r a ar
  rw [ofS,lkS,lsS]
  cases e:lkR (ofR r) a ar with
  | inr c=>exact ⟨(fun c' e'=>by cases e';exact (h1 c e).app),fun b e'=>by cases e'⟩
  | inl b =>
   have hb:=h2 b e
   obtain ⟨h3,h4⟩:=aBP rs b ar
   dsimp only
   refine ⟨fun c e'=>?_,fun b' e'=>?_⟩
   ·have:=h3 c e'
    rw [hb] at this
    exact this.pre
   ·rw [h4 b' e',hb,length_append];omega
end
noncomputable def opL:Lo->Int
 | .ok .en=>-1
 | .ok (.pl _)=>0
 | .ok _=>1
 | .od t=>if [("again":Str),"keep","ever"].any (fun y=>some y == (nN t).head?) then 1 else 0
noncomputable def opn (Ls:List Lo):Int:=(Ls.map opL).sum
theorem aIp (xs ys:List Lo):opn (xs ++ ys) = opn xs + opn ys:=by unfold opn;rw [map_append,List.sum_append]
theorem aCc (x:Lo) (xs:List Lo):opn (x :: xs) = opL x + opn xs:=by unfold opn;rw [map_cons,sum_cons]
theorem aOl {l:Ln} (h:isO l):opL (.ok l) = 1:=by
 cases l with
 | pl p=>exact h.elim
 | en=>exact h.elim
 | _=>rfl
theorem sG:∀ (ls:List Ln) (d:Nat),vld d ls->(d:Int) + opn (ls.map .ok) = (dpt d ls:Int)
 | [],d,_=>by show (d:Int) + 0 = _;exact Int.add_zero _
 | l :: ls,d,v=>by
  rw [map_cons,aCc]
  by_cases hop:isO l
  ·have:=sG ls (d + 1) (aAe hop v)
   rw [lO hop,<- this,aOl hop];omega
  cases l with
  | pl p =>
   rw [vA] at v
   have:=sG ls d v
   rw [qA,<- this]
   show (d:Int) + (0 + _) = _
   omega
  | en =>
   cases d with
   | zero=>exact v.elim
   | succ d =>
    have:=sG ls d v
    show ((d + 1:Nat):Int) + (-1 + _) = (dpt d ls:Int)
    rw [<- this];omega
  | _=>exact absurd trivial hop
def kB:DSp:=fun ds M Q=>∃ q:Rat,ds = [FQ q]/\BQ 110 q/\Q (.str (qt q)) M
noncomputable abbrev iD:Stmt:=top 85
theorem rM:aR ["_law_number"] ["_law_number"] (aH iD):=⟨rfl,rfl,rfl,by decide +kernel,rfl,by decide +kernel,by decide +kernel⟩
theorem pZ (hF:cE K mg "_law_number_text" iD ["_law_number"]) (kA:mg "int" = none) (qG:mg "str" = none):Has P w K mg base 101 "_law_number_text" ["_law_number"] kB:=by
 refine Has.mkZ hF rM (fun ds M Q ⟨_,z,_⟩=>by rw [z];rfl) fun f cdv A outer s H ds M Q E hr h=>?_
 refine ⟨_,(aE (aM (aO aA5 (cX aCW qG (aB (aI (aA 0) aC) aD)) (aO aIz (aO aA5 aL (cX aCW qG (aB (aI (aA 0) aC) aD))) (cX aFB kA (aB (cQ kT (aI (aA 0) aC) aC) aD)))))),?_⟩
 obtain ⟨x,rfl,bx,q⟩:=h
 have b1:=vB bx.1
 have b2:=vB bx.2
 have l1:=Ty.nt_len b1
 have l2:=Ty.nt_len b2
 have dp:=x.den_pos
 unfold qt at q
 rw [show FQ x = D.tup [.int x.num,.int (x.den:Int)] from rfl]
 ac_nf
 refine ⟨Ty.log_small b1,Ty.log_small b2,?_,?_⟩
 ·show (Str.ofString "/").length + (Ty.nt (x.den:Int)).length<=1000000
  rw [show (Str.ofString "/").length = 1 by decide +kernel];omega
 ac_nf
 by_cases c:x.den = 1
 ·rw [if_pos c] at q
  have e0:decide ((1:Int) < (x.den:Int)) = false:=decide_eq_false (by rw [c];decide)
  rw [e0]
  refine ⟨.inl rfl,?_,?_⟩
  ·rw [if_neg (by decide)]
   show (Ty.nt x.num).length + 0<=1000000
   omega
  ·rw [if_neg (by decide),Str.append_empty]
   exact aX q
 ·rw [if_neg c] at q
  have e0:decide ((1:Int) < (x.den:Int)) = true:=decide_eq_true (by omega)
  rw [e0]
  refine ⟨.inr rfl,?_,?_⟩
  ·rw [if_pos (by decide)]
   show (Ty.nt x.num).length + (Str.ofString "/" ++ Ty.nt (x.den:Int)).length<=1000000
   rw [Str.length_append,show (Str.ofString "/").length = 1 by decide +kernel]
   omega
  ·rw [if_pos (by decide),<- Str.append_assoc,s47]
   exact aX q
theorem aLK {x n:Int} (h:0 < n):0<=x.fmod n/\x.fmod n < n:=⟨by rw [Int.fmod_eq_emod_of_nonneg _ (by omega)];exact Int.emod_nonneg _ (by omega),Int.fmod_lt_of_pos x h⟩
theorem aHN (n:Nat):Str.ofString "again " ++ Ty.nt (n:Int) = lnT (.ag n):=by
 apply Ty.ext
 unfold lnT
 rw [Ty.cl_join,Ty.cl_app,show Ty.cl (Str.ofString "again ") = Ty.cl (Str.ofString "again") ++ [32] by decide +kernel]
 show _ = Ty.cl (Str.ofString "again") ++ 32 :: Ty.cl (Ty.nt (n:Int))
 rw [append_assoc];rfl
theorem aL1 {z:Int} (h0:0<=z) (h1:z < 11):∃ t ∈ sB,atI (sB.map D.str) z = some (.str t):=by
 obtain ⟨k,rfl⟩:∃ k:Nat,z = (k:Int):=⟨z.toNat,by omega⟩
 have hk:k < sB.length:=by show k < 11;omega
 refine ⟨sB[k],List.getElem_mem hk,?_⟩
 unfold atI ixN
 rw [if_pos h0,length_map,if_pos (by show (k:Int) < ((11:Nat):Int);omega)]
 show (sB.map D.str)[k]? = _
 rw [getElem?_map,List.getElem?_eq_getElem hk];rfl
def uU:DSp:=fun ds M Q=>∃ (pr:Addr) (L:List D) (b:Bool),ds = [.ref pr,.bl b]/\M pr = some L/\pK 12 L/\∀ x M',loV x->aZ M M'->Q (.str (loT x)) M'
noncomputable abbrev mS:Stmt:=top 86
theorem kQ:aR ["_law_row_here","_law_odd","_law_way","_law_some"] ["_law_row_here","_law_odd"] (aH mS):=⟨rfl,rfl,rfl,by decide +kernel,rfl,by decide +kernel,by decide +kernel⟩
theorem aBv (hF:cE K mg "_law_line" mS ["_law_row_here","_law_odd"]) (qG:mg "str" = none) (oJ:Has P w K mg base 104 "_law_plain" ["_law_row_here"] sL) (iJ:Has P w K mg base 101 "_law_number_text" ["_law_number"] kB):Has P w K mg base 105 "_law_line" ["_law_row_here","_law_odd"] uU:=by
 refine Has.mkZ hF kQ (fun ds M Q ⟨_,_,_,z,_⟩=>by rw [z];rfl) fun f cdv A outer s H ds M Q E hr h=>?_
 obtain ⟨pr,L,b,rfl,hp,hL,q⟩:=h
 refine ⟨_,(aF (aP (i:=2) kQ.nd (aO dO (aI (aA 0) aC) aC))
  (fJ (aV (dE (eI (cN (aA 1)) (dA (aN (bO hr) (aA 2) aC)))) (aF (aP (i:=3) kQ.nd (cK (aB aL (aB aL (aB aL (aB aL (aB aL (aB aL (aB aL (aB aL (aB aL (aB aL (aB aL aD)))))))))))))
  (aE (aM (aI (aA 3) (aO dO (aI (aA 0) aC) aC))))) aU)
  (aF (aV (aN qK (aA 2) aC) (aE (aM (aI (cK (aB (aO aA5 aL (cX aCW qG (aB (aO dO (aI (aA 0) aC) aC) aD))) (aB aL (aB aL aD)))) (aA 2)))) aU)
  (aF (aV (aN qK (aA 2) aC) (aE (aM aL)) aU)
  (aF (aP (i:=0) kQ.nd (aG oJ hr (by decide) (aB (aA 0) aD)))
  (aE (aM (pJ aL (aO dZ (cK (aB (aI (aA 0) aC) aD)) (aAL (⟨rfl,by decide +kernel,by decide +kernel,by decide +kernel,rfl,by decide +kernel⟩:oW ["_law_row_here","_law_odd","_law_way","_law_some"] (aH mS) ["_law_number"] [none] _) rfl (qP (aA 0) (gC aC) jU) (fun _ _ _ _ _=>(aS (i:=0) (show Nodup (["_law_number"]:List Str) by decide +kernel))) (fun _ _ _ _ _=>(aG iJ hr (by decide) (aB (aA 0) aD))))))))))))),?_⟩
 obtain ⟨z11,e11,_⟩:=hL.at (i:=11) (by decide)
 obtain ⟨z10,e10,_⟩:=hL.at (i:=10) (by decide)
 ac_nf
 refine ⟨_,_,hp,e11,?_⟩
 ac_nf
 have w0:=aLK (x:=z11) (n:=12) (by decide)
 generalize hw:z11.fmod 12 = way at w0 ⊢
 refine ⟨by decide,fun ρ' M'=>M' = M/\ρ' = [some (.ref pr),some (.bl b),some (.int way),none],?_,?_⟩
 ·cases b with
  | false=>exact ifF rfl ⟨rfl,rfl⟩
  | true =>
   refine ifT rfl ?_
   rw [cB]
   by_cases c:way = 11
   ·have b10:=aLK (x:=z10) (n:=11) (by decide)
    obtain ⟨t,ht,et⟩:=aL1 b10.1 b10.2
    exact ifT (decide_eq_true c) ⟨by decide,fun p hp'=>⟨_,_,(aZ.new hp' _) _ _ hp,e10,by decide,_,_,aJ,et,aX (q (.od t) _ ht (aZ.new hp' _))⟩⟩
   ·exact ifF (decide_eq_false c) ⟨rfl,rfl⟩
 rintro ρ' M' ⟨rfl,rfl⟩
 ac_nf
 by_cases c3:way < 3
 ·refine ifT (decide_eq_true c3) ?_
  ac_nf
  have b5:=aLK (x:=z10) (n:=5) (by decide)
  obtain ⟨k,ek⟩:∃ k:Nat,z10.fmod 5 = (k:Int):=⟨(z10.fmod 5).toNat,by omega⟩
  refine ⟨_,_,hp,e10,by decide,?_⟩
  rw [ek]
  have n120:((k:Int)).natAbs < 2 ^ 120:=by show k < 2 ^ 120;omega
  have l1:=Ty.nt_len n120
  refine ⟨Ty.log_small n120,by show (Str.ofString "again ").length + (Ty.nt (k:Int)).length<=1000000;rw [show (Str.ofString "again ").length = 6 by decide +kernel];omega,by decide,fun p hp'=>?_⟩
  have hway:way = 0 ∨ way = 1 ∨ way = 2:=by omega
  rcases hway with rfl | rfl | rfl
  ·refine ⟨_,_,aJ,rfl,aX ?_⟩
   have:=q (.ok (.ag k)) _ (by show k<=4;omega) (aZ.new hp' [D.str (Str.ofString "again " ++ Str.ofString (toString (k:Int))),.str "keep",.str "ever"])
   rw [show loT (.ok (.ag k)) = Str.ofString "again " ++ Str.ofString (toString (k:Int)) from (aHN k).symm] at this
   exact this
  ·exact ⟨_,_,aJ,rfl,aX (q (.ok .kp) _ trivial (aZ.new hp' _))⟩
  ·exact ⟨_,_,aJ,rfl,aX (q (.ok .ev) _ trivial (aZ.new hp' _))⟩
 refine ifF (decide_eq_false c3) ?_
 by_cases c6:way < 6
 ·exact ifT (decide_eq_true c6) (aX (q (.ok .en) _ trivial (.refl _)))
 refine ifF (decide_eq_false c6) ?_
 refine ⟨pr,12,L,rfl,hp,hL,by decide,fun p pb pg=>?_⟩
 have nl:=aB2 p
 have vp:lnK (.pl p):=by obtain ⟨A,_,_,h⟩:=pg;exact ⟨A,h,pb⟩
 have vh:=aDW vp
 rw [mX]
 ac_nf
 rw [zG,yT]
 ac_nf
 refine ⟨by decide,fun p1 hp1=>?_⟩
 have s4:=aZ.new hp1 [D.str (wd p)]
 have h4:bH M' p1 [D.str (wd p)] (.l p1) = some [D.str (wd p)]:=aJ
 generalize bH M' p1 [D.str (wd p)] = M4 at s4 h4 ⊢
 refine ⟨by rw [length_map];omega,fun i ys M2=>M2 = M4/\ys = (((nu p).take i).map qt).map D.str,⟨rfl,rfl⟩,fun i ys M2 _ _ a e=>(by cases e),?_,?_⟩
 ·rintro i d ys M2 hd ⟨rfl,rfl⟩
  rw [getElem?_map] at hd
  cases e:(nu p)[i]? with
  | none=>rw [e] at hd;cases hd
  | some x =>
   rw [e] at hd
   cases hd
   ac_nf
   exact ⟨x,rfl,vh x (mem_of_getElem? e),rfl,by rw [iE e,map_append,map_append];rfl⟩
 rintro ys M2 _ ⟨rfl,rfl⟩ p2 hp2
 rw [length_map,take_length]
 have s5:=s4.trans (aZ.new hp2 (((nu p).map qt).map D.str))
 obtain ⟨w1,w2⟩:=aAG vh
 refine ⟨_,_,(aZ.new hp2 _) _ _ h4,aJ,by rw [length_map,length_map];show 1 + _<=1000;omega,fun p3 hp3=>⟨lnW (.pl p),by rw [aJ];rfl,?_,?_⟩⟩
 ·have:=wT w2
  rw [s32]
  show _ + _ * 1<=_
  omega
 ·rw [s32]
  exact aX (q (.ok (.pl p)) _ vp (s5.trans (aZ.new hp3 _)))
noncomputable def woW:Lo->List Str
 | .ok l=>lnW l
 | .od t=>nN t
theorem aMQ {x:Lo} (h:loV x):loT x = Builtin.Str.glued (Ty.one 32) (woW x)/\(∀ s ∈ woW x,32 ∉ Ty.cl s)/\∃ w0 r,woW x = w0 :: r/\([("again":Str),"keep","ever"].any fun y=>y == w0) = decide (opL x = 1):=by
 cases x with
 | ok l =>
  refine ⟨rfl,wJ l 32 (.inl rfl),?_⟩
  cases l with
  | pl p =>
   obtain ⟨n1,n2,n3,_⟩:=xW p
   exact ⟨_,_,rfl,by simp [n1.symm,n2.symm,n3.symm,opL]⟩
  | ag n=>exact ⟨_,_,rfl,rfl⟩
  | kp=>exact ⟨_,_,rfl,by decide⟩
  | ev=>exact ⟨_,_,rfl,by decide⟩
  | en=>exact ⟨_,_,rfl,by decide⟩
 | od t =>
  obtain ⟨e1,e2,e3,_⟩:=tV t h
  refine ⟨e1,e2,?_⟩
  have key:∀ t ∈ sB,([("again":Str),"keep","ever"].any fun y=>some y == (nN t).head?) = decide (opL (.od t) = 1):=by decide +kernel
  obtain ⟨w0,r,e⟩:=List.exists_cons_of_ne_nil e3
  refine ⟨w0,r,e,?_⟩
  rw [<- key t h,e]
  simp
theorem aKV {x:Lo} (h:loV x):decide (loT x = Str.ofString "end") = decide (opL x = -1):=by
 cases x with
 | ok l =>
  by_cases e:l = .en
  ·subst e;rfl
  ·rw [decide_eq_false (show ¬ loT (.ok l) = Str.ofString "end" from fun z=>e (tI.mp z)),decide_eq_false]
   cases l with
   | en=>exact absurd rfl e
   | pl p=>exact fun z=>absurd (show (0:Int) = -1 from z) (by decide)
   | _=>exact fun z=>absurd (show (1:Int) = -1 from z) (by decide)
 | od t =>
  have key:∀ t ∈ sB,decide (t = Str.ofString "end") = decide (opL (.od t) = -1):=by decide +kernel
  exact key t h
theorem aEr (x:Lo):opL x = 1 ∨ opL x = -1 ∨ opL x = 0:=by
 cases x with
 | ok l =>
  cases l with
  | en=>exact .inr (.inl rfl)
  | pl p=>exact .inr (.inr rfl)
  | _=>exact .inl rfl
 | od t =>
  have key:∀ b:Bool,(if b = true then (1:Int) else 0) = 1 ∨ (if b = true then (1:Int) else 0) = -1 ∨ (if b = true then (1:Int) else 0) = 0:=by decide
  exact key _
def uW:DSp:=fun ds M Q=>∃ (pl:Addr) (Ls:List Lo),ds = [.ref pl]/\M pl = some (Ls.map LoS)/\(∀ x ∈ Ls,loV x)/\Ls.length<=200/\∀ M',aZ M M'->Q (.int (opn Ls)) M'
noncomputable abbrev rE:Stmt:=top 87
theorem jC:aR ["_law_lines","_law_many","_law_entry"] ["_law_lines"] (aH rE):=⟨rfl,rfl,rfl,by decide +kernel,rfl,by decide +kernel,by decide +kernel⟩
theorem aAO (hF:cE K mg "_law_open" rE ["_law_lines"]):Has P w K mg base 101 "_law_open" ["_law_lines"] uW:=by
 refine Has.mkZ hF jC (fun ds M Q ⟨_,_,z,_⟩=>by rw [z];rfl) fun f cdv A outer s H ds M Q E hr h=>?_
 obtain ⟨pl,Ls,rfl,hp,lv,ll,q⟩:=h
 refine ⟨_,(aF (aP (i:=1) jC.nd aC)
  (aF (aBU PassesOwn.never rfl (aA 0) (aS (i:=2) jC.nd) (aF (aV (aN aGi (aI (fM (aA 2) aL) aC) (cK (aB aL (aB aL (aB aL aD)))) rfl) (aE (aP (i:=1) jC.nd (aO dZ (aA 1) aC))) aU)
  (aE (aV (aN (bO hr) (aA 2) aL) (aE (aP (i:=1) jC.nd (aO nC (aA 1) aC))) aU))))
  (aE (aM (aA 1))))),?_⟩
 ac_nf
 refine ⟨_,hp,?_⟩
 refine ⟨fun i ρ M'=>aZ M M'/\∃ o2,ρ = [some (.ref pl),some (.int (opn (Ls.take i))),o2],⟨.refl _,_,rfl⟩,fun i ρ M' _ h a e=>(by cases e;exact h.1 _ _ hp),?_,?_⟩
 ·rintro i d ρ M1 hd ⟨sb,o2,rfl⟩
  rw [getElem?_map] at hd
  cases e:Ls[i]? with
  | none=>rw [e] at hd;cases hd
  | some x =>
   rw [e] at hd
   cases hd
   have vx:=lv x (mem_of_getElem? e)
   obtain ⟨e1,e2,w0,r,e3,e4⟩:=aMQ vx
   have nx:opn (Ls.take (i + 1)) = opn (Ls.take i) + opL x:=by rw [iE e,aIp,aCc];show _ + (_ + 0) = _;omega
   have le:=(aDD vx).2.1
   dsimp only [LoS]
   ac_nf
   refine ⟨32,woW x,s32,e1,by rw [e3];simp,e2,by decide,by omega,fun p0 hp0=>?_⟩
   rw [e3]
   refine ⟨_,D.str w0,aJ,zG,by decide,fun p1 hp1=>⟨[("again":Str),"keep","ever"],aJ,?_⟩⟩
   have s2:=sb.trans ((aZ.new hp0 ((w0 :: r).map D.str)).trans (aZ.new hp1 [D.str "again",.str "keep",.str "ever"]))
   generalize bH (bH M1 p0 _) p1 _ = M2 at s2 ⊢
   rw [show id ([("again":Str),"keep","ever"].any fun x=>x == w0) = decide (opL x = 1) from e4,nx]
   have le:=aKV vx
   rcases aEr x with c | c | c
   ·rw [c] at le ⊢
    refine ifT rfl ?_
    rw [aK,le]
    exact ifF rfl ⟨s2,_,rfl⟩
   ·rw [c] at le ⊢
    refine ifF rfl ?_
    rw [aK,le]
    exact ifT rfl ⟨s2,_,rfl⟩
   ·rw [c] at le ⊢
    refine ifF rfl ?_
    rw [aK,le]
    exact ifF rfl ⟨s2,_,by rw [Int.add_zero]⟩
 ·rintro ρ M1 ⟨sb,o2,rfl⟩
  rw [length_map,take_length]
  exact aX (q _ sb)
def TD (Ls:List Lo) (d:D):Prop:=(∃ k,stp 0 Ls = some k/\d = .tup [.str "line",.int (k:Int)]) ∨ (∃ rs,Ls = (lsS rs).map .ok/\((∃ i,rs ≠ []/\lkS (ofS rs) 0 [] = .inr i/\d = .tup [.str "row",.int i]) ∨ (∃ b,lkS (ofS rs) 0 [] = .inl b/\d = .tup [.str "program",.tup (dF rs)])))
noncomputable def nL (Ls:List Lo):Nat:=(Ls.filter fun x=>match x with | .ok .en=>false | _=>true).length
theorem aDS:∀ ls:List Ln,nL (ls.map .ok) = nE ls
 | []=>rfl
 | l :: ls=>by
  have:=aDS ls
  unfold nL nE at *
  cases l with
  | en=>exact this
  | _=>exact congrArg (· + 1) this
theorem aMv (xs ys:List Lo):nL (xs ++ ys) = nL xs + nL ys:=by unfold nL;rw [List.filter_append,length_append]
theorem aFQ (xs:List Lo):nL xs<=xs.length:=List.length_filter_le _ _
def uV:DSp:=fun ds M Q=>∃ (pt:Addr) (Ls:List Lo),ds = [.ref pt]/\M pt = some (Ls.map LoS)/\(∀ x ∈ Ls,loV x)/\Ls.length<=90/\nL Ls<=43/\∀ d M',TD Ls d->aZ M M'->Q d M'
noncomputable abbrev qM:Stmt:=top 88
theorem nO:aR ["_law_lines","_law_found","e"] ["_law_lines"] (aH qM):=⟨rfl,rfl,rfl,by decide +kernel,rfl,by decide +kernel,by decide +kernel⟩
theorem aAQ {C_NoText C_NoRow:Addr} (hF:cE K mg "_law_told" qM ["_law_lines"]) (iC:jZ P w K mg base "NoText" C_NoText "line") (gH:jZ P w K mg base "NoRow" C_NoRow "row") (xT:aAV K C_NoText) (aBf:aAV K C_NoRow) (f_NoText:vR K C_NoText "line") (f_NoRow:vR K C_NoRow "row") (fH:exmOne K (.ref C_NoText) (.ref C_NoText) = some true) (gM:exmOne K (.ref C_NoRow) (.ref C_NoRow) = some true) (fR:exmOne K (.ref C_NoRow) (.ref C_NoText) = some false) (aDk:Has P w K mg base 130 "read" ["text"] aDQ) (aBx:eT P w K mg base 130 "read" ["text"] C_NoText "line" aJm/\eT P w K mg base 130 "read" ["text"] C_NoRow "row" aJf):Has P w K mg base 131 "_law_told" ["_law_lines"] uV:=by
 refine Has.mkZ hF nO (fun ds M Q ⟨_,_,z,_⟩=>by rw [z];rfl) fun f cdv A outer s H ds M Q E hr h=>?_
 obtain ⟨pt,Ls,rfl,hp,lv,ll,ln,q⟩:=h
 refine ⟨_,(aF (aFa (j:=2) (aFq (aIk (i:=1) (aEx (aCl aBx.1 (by decide)) (aCl aBx.2 (by decide))) aDk hr (by decide) nO.nd (aB (pJ aL (aA 0)) aD))) nO.nd iC.nm gH.nm fH gM fR
  (fun _ _ _ _ _ _ ho hl=>(aE (aM (aQ (aB aL (aB (aDM (j:=2) ho hl xT f_NoText) aD))))))
  (fun _ _ _ _ _ _ ho hl=>(aE (aM (aQ (aB aL (aB (aDM (j:=2) ho hl aBf f_NoRow) aD)))))))
  (aE (aM (aQ (aB aL (aB (aA 1) aD)))))),?_⟩
 ac_nf
 have tv:∀ t ∈ Ls.map loT,LnT t:=fun t ht=>by
  obtain ⟨x,hx,rfl⟩:=List.mem_map.mp ht
  exact aDD (lv x hx)
 refine ⟨Ls.map loT,by rw [hp,map_map];rfl,?_,?_⟩
 ·rw [s10];exact (tS tv (by rw [length_map];omega)).2
 rw [s10]
 cases hs:stp 0 Ls with
 | some k =>
  obtain ⟨ls,tl,e1,e2,e3,e4⟩:=xV Ls 0 k hs
  refine .inl ⟨.y C_NoText "line" _,.inl ⟨_,rfl,ls,tl.map loT,?_,?_,?_,e2,?_,?_,rfl⟩,.inl ⟨rfl,rfl,fun a=>?_⟩⟩
  ·rw [e1,map_append,map_map];rfl
  ·exact fun l hl=>aDW (lv (.ok l) (by rw [e1];exact mem_append_left _ (mem_map_of_mem hl)))
  ·intro t ht
   obtain ⟨x,hx,rfl⟩:=List.mem_map.mp ht
   exact aDD (lv x (by rw [e1];exact mem_append_right _ hx))
  ·rw [e1,length_append,length_map] at ll
   rw [length_map];omega
  ·rcases e4 with ⟨x,r,rfl,st⟩ | ⟨rfl,d0⟩
   ·refine .inl ⟨loT x,r.map loT,rfl,?_⟩
    rcases st with ⟨t,rfl⟩ | ⟨rfl,d0⟩
    ·exact .inl (lv (.od t) (by rw [e1];exact mem_append_right _ (mem_cons_self ..)))
    ·exact .inr ⟨rfl,d0⟩
   ·exact .inr ⟨rfl,d0⟩
  ·ac_nf
   exact ⟨rfl,by decide,aX (q _ _ (.inl ⟨k,hs,by rw [e3]⟩) (.refl _))⟩
 | none =>
  obtain ⟨ls,e1,e2,e3⟩:=aBK Ls 0 hs
  obtain ⟨rs,rfl⟩:=aEg e2 e3
  have ok:OkR rs:=by
   refine aF5 (fun l hl=>lv (.ok l) (by rw [e1];exact mem_map_of_mem hl)) ?_ ?_
   ·rw [e1,aDS] at ln;exact ln
   ·rw [e1,length_map] at ll;omega
  have et:Builtin.Str.glued (Ty.one 10) (Ls.map loT) = txt rs:=by rw [e1,map_map];rfl
  rw [et]
  cases hz:lkS (ofS rs) 0 [] with
  | inr i =>
   have ne:rs ≠ []:=fun z=>by rw [z,ofS,lkS] at hz;cases hz
   refine .inl ⟨.y C_NoRow "row" _,.inr ⟨_,rfl,rs,rfl,ok,ne,hz⟩,.inr ⟨rfl,rfl,fun a=>?_⟩⟩
   ac_nf
   exact ⟨rfl,by decide,aX (q _ _ (.inr ⟨rs,e1,.inl ⟨i,ne,hz,rfl⟩⟩) (.refl _))⟩
  | inl b =>
   refine .inr ⟨rs,rfl,ok,⟨b,hz⟩,fun M' sb=>?_⟩
   ac_nf
   exact ⟨by decide,aX (q _ _ (.inr ⟨rs,e1,.inr ⟨b,hz,rfl⟩⟩) sb)⟩
def pI:DSp:=fun ds M Q=>∃ (ns:List Int) (k:Nat),ds = [.fz (ns.map D.int),.int (k:Int)]/\∀ c:Int,Q (.int c) M
noncomputable abbrev lI:Stmt:=top 77
theorem wM:aR ["_law_script","_law_k"] ["_law_script","_law_k"] (aH lI):=⟨rfl,rfl,rfl,by decide +kernel,rfl,by decide +kernel,by decide +kernel⟩
theorem vP (hF:cE K mg "_law_cell_at" lI ["_law_script","_law_k"]) (cY:mg "len" = none):Has P w K mg base 101 "_law_cell_at" ["_law_script","_law_k"] pI:=by
 refine Has.mkZ hF wM (fun ds M Q ⟨a,n,z,_⟩=>by rw [z];rfl) fun f cdv A outer s H ds M Q E hr h=>?_
 obtain ⟨ns,k,rfl,q⟩:=h
 refine ⟨_,(aF (aV (aN qK (aA 1) (cD fV cY (aB (aA 0) aD))) (aE (aM (aI (aA 0) (aA 1)))) aU)
  (aE (aM aC))),?_⟩
 ac_nf
 show (fun x M1=>_) _ _
 refine dif (fun c=>?_) (fun c=>⟨M,.refl _,q 0⟩)
 have hk:k < (ns.map D.int).length:=by
  have:(k:Int) < ((ns.map D.int).length:Int):=c
  omega
 have hat:atI (ns.map D.int) (k:Int) = some (.int (ns[k]'(by simpa using hk))):=aD1 (by rw [List.getElem?_eq_getElem hk];simp)
 try dsimp only [mB]
 rw [hat]
 exact ⟨M,.refl _,q _⟩
theorem aMz (ns:List Int):∃ cs:List Int,Dd.cutD (ns.map D.int) (some 1) (some 41) = cs.map D.int/\cs.length<=40:=by
 unfold Dd.cutD
 rw [<- List.map_drop,<- map_take,length_map]
 refine ⟨_,rfl,?_⟩
 rw [show (1:Int) = ((1:Nat):Int) from rfl,show (41:Int) = ((41:Nat):Int) from rfl,HT.sIx_nat,HT.sIx_nat,length_take,length_drop]
 omega
theorem aCk (xs:List D) (k:Nat):Dd.cutD xs none (some (k:Int)) = xs.take k:=by
 unfold Dd.cutD
 rw [HT.sIx_nat,HT.sIx_none,drop_zero,Nat.sub_zero]
 rcases Nat.le_total k xs.length with c | c
 ·rw [Nat.min_eq_left c]
 ·rw [Nat.min_eq_right c,take_of_length_le (Nat.le_refl _),take_of_length_le c]
theorem aB9 {α:Type} (x:α):∀ m,(replicate m [x]).flatten = replicate m x
 | 0=>rfl
 | m + 1=>by rw [replicate_succ,flatten_cons,aB9 x m,replicate_succ];rfl
theorem aAH:∀ (ls:List Ln) (d:Nat),dpt d ls<=d + ls.length
 | [],d=>Nat.le_refl _
 | l :: ls,d=>by
  rw [length_cons]
  by_cases hop:isO l
  ·rw [lO hop];have:=aAH ls (d + 1);omega
  cases l with
  | pl p=>rw [qA];have:=aAH ls d;omega
  | en=>have:=aAH ls (d - 1);show dpt (d - 1) ls<=_;omega
  | _=>exact absurd trivial hop
def sp_law:DSp:=fun ds M Q=>∃ ns:List Int,ds = [.fz (ns.map D.int)]/\ns.length<=63/\∀ M',Q (.bl true) M'
noncomputable abbrev sZ:Stmt:=top 89
theorem rF:aR ["_law_script","_law_lines","_law_cell","_law_entry","_law_word","_law_number","_law_former"] ["_law_script"] (aH sZ):=⟨rfl,rfl,rfl,by decide +kernel,rfl,by decide +kernel,by decide +kernel⟩
theorem aI5 {f0:Addr} {fd0:FuncData} (hF:L2.Fun K "law" "law" sZ f0 fd0) (cY:mg "len" = none) (iU:Has P w K mg base 101 "_law_cell_at" ["_law_script","_law_k"] pI) (uL:Has P w K mg base 101 "_law_row" ["_law_cell","_law_many"] wO) (qR:Has P w K mg base 105 "_law_line" ["_law_row_here","_law_odd"] uU) (kF:Has P w K mg base 101 "_law_open" ["_law_lines"] uW) (kI:Has P w K mg base 131 "_law_told" ["_law_lines"] uV) (uB:Has P w K mg base 119 "written" ["program"] xM) (dB:Has P w K mg base 129 "program_of" ["rows"] iT) :
  jE P w K mg base CX0 151 f0 fd0 ["_law_script"] (oI K sp_law):=by
 refine Fun.okZ hF rF (fun ds M Q ⟨ns,e,_⟩=>by rw [e];rfl) fun cdv A outer s H ds M Q E hr h=>?_
 obtain ⟨ns,rfl,hl,fin⟩:=h
 refine ⟨_,(aF (aP (i:=1) rF.nd (cK aD))
  (fJ (aBU PassesOwn.never rfl (pQ (aA 0) (gC aC) (gC aC)) (aS (i:=2) rF.nd) (aF (aP (i:=3) rF.nd (aG qR hr (by decide) (aB (aG uL hr (by decide) (aB (aA 2) (aB aC aD))) (aB (cQ (bO hr) (aO dO (aG iU hr (by decide) (aB (aA 0) (aB aC aD))) aC) aC) aD))))
  (aE (aV (dE (eL (aN (fX hr) (aA 3) aL) (eL (aN kT (aG kF hr (by decide) (aB (aA 1) aD)) aC) (eG (aN (bO hr) (aO dO (aG iU hr (by decide) (aB (aA 0) (aB aC aD))) aC) aC))))) (aE (eC (dH (aA 1) (aA 3)))) aU))))
  (aF (fN (aG kI hr (by decide) (aB (aA 1) aD)) (gO (n:=2) rfl (bA (aS (i:=4) rF.nd) (bA (aS (i:=5) rF.nd) eE))))
  (aF (aV (aN (bO hr) (aA 4) aL) (aE (aM (eX (cQ (bO hr) (aG uB hr (by decide) (aB (aA 5) aD)) (pJ aL (aA 1))) (eW (cQ (bO hr) (aG dB hr (by decide) (aB (aA 5) aD)) (aA 5)))))) aU)
  (aF (aV (aN (fX hr) (aA 4) aL) (aE (aM (eX (cQ (bO hr) (aA 4) aL) (eX (tN uX qK aC (aA 5) (cD fV cY (aB (aA 1) aD))) (eW (cQ (fX hr) (aI (aA 1) (aA 5)) aL)))))) aU)
  (fJ (aV (dE (eL (eV (aEZ uX uX aC (aA 5) (cD fV cY (aB (aA 1) aD)))) (eG (dE (eI (aN (bO hr) (aA 5) (cD fV cY (aB (aA 1) aD))) (dA (aN qK (aG kF hr (by decide) (aB (aA 1) aD)) aC))))))) (aE (aM lJ)) aU)
  (aF (aP (i:=6) rF.nd (pQ (aA 1) jU (gC (aA 5))))
  (aF (aV (aN (bO hr) (aI (aG kI hr (by decide) (aB (aO dZ (aA 6) (aO aIa (cK (aB aL aD)) (aG kF hr (by decide) (aB (aA 6) aD)))) aD)) aC) aL) (aE (aM lJ)) aU)
  (aE (aM (aBy (cQ (bO hr) (aA 5) (cD fV cY (aB (aA 1) aD))) (eW (cQ (bO hr) (aG kI hr (by decide) (aB (pQ (aA 1) jU (gC (aO dZ (aA 5) aC))) aD)) (aQ (aB aL (aB (aA 5) aD)))))))))))))))),?_⟩
 ac_nf
 refine ⟨by decide,fun p hp=>⟨fun ρ' M'=>∃ (Ls:List Lo) (o2 o3:Option D),M' (.l p) = some (Ls.map LoS)/\(∀ x ∈ Ls,loV x)/\Ls.length<=40/\ρ' = [some (.fz (ns.map D.int)),some (.ref p),o2,o3,none,none,none],fun p1 hp1=>?_,?_⟩⟩
 ·obtain ⟨cs,ec,lc⟩:=aMz ns
  rw [ec]
  obtain ⟨n1,hp1'⟩:=fU hp1
  have h1:bH (bH M p []) p1 (cs.map D.int) p1 = some (cs.map D.int):=aJ
  have h0:bH (bH M p []) p1 (cs.map D.int) p = some []:=(aZ.new hp1 _) _ _ aJ
  generalize bH (bH M p []) p1 _ = M1 at h0 h1 ⊢
  refine ⟨_,h1,?_⟩
  refine ⟨fun i ρ M'=>M' (.l p1) = some (cs.map D.int)/\∃ (Ls:List Lo) (o2 o3:Option D),M' (.l p) = some (Ls.map LoS)/\(∀ x ∈ Ls,loV x)/\Ls.length<=i/\ρ = [some (.fz (ns.map D.int)),some (.ref p),o2,o3,none,none,none],⟨h1,[],_,_,h0,(fun x hx=>by cases hx),Nat.zero_le _,rfl⟩,fun i ρ M' _ h a e=>(by cases e;exact h.1),?_,?_⟩
  ·rintro i d ρ M2 hd ⟨hc,Ls,o2,o3,hL,lv,ll,rfl⟩
   have il:=(List.getElem?_eq_some_iff.mp hd).1
   rw [length_map] at il
   obtain ⟨c,_,rfl⟩:=List.mem_map.mp (mem_of_getElem? hd)
   ac_nf
   refine ⟨c,12,rfl,by decide,by decide,fun pn Ln hpn hLn=>?_⟩
   have sn:=aZ.new hpn Ln
   have hn:bH M2 pn Ln pn = some Ln:=aJ
   generalize bH M2 pn Ln = M3 at sn hn ⊢
   refine ⟨ns,0,rfl,fun c0=>?_⟩
   ac_nf
   refine ⟨by decide,?_⟩
   rw [cB]
   refine ⟨pn,Ln,_,rfl,hn,hLn,fun x M4 vx s4=>?_⟩
   have hL4:=(sn.trans s4) _ _ hL
   have hc4:=(sn.trans s4) _ _ hc
   have keep:∀ M5:DM,M5 (.l p1) = some (cs.map D.int)->M5 (.l p) = some (Ls.map LoS)->∀ o3,M5 (.l p1) = some (cs.map D.int)/\∃ (Ls':List Lo) (o2' o3':Option D),M5 (.l p) = some (Ls'.map LoS)/\(∀ x ∈ Ls',loV x)/\Ls'.length<=i + 1/\[some (D.fz (ns.map D.int)),some (.ref p),some (.int c),o3,none,none,none] = [some (D.fz (ns.map D.int)),some (.ref p),o2',o3',none,none,none]:=fun M5 a1 a2 o3=>⟨a1,Ls,_,_,a2,lv,by omega,rfl⟩
   have more:∀ M5:DM,M5 (.l p1) = some (cs.map D.int)->M5 (.l p) = some (Ls.map LoS)->∀ o3,bH M5 p (Ls.map LoS ++ [D.str (loT x)]) (.l p1) = some (cs.map D.int)/\∃ (Ls':List Lo) (o2' o3':Option D),bH M5 p (Ls.map LoS ++ [D.str (loT x)]) (.l p) = some (Ls'.map LoS)/\(∀ x ∈ Ls',loV x)/\Ls'.length<=i + 1/\[some (D.fz (ns.map D.int)),some (.ref p),some (.int c),o3,none,none,none] = [some (D.fz (ns.map D.int)),some (.ref p),o2',o3',none,none,none]:=fun M5 a1 a2 o3=>by
    refine ⟨by rw [bI n1];exact a1,Ls ++ [x],_,_,by rw [aJ,map_append];rfl,fun y hy=>?_,by rw [length_append];show _ + 1<=_;omega,rfl⟩
    rcases List.mem_append.mp hy with hy | hy
    ·exact lv y hy
    ·rw [List.mem_singleton.mp hy];exact vx
   clear hn hLn sn s4 hL hc hpn
   ac_nf
   rw [aK]
   by_cases c1:loT x = Str.ofString "end"
   ·refine ifF (by rw [decide_eq_true c1];rfl) ⟨p,Ls,rfl,hL4,lv,by omega,fun M5 s5=>?_⟩
    have hL5:=s5 _ _ hL4
    have hc5:=s5 _ _ hc4
    by_cases c2:0 < opn Ls
    ·exact ifT (decide_eq_true c2) (ifT rfl ⟨⟨_,hL5⟩,_,_,rfl,hL5,by rw [length_map];omega,more M5 hc5 hL5 _⟩)
    ·refine ifF (decide_eq_false c2) ⟨ns,0,rfl,fun c9=>⟨by decide,?_⟩⟩
     rw [cB]
     by_cases c3:c9.fmod 8 = 7
     ·exact ifT (decide_eq_true c3) ⟨⟨_,hL5⟩,_,_,rfl,hL5,by rw [length_map];omega,more M5 hc5 hL5 _⟩
     ·exact ifF (decide_eq_false c3) (keep M5 hc5 hL5 _)
   ·exact ifT (by rw [decide_eq_false c1];rfl) (ifT rfl ⟨⟨_,hL4⟩,_,_,rfl,hL4,by rw [length_map];omega,more M4 hc4 hL4 _⟩)
  ·rintro ρ M2 ⟨hc,Ls,o2,o3,hL,lv,ll,rfl⟩
   exact ⟨Ls,o2,o3,hL,lv,by rw [length_map] at ll;omega,rfl⟩
 ·rintro ρ' M1 ⟨Ls,o2,o3,hL,lv,ll,rfl⟩
  ac_nf
  refine ⟨p,Ls,rfl,hL,lv,by omega,by have:=aFQ Ls;omega,fun d M2 td s2=>?_⟩
  have hL2:=s2 _ _ hL
  rcases td with ⟨k,hk,rfl⟩ | ⟨rs,e1,⟨i,ne,hz,rfl⟩ | ⟨b,hz,rfl⟩⟩
  ·ac_nf
   obtain ⟨ls,tl,e1,e2,e3,e4⟩:=xV Ls 0 k hk
   have kl:k<=Ls.length:=by rw [e1,length_append,length_map];omega
   refine ⟨rfl,?_⟩
   rw [aK]
   refine ifF (by decide) ?_
   rw [aK]
   refine ifF (by decide) ?_
   refine ⟨fun ρ' M'=>aZ M2 M'/\ρ' = [some (.fz (ns.map D.int)),some (.ref p),o2,o3,some (.str "line"),some (.int (k:Int)),none],?_,?_⟩
   ·refine ifT (decide_eq_true (by omega)) ⟨_,hL2,?_⟩
    rw [length_map,decide_eq_true (show (k:Int)<=(Ls.length:Int) by omega)]
    refine ifF rfl ⟨_,hL2,?_⟩
    rw [cB,length_map]
    by_cases c:(k:Int) = (Ls.length:Int)
    ·refine ifT (decide_eq_true c) ⟨p,Ls,rfl,hL2,lv,by omega,fun M3 s3=>?_⟩
     have h1:1<=opn Ls:=by
      have l2:Ls.length = ls.length + tl.length:=by rw [e1,length_append,length_map]
      have t0:tl = []:=List.eq_nil_of_length_eq_zero (by omega)
      rcases e4 with ⟨x,r,e,_⟩ | ⟨_,d0⟩
      ·rw [e] at t0;cases t0
      ·have:=sG ls 0 e2
       rw [e1,t0,append_nil]
       omega
     exact ifF (decide_eq_false (by omega)) ⟨s3,rfl⟩
    ·exact ifF (decide_eq_false c) (ifF rfl ⟨.refl _,rfl⟩)
   rintro ρ' M3 ⟨s3,rfl⟩
   have hL3:=s3 _ _ hL2
   ac_nf
   have ec:Dd.cutD (Ls.map LoS) none (some (k:Int)) = (ls.map Lo.ok).map LoS:=by rw [aCk,<- map_take,e1,List.take_left' (by rw [length_map];exact e3)]
   refine ⟨_,hL3,fun p1 hp1=>⟨by decide,fun p2 hp2=>?_⟩⟩
   rw [ec] at hp2 ⊢
   have a1:=(aZ.new hp2 [D.str "end"]) _ _ (aJ (M:=M3) (a:=p1) (ds:=(ls.map Lo.ok).map LoS))
   have a2:bH (bH M3 p1 ((ls.map Lo.ok).map LoS)) p2 [D.str "end"] p2 = some [D.str "end"]:=aJ
   have a3:=((aZ.new hp1 ((ls.map Lo.ok).map LoS)).trans (aZ.new hp2 [D.str "end"]))
   generalize bH (bH M3 p1 _) p2 _ = M4 at a1 a2 a3 ⊢
   have lvo:∀ x ∈ ls.map Lo.ok,loV x:=fun x hx=>lv x (by rw [e1];exact mem_append_left _ hx)
   have lsl:ls.length<=40:=by omega
   refine ⟨p1,ls.map .ok,rfl,a1,lvo,by rw [length_map];omega,fun M5 s5=>?_⟩
   have od:=sG ls 0 e2
   rw [show opn (ls.map .ok) = ((dpt 0 ls:Nat):Int) by omega]
   have dl:dpt 0 ls<=ls.length:=by have:=aAH ls 0;omega
   generalize hm:dpt 0 ls = m at dl ⊢
   refine ⟨_,s5 _ _ a2,by simp,by omega,by omega,by show 1 * m<=1000;omega,fun p3 hp3=>?_⟩
   rw [show (replicate ((m:Int)).toNat [D.str "end"]).flatten = (replicate m (Lo.ok .en)).map LoS by rw [Int.toNat_natCast,aB9,List.map_replicate];rfl]
   have a4:=(aZ.new hp3 ((replicate m (Lo.ok .en)).map LoS)) _ _ (s5 _ _ a1)
   refine ⟨_,_,a4,aJ,by rw [length_map,length_map,length_map,List.length_replicate];omega,fun p4 hp4=>?_⟩
   obtain ⟨w1,w2⟩:=aGA ls 0 m (by omega) e2
   rw [hm,Nat.sub_self] at w2
   obtain ⟨rs,er⟩:=aEg w1 w2
   have s6:=a3.trans (s5.trans ((aZ.new hp3 ((replicate m (Lo.ok .en)).map LoS)).trans (aZ.new hp4 ((ls.map Lo.ok).map LoS ++ (replicate m (Lo.ok .en)).map LoS))))
   have el:(ls.map Lo.ok) ++ replicate m (Lo.ok .en) = (lsS rs).map .ok:=by rw [<- er,map_append,List.map_replicate]
   refine ⟨p4,(lsS rs).map .ok,rfl,by rw [aJ,<- map_append,el],fun x hx=>?_,by rw [<- el,length_append,length_map,List.length_replicate];omega,?_,fun d M6 td s7=>?_⟩
   ·rw [<- el] at hx
    rcases List.mem_append.mp hx with hx | hx
    ·exact lvo x hx
    ·rw [(List.mem_replicate.mp hx).2];trivial
   ·rw [<- el,aMv,aDS]
    have h1:nL (replicate m (Lo.ok .en)) = 0:=by
                               unfold nL;rw [List.filter_eq_nil_iff.mpr];· rfl
                               ·intro x hx;rw [(List.mem_replicate.mp hx).2];decide
    have h2:nE ls<=ls.length:=List.length_filter_le _ _
    omega
   have hL6:=(s6.trans s7) _ _ hL3
   have nol:∃ wd0 r0,d = .tup [.str wd0,r0]/\wd0 ≠ "line":=by
    rcases td with ⟨k',hk',_⟩ | ⟨_,_,⟨i,_,_,rfl⟩ | ⟨b,_,rfl⟩⟩
    ·rw [aFD] at hk';cases hk'
    ·exact ⟨_,_,rfl,by decide⟩
    ·exact ⟨_,_,rfl,by decide⟩
   obtain ⟨wd0,r0,rfl,nw⟩:=nol
   ac_nf
   rw [aK]
   refine ifF (decide_eq_false nw) ⟨_,hL6,?_⟩
   rw [cB,length_map]
   by_cases c:(k:Int) = (Ls.length:Int)
   ·exact ifT (decide_eq_true c) (aX (fin _))
   refine ifF (decide_eq_false c) ⟨_,hL6,fun p6 hp6=>?_⟩
   rcases e4 with ⟨x,r,et,st⟩ | ⟨et,_⟩
   ·have ek:Dd.cutD (Ls.map LoS) none (some ((k:Int) + 1)) = (ls.map Lo.ok ++ [x]).map LoS:=by
     rw [show (k:Int) + 1 = ((k + 1:Nat):Int) by omega,aCk,<- map_take,e1,et,show ls.map Lo.ok ++ x :: r = (ls.map Lo.ok ++ [x]) ++ r by simp,List.take_left' (by rw [length_append,length_map,e3];rfl)]
    rw [ek]
    refine ⟨p6,ls.map .ok ++ [x],rfl,aJ,fun y hy=>lv y ?_,by rw [length_append,length_map];show _ + 1<=90;omega,?_,fun d M7 td s8=>?_⟩
    ·rw [e1,et]
     rcases List.mem_append.mp hy with hy | hy
     ·exact mem_append_left _ hy
     ·rw [List.mem_singleton.mp hy];exact mem_append_right _ (mem_cons_self ..)
    ·have:=aFQ (ls.map Lo.ok ++ [x])
     rw [length_append,length_map,length_singleton] at this
     omega
    ·have hs:=aGr (r:=[]) e2 st
     rcases td with ⟨k',hk',rfl⟩ | ⟨rs',e',_⟩
     ·rw [hs] at hk'
      cases hk'
      rw [e3]
      exact ⟨by decide,aCh rfl (aX (fin _))⟩
     ·rw [e',aFD] at hs;cases hs
   ·exfalso
    rw [e1,et,length_append,length_map,length_nil] at c
    omega
  ·ac_nf
   refine ⟨rfl,?_⟩
   obtain ⟨k,l,ei,hl',nl⟩:=(aBP rs 0 []).1 i hz
   rw [Int.zero_add] at ei
   subst ei
   have kl:=(List.getElem?_eq_some_iff.mp hl').1
   have el:Ls.length = (lsS rs).length:=by rw [e1,length_map]
   rw [aK]
   refine ifF (by decide) ?_
   rw [aK]
   refine ifT (by decide) ?_
   rw [aK]
   refine ifT (by decide) (ifT (decide_eq_true (by omega)) ⟨_,hL2,?_⟩)
   rw [length_map]
   refine ifT (decide_eq_true (by omega)) ⟨_,.str (lnT l),hL2,?_,?_⟩
   ·unfold atI ixN
    rw [if_pos (by omega),length_map,if_pos (by omega)]
    show (Ls.map LoS)[k]? = _
    rw [e1,map_map,getElem?_map,hl'];rfl
   ·rw [aK,decide_eq_false (fun z=>nl (tI.mp z))]
    exact aX (fin _)
  ·ac_nf
   have ok:OkR rs:=by
    refine aF5 (fun l hl=>lv (.ok l) (by rw [e1];exact mem_map_of_mem hl)) ?_ ?_
    ·have:=aFQ Ls
     rw [<- aDS,<- e1];omega
    ·rw [e1,length_map] at ll;omega
   have d8:=aDX hz ok.va.1 (by rw [iO];have:=ok.hm;omega)
   rw [iO] at d8
   have tv:∀ t ∈ Ls.map loT,LnT t:=fun t ht=>by
    obtain ⟨x,hx,rfl⟩:=List.mem_map.mp ht
    exact aDD (lv x hx)
   refine ⟨rfl,?_⟩
   rw [aK]
   refine ifT (by decide) ⟨rs,rfl,d8,ok.lv,by have:=ok.ln;omega,fun M3 s3=>⟨Ls.map loT,by rw [s3 _ _ hL2,map_map];rfl,?_,?_⟩⟩
   ·rw [s10];exact (tS tv (by rw [length_map];omega)).2
   rw [s10,aK]
   refine ifT (decide_eq_true (show txt rs = _ by rw [e1,map_map];rfl)) ⟨ofS rs,by rw [wL],ok.va,by rw [iO];exact ok.hm,⟨b,hz⟩,?_⟩
   rw [wL]
   exact aCh (aFu d8 (by decide)) (aX (fin _))
theorem law_here (ns:List Int) (hl:ns.length<=63) (M:DM):sp_law [.fz (ns.map D.int)] M fun d _=>d = .bl true:=⟨ns,rfl,hl,fun _=>rfl⟩
end
noncomputable def aG0:Stmt->Stmt
 | .ClassDef _ _ _ body _ _ _ _ _ _ _=>body.getD 0 (.Pass ⟨0,0,0,0⟩)
 | s=>s
noncomputable abbrev sD:Stmt:=aG0 (top 3)
theorem yX:aR ["self","row"] ["self","row"] (aH sD):=⟨rfl,rfl,rfl,by decide +kernel,rfl,by decide +kernel,by decide +kernel⟩
noncomputable abbrev qB:Stmt:=aG0 (top 4)
theorem xD:aR ["self","line"] ["self","line"] (aH qB):=⟨rfl,rfl,rfl,by decide +kernel,rfl,by decide +kernel,by decide +kernel⟩
theorem all_mk {l:PySem.W.OpenLaw} {w:World} {K:Frag} {h:Heap} {mg:Str->Option Value} {fa f0 f1 f2 f3 f4 f5 f6 f7 f8 f9 f10 f11 f12 f13 f14 f15 f16 f17 f18 f19 f20 f21 f22 f23 f24 f25 f26 f27 f28 f29 f30 f31 f32 f33 f34 f35 f36 f37 f38 f39 f40 f41 f42 f43 f44 f45 f46 f47 f48 f49 f50 f51 f52 f53 f54 f55 f56 f57 f58 f59 f60 f61 f62 f63 f64:Addr} (X:K.In h) (G:h.Ns mainGlobals mg) (hfa:mg "law" = some (.ref fa))
  {od64 an64:Option Addr} {sl64:Array (Option Value)} {oc64 kV64 dc64 pm64 cd64 ct64:Value}
  (b0:FK K "greatest_divisor" f0 gY)
  (b1:FK K "plus" f1 aDl)
  (b2:FK K "times" f2 wE)
  (b3:FK K "below" f3 aBm)
  (b4:FK K "on_one_bottom" f4 jG)
  (b5:FK K "sign" f5 aCY)
  (b6:FK K "scaled_far" f6 nH)
  (b7:FK K "farther" f7 tZ)
  (b8:FK K "first" f8 aBc)
  (b9:FK K "_law_ratio" f9 kW)
  (b10:FK K "_law_plus" f10 rH)
  (b11:FK K "_law_times" f11 kO)
  (b12:FK K "_law_drawn" f12 pH)
  (b13:FK K "at_place" f13 qS)
  (b14:FK K "side_deed" f14 nY)
  (b15:FK K "go_deed" f15 uK)
  (b16:FK K "skip_deed" f16 nS)
  (b17:FK K "dot_deed" f17 qO)
  (b18:FK K "left_deed" f18 oS)
  (b19:FK K "round_deed" f19 mC)
  (b20:FK K "right_deed" f20 mO)
  (b21:FK K "mirror_deed" f21 lC)
  (b22:FK K "grow_deed" f22 oR)
  (b23:FK K "quarter_deed" f23 jV)
  (b24:FK K "half_deed" f24 nP)
  (b25:FK K "arc_deed" f25 qL)
  (b26:FK K "deed_of" f26 tW)
  (b27:FK K "rows_within" f27 iX)
  (b28:FK K "how_many_done" f28 jM)
  (b29:FK K "_law_row" f29 uJ)
  (b30:FK K "_law_bow" f30 tJ)
  (b31:FK K "_law_plain" f31 oG)
  (b32:FK K "how_many_rows" f32 jL)
  (b33:FK K "not_too_long" f33 iH)
  (b34:FK K "may_grow" f34 rG)
  (b35:FK K "is_whole" f35 rP)
  (b36:FK K "is_reduced" f36 mZ)
  (b37:FK K "is_fraction" f37 lH)
  (b38:FK K "numbers_behind" f38 iR)
  (b39:FK K "is_worded" f39 nQ)
  (b40:FK K "is_bend" f40 tH)
  (b41:FK K "is_plain_row" f41 iG)
  (b42:FK K "is_block" f42 qZ)
  (b43:FK K "has_room" f43 qU)
  (b44:FK K "draws" f44 aAy)
  (b45:FK K "raised_whole" f45 kG)
  (b46:FK K "raised" f46 yF)
  (b47:FK K "move_size" f47 oV)
  (b48:FK K "can_go_on" f48 oO)
  (b49:FK K "look_at_rows" f49 iI)
  (b50:FK K "program_of" f50 jO)
  (b51:FK K "whole_of" f51 mG)
  (b52:FK K "fraction_of" f52 iY)
  (b53:FK K "head_of" f53 eN)
  (b54:FK K "rows_of" f54 pS)
  (b55:FK K "number_text" f55 lG)
  (b56:FK K "lines_of" f56 mT)
  (b57:FK K "written" f57 uQ)
  (b58:FK K "read" f58 aAC)
  (b59:FK K "_law_number_text" f59 iD)
  (b60:FK K "_law_line" f60 mS)
  (b61:FK K "_law_open" f61 rE)
  (b62:FK K "_law_told" f62 qM)
  (b63:FK K "_law_cell_at" f63 lI)
  (a64:nsIn K mainGlobals "law" = some (some (.ref f64))) (l64:K.lookup f64 = some ⟨oc64,od64,.func (fnOf "law" "law" (mV sZ) (eY sZ) (aH sZ) .none kV64 dc64 pm64 an64 cd64 ct64),sl64⟩) (c64:codeIn K cd64 "law" = true) (k64:keepIn K (.ref f64) = true)
  (z_abs:nsIn K mainGlobals "abs" = some none)
  (z_all:nsIn K mainGlobals "all" = some none)
  (z_bool:nsIn K mainGlobals "bool" = some none)
  (z_enumerate:nsIn K mainGlobals "enumerate" = some none)
  (z_int:nsIn K mainGlobals "int" = some none)
  (z_isinstance:nsIn K mainGlobals "isinstance" = some none)
  (z_len:nsIn K mainGlobals "len" = some none)
  (z_min:nsIn K mainGlobals "min" = some none)
  (z_range:nsIn K mainGlobals "range" = some none)
  (z_str:nsIn K mainGlobals "str" = some none)
  (z_tuple:nsIn K mainGlobals "tuple" = some none)
  {GNUMBERS:Addr} {esGNUMBERS:Array DictEntry} {epGNUMBERS:Nat} (at_NUMBERS:nsIn K mainGlobals "NUMBERS" = some (some (.ref GNUMBERS))) (am_NUMBERS:(GNUMBERS == sysModules) = false) (lt_NUMBERS:K.lookup GNUMBERS = some ⟨.type "dict",none,.dict esGNUMBERS epGNUMBERS,#[]⟩) (kt_NUMBERS:KeysLit w.params esGNUMBERS.toList)
  {tk_NUMBERS_go:Tok} (et_NUMBERS_go:nsIn K GNUMBERS "go" = some (some (.int 1 tk_NUMBERS_go)))
  {tk_NUMBERS_skip:Tok} (et_NUMBERS_skip:nsIn K GNUMBERS "skip" = some (some (.int 1 tk_NUMBERS_skip)))
  {tk_NUMBERS_side:Tok} (et_NUMBERS_side:nsIn K GNUMBERS "side" = some (some (.int 2 tk_NUMBERS_side)))
  {tk_NUMBERS_dot:Tok} (et_NUMBERS_dot:nsIn K GNUMBERS "dot" = some (some (.int 0 tk_NUMBERS_dot)))
  {tk_NUMBERS_left:Tok} (et_NUMBERS_left:nsIn K GNUMBERS "left" = some (some (.int 0 tk_NUMBERS_left)))
  {tk_NUMBERS_right:Tok} (et_NUMBERS_right:nsIn K GNUMBERS "right" = some (some (.int 0 tk_NUMBERS_right)))
  {tk_NUMBERS_round:Tok} (et_NUMBERS_round:nsIn K GNUMBERS "round" = some (some (.int 0 tk_NUMBERS_round)))
  {tk_NUMBERS_mirror:Tok} (et_NUMBERS_mirror:nsIn K GNUMBERS "mirror" = some (some (.int 0 tk_NUMBERS_mirror)))
  {tk_NUMBERS_grow:Tok} (et_NUMBERS_grow:nsIn K GNUMBERS "grow" = some (some (.int 1 tk_NUMBERS_grow)))
  {tk_NUMBERS_quarter:Tok} (et_NUMBERS_quarter:nsIn K GNUMBERS "quarter" = some (some (.int 1 tk_NUMBERS_quarter)))
  {tk_NUMBERS_half:Tok} (et_NUMBERS_half:nsIn K GNUMBERS "half" = some (some (.int 1 tk_NUMBERS_half)))
  {tk_NUMBERS_arc:Tok} (et_NUMBERS_arc:nsIn K GNUMBERS "arc" = some (some (.int 4 tk_NUMBERS_arc)))
  (en_NUMBERS_0:nsIn K GNUMBERS "again" = some none)
  (en_NUMBERS_1:nsIn K GNUMBERS "keep" = some none)
  (en_NUMBERS_2:nsIn K GNUMBERS "ever" = some none)
  (en_NUMBERS_3:nsIn K GNUMBERS "none" = some none)
  (en_NUMBERS_4:nsIn K GNUMBERS "end" = some none)
  (en_NUMBERS_5:nsIn K GNUMBERS "Dot" = some none)
  (en_NUMBERS_6:nsIn K GNUMBERS "" = some none)
  {GDEEDS:Addr} {esGDEEDS:Array DictEntry} {epGDEEDS:Nat} (at_DEEDS:nsIn K mainGlobals "DEEDS" = some (some (.ref GDEEDS))) (lt_DEEDS:K.lookup GDEEDS = some ⟨.type "dict",none,.dict esGDEEDS epGDEEDS,#[]⟩) (kt_DEEDS:KeysLit w.params esGDEEDS.toList)
  (et_DEEDS_go:nsIn K GDEEDS "go" = some (some (.ref f15)))
  (et_DEEDS_skip:nsIn K GDEEDS "skip" = some (some (.ref f16)))
  (et_DEEDS_side:nsIn K GDEEDS "side" = some (some (.ref f14)))
  (et_DEEDS_dot:nsIn K GDEEDS "dot" = some (some (.ref f17)))
  (et_DEEDS_left:nsIn K GDEEDS "left" = some (some (.ref f18)))
  (et_DEEDS_right:nsIn K GDEEDS "right" = some (some (.ref f20)))
  (et_DEEDS_round:nsIn K GDEEDS "round" = some (some (.ref f19)))
  (et_DEEDS_mirror:nsIn K GDEEDS "mirror" = some (some (.ref f21)))
  (et_DEEDS_grow:nsIn K GDEEDS "grow" = some (some (.ref f22)))
  (et_DEEDS_quarter:nsIn K GDEEDS "quarter" = some (some (.ref f23)))
  (et_DEEDS_half:nsIn K GDEEDS "half" = some (some (.ref f24)))
  (et_DEEDS_arc:nsIn K GDEEDS "arc" = some (some (.ref f25)))
  {GLEAST_CHANGE:Addr} {odGLEAST_CHANGE:Option Addr} {nGLEAST_CHANGE:Nat} {slGLEAST_CHANGE:Array (Option Value)} {tGLEAST_CHANGE_0:Tok} {tGLEAST_CHANGE_1:Tok}
  (ag_LEAST_CHANGE:nsIn K mainGlobals "LEAST_CHANGE" = some (some (.ref GLEAST_CHANGE)))
  (lGLEAST_CHANGE:K.lookup GLEAST_CHANGE = some ⟨.type "tuple",odGLEAST_CHANGE,.seq #[.int 3 tGLEAST_CHANGE_0,.int 4 tGLEAST_CHANGE_1] nGLEAST_CHANGE,slGLEAST_CHANGE⟩)
  {GMIDDLE:Addr} {odGMIDDLE:Option Addr} {nGMIDDLE:Nat} {slGMIDDLE:Array (Option Value)}
  {GMIDDLE_0:Addr} {odGMIDDLE_0:Option Addr} {nGMIDDLE_0:Nat} {slGMIDDLE_0:Array (Option Value)} {tGMIDDLE_0_0:Tok} {tGMIDDLE_0_1:Tok}
  {GMIDDLE_1:Addr} {odGMIDDLE_1:Option Addr} {nGMIDDLE_1:Nat} {slGMIDDLE_1:Array (Option Value)} {tGMIDDLE_1_0:Tok} {tGMIDDLE_1_1:Tok}
  (ag_MIDDLE:nsIn K mainGlobals "MIDDLE" = some (some (.ref GMIDDLE)))
  (lGMIDDLE:K.lookup GMIDDLE = some ⟨.type "tuple",odGMIDDLE,.seq #[.ref GMIDDLE_0,.ref GMIDDLE_1] nGMIDDLE,slGMIDDLE⟩)
  (lGMIDDLE_0:K.lookup GMIDDLE_0 = some ⟨.type "tuple",odGMIDDLE_0,.seq #[.int 0 tGMIDDLE_0_0,.int 1 tGMIDDLE_0_1] nGMIDDLE_0,slGMIDDLE_0⟩)
  (lGMIDDLE_1:K.lookup GMIDDLE_1 = some ⟨.type "tuple",odGMIDDLE_1,.seq #[.int 0 tGMIDDLE_1_0,.int 1 tGMIDDLE_1_1] nGMIDDLE_1,slGMIDDLE_1⟩)
  {tGMOST_AGAIN:Tok} (ag_MOST_AGAIN:nsIn K mainGlobals "MOST_AGAIN" = some (some (.int 12 tGMOST_AGAIN)))
  {tGMOST_BLOCKS:Tok} (ag_MOST_BLOCKS:nsIn K mainGlobals "MOST_BLOCKS" = some (some (.int 4 tGMOST_BLOCKS)))
  {tGMOST_IN_A_ROUND:Tok} (ag_MOST_IN_A_ROUND:nsIn K mainGlobals "MOST_IN_A_ROUND" = some (some (.int 300 tGMOST_IN_A_ROUND)))
  {tGMOST_IN_GROW:Tok} (ag_MOST_IN_GROW:nsIn K mainGlobals "MOST_IN_GROW" = some (some (.int 12 tGMOST_IN_GROW)))
  {tGMOST_ROWS:Tok} (ag_MOST_ROWS:nsIn K mainGlobals "MOST_ROWS" = some (some (.int 60 tGMOST_ROWS)))
  {GNOTHING:Addr} {odGNOTHING:Option Addr} {nGNOTHING:Nat} {slGNOTHING:Array (Option Value)} {tGNOTHING_0:Tok} {tGNOTHING_1:Tok}
  (ag_NOTHING:nsIn K mainGlobals "NOTHING" = some (some (.ref GNOTHING)))
  (lGNOTHING:K.lookup GNOTHING = some ⟨.type "tuple",odGNOTHING,.seq #[.int 0 tGNOTHING_0,.int 1 tGNOTHING_1] nGNOTHING,slGNOTHING⟩)
  {GONE:Addr} {odGONE:Option Addr} {nGONE:Nat} {slGONE:Array (Option Value)} {tGONE_0:Tok} {tGONE_1:Tok}
  (ag_ONE:nsIn K mainGlobals "ONE" = some (some (.ref GONE)))
  (lGONE:K.lookup GONE = some ⟨.type "tuple",odGONE,.seq #[.int 1 tGONE_0,.int 1 tGONE_1] nGONE,slGONE⟩)
  {C_NoRow:Addr}
  (ac_NoRow:nsIn K mainGlobals "NoRow" = some (some (.ref C_NoRow))) (kc_NoRow:keepIn K (.ref C_NoRow) = true)
  (ob_NoRow:∃ M nm qn N bs hdct sn sub ab col dd k0 k1 k2 k3 k5,K.lookup C_NoRow = some (excClassObj nm qn C_NoRow N bs (.ref M :: bmV) hdct sn sub ab col dd k0 k1 k2 k3 k5 "ValueError.__new__")/\excIn K M bmV "ValueError.__new__" = true/\∃ cdM,clsIn K M = some cdM/\cdM.mro = .ref M :: bmV)
  (in_NoRow:∃ fI fd,findIn K (.ref C_NoRow) "__init__" = some (some (.ref fI))/\typeIn K (.ref fI) = some (.type "function")/\L2.Fun K "__init__" "NoRow.__init__" sD fI fd)
  (fa_NoRow:findIn K (.ref C_NoRow) "__setattr__" = some (some (.builtin "object.__setattr__"))) (fc_NoRow:∃ cd,clsIn K C_NoRow = some cd/\aGe cd.mro = true/\cd.hasDict = true) (fm_NoRow:mroIn K C_NoRow (.type "object") = some true) (fn_NoRow:findIn K (.ref C_NoRow) "row" = some none)
  {C_NoText:Addr}
  (ac_NoText:nsIn K mainGlobals "NoText" = some (some (.ref C_NoText))) (kc_NoText:keepIn K (.ref C_NoText) = true)
  (ob_NoText:∃ M nm qn N bs hdct sn sub ab col dd k0 k1 k2 k3 k5,K.lookup C_NoText = some (excClassObj nm qn C_NoText N bs (.ref M :: bmV) hdct sn sub ab col dd k0 k1 k2 k3 k5 "ValueError.__new__")/\excIn K M bmV "ValueError.__new__" = true/\∃ cdM,clsIn K M = some cdM/\cdM.mro = .ref M :: bmV)
  (in_NoText:∃ fI fd,findIn K (.ref C_NoText) "__init__" = some (some (.ref fI))/\typeIn K (.ref fI) = some (.type "function")/\L2.Fun K "__init__" "NoText.__init__" qB fI fd)
  (fa_NoText:findIn K (.ref C_NoText) "__setattr__" = some (some (.builtin "object.__setattr__"))) (fc_NoText:∃ cd,clsIn K C_NoText = some cd/\aGe cd.mro = true/\cd.hasDict = true) (fm_NoText:mroIn K C_NoText (.type "object") = some true) (fn_NoText:findIn K (.ref C_NoText) "line" = some none)
  {C_TooMuch:Addr}
  (ac_TooMuch:nsIn K mainGlobals "TooMuch" = some (some (.ref C_TooMuch))) (xc_TooMuch:excIn K C_TooMuch bmV "ValueError.__new__" = true)
  (ex0_NoRow:findIn K (.ref C_NoRow) "__getattribute__" = some (some (.builtin "BaseException.__getattribute__")))
  (ex1_NoRow:findIn K (.ref C_NoRow) "__getattr__" = some none)
  (ex2_NoRow:findIn K (.ref C_NoRow) "__class__" = some (some (.builtin "object.__class__")))
  (ex3_NoRow:PySem.W.specialIn K (.builtin "object.__class__") "__get__" = some (some (.builtin "getset_descriptor.__get__")))
  (ex4_NoRow:PySem.W.takesIn K (.builtin "object.__class__") = some true)
  (ex5_NoRow:mroIn K C_NoRow (.type "object") = some true)
  (ex6_NoRow:mroIn K C_NoRow (.type "BaseException") = some true)
  (ex0_NoText:findIn K (.ref C_NoText) "__getattribute__" = some (some (.builtin "BaseException.__getattribute__")))
  (ex1_NoText:findIn K (.ref C_NoText) "__getattr__" = some none)
  (ex2_NoText:findIn K (.ref C_NoText) "__class__" = some (some (.builtin "object.__class__")))
  (ex3_NoText:PySem.W.specialIn K (.builtin "object.__class__") "__get__" = some (some (.builtin "getset_descriptor.__get__")))
  (ex4_NoText:PySem.W.takesIn K (.builtin "object.__class__") = some true)
  (ex5_NoText:mroIn K C_NoText (.type "object") = some true)
  (ex6_NoText:mroIn K C_NoText (.type "BaseException") = some true)
  (gM:exmOne K (.ref C_NoRow) (.ref C_NoRow) = some true)
  (fR:exmOne K (.ref C_NoRow) (.ref C_NoText) = some false)
  (fH:exmOne K (.ref C_NoText) (.ref C_NoText) = some true)
 :∃ fd:FuncData,(∀ (s:Shared) (v:Value),BindsTo s fd ⟨[v],[]⟩ [("_law_script",v)])/\∀ base:Heap,K.In base->base.Ns mainGlobals mg->jE l.prog w K mg base CX0 151 fa fd ["_law_script"] (oI K sp_law):=by
 have e:=hfa.symm.trans (mg_of X G a64)
 cases e
 have H0:=b0.has X G (ps:=["one","other"]) fun _ _ _ _ _ _ us hl=>by obtain ⟨_,_,rfl⟩:=us2 hl;rfl
 have H1:=b1.has X G (ps:=["one","other"]) fun _ _ _ _ _ _ us hl=>by obtain ⟨_,_,rfl⟩:=us2 hl;rfl
 have H2:=b2.has X G (ps:=["one","other"]) fun _ _ _ _ _ _ us hl=>by obtain ⟨_,_,rfl⟩:=us2 hl;rfl
 have H3:=b3.has X G (ps:=["one","other"]) fun _ _ _ _ _ _ us hl=>by obtain ⟨_,_,rfl⟩:=us2 hl;rfl
 have H4:=b4.has X G (ps:=["p"]) fun _ _ _ _ _ _ us hl=>by obtain ⟨_,rfl⟩:=us1 hl;rfl
 have H5:=b5.has X G (ps:=["number"]) fun _ _ _ _ _ _ us hl=>by obtain ⟨_,rfl⟩:=us1 hl;rfl
 have H6:=b6.has X G (ps:=["c","p"]) fun _ _ _ _ _ _ us hl=>by obtain ⟨_,_,rfl⟩:=us2 hl;rfl
 have H7:=b7.has X G (ps:=["c","p","q"]) fun _ _ _ _ _ _ us hl=>by obtain ⟨_,_,_,rfl⟩:=us3 hl;rfl
 have H8:=b8.has X G (ps:=[]) fun _ _ _ _ _ _ us hl=>by obtain rfl:=us0 hl;rfl
 have H9:=b9.has X G (ps:=["_law_top","_law_bottom"]) fun _ _ _ _ _ _ us hl=>by obtain ⟨_,_,rfl⟩:=us2 hl;rfl
 have H10:=b10.has X G (ps:=["_law_one","_law_other"]) fun _ _ _ _ _ _ us hl=>by obtain ⟨_,_,rfl⟩:=us2 hl;rfl
 have H11:=b11.has X G (ps:=["_law_one","_law_other"]) fun _ _ _ _ _ _ us hl=>by obtain ⟨_,_,rfl⟩:=us2 hl;rfl
 have H12:=b12.has X G (ps:=["_law_one","_law_other"]) fun _ _ _ _ _ _ us hl=>by obtain ⟨_,_,rfl⟩:=us2 hl;rfl
 have H13:=b13.has X G (ps:=["place","turns"]) fun _ _ _ _ _ _ us hl=>by obtain ⟨_,_,rfl⟩:=us2 hl;rfl
 have H14:=b14.has X G (ps:=["row"]) fun _ _ _ _ _ _ us hl=>by obtain ⟨_,rfl⟩:=us1 hl;rfl
 have H15:=b15.has X G (ps:=["row"]) fun _ _ _ _ _ _ us hl=>by obtain ⟨_,rfl⟩:=us1 hl;rfl
 have H16:=b16.has X G (ps:=["row"]) fun _ _ _ _ _ _ us hl=>by obtain ⟨_,rfl⟩:=us1 hl;rfl
 have H17:=b17.has X G (ps:=["row"]) fun _ _ _ _ _ _ us hl=>by obtain ⟨_,rfl⟩:=us1 hl;rfl
 have H18:=b18.has X G (ps:=["row"]) fun _ _ _ _ _ _ us hl=>by obtain ⟨_,rfl⟩:=us1 hl;rfl
 have H19:=b19.has X G (ps:=["row"]) fun _ _ _ _ _ _ us hl=>by obtain ⟨_,rfl⟩:=us1 hl;rfl
 have H20:=b20.has X G (ps:=["row"]) fun _ _ _ _ _ _ us hl=>by obtain ⟨_,rfl⟩:=us1 hl;rfl
 have H21:=b21.has X G (ps:=["row"]) fun _ _ _ _ _ _ us hl=>by obtain ⟨_,rfl⟩:=us1 hl;rfl
 have H22:=b22.has X G (ps:=["row"]) fun _ _ _ _ _ _ us hl=>by obtain ⟨_,rfl⟩:=us1 hl;rfl
 have H23:=b23.has X G (ps:=["row"]) fun _ _ _ _ _ _ us hl=>by obtain ⟨_,rfl⟩:=us1 hl;rfl
 have H24:=b24.has X G (ps:=["row"]) fun _ _ _ _ _ _ us hl=>by obtain ⟨_,rfl⟩:=us1 hl;rfl
 have H25:=b25.has X G (ps:=["row"]) fun _ _ _ _ _ _ us hl=>by obtain ⟨_,rfl⟩:=us1 hl;rfl
 have H26:=b26.has X G (ps:=["row"]) fun _ _ _ _ _ _ us hl=>by obtain ⟨_,rfl⟩:=us1 hl;rfl
 have H27:=b27.has X G (ps:=["row"]) fun _ _ _ _ _ _ us hl=>by obtain ⟨_,rfl⟩:=us1 hl;rfl
 have H28:=b28.has X G (ps:=["rows"]) fun _ _ _ _ _ _ us hl=>by obtain ⟨_,rfl⟩:=us1 hl;rfl
 have H29:=b29.has X G (ps:=["_law_cell","_law_many"]) fun _ _ _ _ _ _ us hl=>by obtain ⟨_,_,rfl⟩:=us2 hl;rfl
 have H30:=b30.has X G (ps:=["_law_row_here"]) fun _ _ _ _ _ _ us hl=>by obtain ⟨_,rfl⟩:=us1 hl;rfl
 have H31:=b31.has X G (ps:=["_law_row_here"]) fun _ _ _ _ _ _ us hl=>by obtain ⟨_,rfl⟩:=us1 hl;rfl
 have H32:=b32.has X G (ps:=["rows"]) fun _ _ _ _ _ _ us hl=>by obtain ⟨_,rfl⟩:=us1 hl;rfl
 have H33:=b33.has X G (ps:=["program"]) fun _ _ _ _ _ _ us hl=>by obtain ⟨_,rfl⟩:=us1 hl;rfl
 have H34:=b34.has X G (ps:=["number"]) fun _ _ _ _ _ _ us hl=>by obtain ⟨_,rfl⟩:=us1 hl;rfl
 have H35:=b35.has X G (ps:=["thing"]) fun _ _ _ _ _ _ us hl=>by obtain ⟨_,rfl⟩:=us1 hl;rfl
 have H36:=b36.has X G (ps:=["top","bottom"]) fun _ _ _ _ _ _ us hl=>by obtain ⟨_,_,rfl⟩:=us2 hl;rfl
 have H37:=b37.has X G (ps:=["thing"]) fun _ _ _ _ _ _ us hl=>by obtain ⟨_,rfl⟩:=us1 hl;rfl
 have H38:=b38.has X G (ps:=["word"]) fun _ _ _ _ _ _ us hl=>by obtain ⟨_,rfl⟩:=us1 hl;rfl
 have H39:=b39.has X G (ps:=["thing"]) fun _ _ _ _ _ _ us hl=>by obtain ⟨_,rfl⟩:=us1 hl;rfl
 have H40:=b40.has X G (ps:=["row"]) fun _ _ _ _ _ _ us hl=>by obtain ⟨_,rfl⟩:=us1 hl;rfl
 have H41:=b41.has X G (ps:=["thing"]) fun _ _ _ _ _ _ us hl=>by obtain ⟨_,rfl⟩:=us1 hl;rfl
 have H42:=b42.has X G (ps:=["thing"]) fun _ _ _ _ _ _ us hl=>by obtain ⟨_,rfl⟩:=us1 hl;rfl
 have H43:=b43.has X G (ps:=["block","around"]) fun _ _ _ _ _ _ us hl=>by obtain ⟨_,_,rfl⟩:=us2 hl;rfl
 have H44:=b44.has X G (ps:=["rows"]) fun _ _ _ _ _ _ us hl=>by obtain ⟨_,rfl⟩:=us1 hl;rfl
 have H45:=b45.has X G (ps:=["number","n"]) fun _ _ _ _ _ _ us hl=>by obtain ⟨_,_,rfl⟩:=us2 hl;rfl
 have H46:=b46.has X G (ps:=["number","n"]) fun _ _ _ _ _ _ us hl=>by obtain ⟨_,_,rfl⟩:=us2 hl;rfl
 have H47:=b47.has X G (ps:=["rows"]) fun _ _ _ _ _ _ us hl=>by obtain ⟨_,rfl⟩:=us1 hl;rfl
 have H48:=b48.has X G (ps:=["rows"]) fun _ _ _ _ _ _ us hl=>by obtain ⟨_,rfl⟩:=us1 hl;rfl
 have H49:=b49.has X G (ps:=["rows","number","around"]) fun _ _ _ _ _ _ us hl=>by obtain ⟨_,_,_,rfl⟩:=us3 hl;rfl
 have H50:=b50.has X G (ps:=["rows"]) fun _ _ _ _ _ _ us hl=>by obtain ⟨_,rfl⟩:=us1 hl;rfl
 have H51:=b51.has X G (ps:=["text"]) fun _ _ _ _ _ _ us hl=>by obtain ⟨_,rfl⟩:=us1 hl;rfl
 have H52:=b52.has X G (ps:=["text"]) fun _ _ _ _ _ _ us hl=>by obtain ⟨_,rfl⟩:=us1 hl;rfl
 have H53:=b53.has X G (ps:=["text"]) fun _ _ _ _ _ _ us hl=>by obtain ⟨_,rfl⟩:=us1 hl;rfl
 have H54:=b54.has X G (ps:=["lines"]) fun _ _ _ _ _ _ us hl=>by obtain ⟨_,rfl⟩:=us1 hl;rfl
 have H55:=b55.has X G (ps:=["number"]) fun _ _ _ _ _ _ us hl=>by obtain ⟨_,rfl⟩:=us1 hl;rfl
 have H56:=b56.has X G (ps:=["rows"]) fun _ _ _ _ _ _ us hl=>by obtain ⟨_,rfl⟩:=us1 hl;rfl
 have H57:=b57.has X G (ps:=["program"]) fun _ _ _ _ _ _ us hl=>by obtain ⟨_,rfl⟩:=us1 hl;rfl
 have H58:=b58.has X G (ps:=["text"]) fun _ _ _ _ _ _ us hl=>by obtain ⟨_,rfl⟩:=us1 hl;rfl
 have H59:=b59.has X G (ps:=["_law_number"]) fun _ _ _ _ _ _ us hl=>by obtain ⟨_,rfl⟩:=us1 hl;rfl
 have H60:=b60.has X G (ps:=["_law_row_here","_law_odd"]) fun _ _ _ _ _ _ us hl=>by obtain ⟨_,_,rfl⟩:=us2 hl;rfl
 have H61:=b61.has X G (ps:=["_law_lines"]) fun _ _ _ _ _ _ us hl=>by obtain ⟨_,rfl⟩:=us1 hl;rfl
 have H62:=b62.has X G (ps:=["_law_lines"]) fun _ _ _ _ _ _ us hl=>by obtain ⟨_,rfl⟩:=us1 hl;rfl
 have H63:=b63.has X G (ps:=["_law_script","_law_k"]) fun _ _ _ _ _ _ us hl=>by obtain ⟨_,_,rfl⟩:=us2 hl;rfl
 have F64:=fun_mk (st:=sZ) l64 c64 k64
 have lZ:=mg_none_of X G z_abs
 have aHn:=mg_none_of X G z_all
 have aC2:=mg_none_of X G z_bool
 have hU:=mg_none_of X G z_enumerate
 have kA:=mg_none_of X G z_int
 have cJ:=mg_none_of X G z_isinstance
 have cY:=mg_none_of X G z_len
 have aG5:=mg_none_of X G z_min
 have aAz:=mg_none_of X G z_range
 have qG:=mg_none_of X G z_str
 have cV:=mg_none_of X G z_tuple
 have aAD:aHD w K mg "DEEDS" [("go","go_deed"),("skip","skip_deed"),("side","side_deed"),("dot","dot_deed"),("left","left_deed"),("right","right_deed"),("round","round_deed"),("mirror","mirror_deed"),("grow","grow_deed"),("quarter","quarter_deed"),("half","half_deed"),("arc","arc_deed")]:=⟨_,_,_,mg_of X G at_DEEDS,lt_DEEDS,kt_DEEDS,fun k n e=>by
  by_cases c_go:k = "go"
  ·subst c_go;cases e;exact ⟨_,et_DEEDS_go,mg_of X G b15.1⟩
  by_cases c_skip:k = "skip"
  ·subst c_skip;cases e;exact ⟨_,et_DEEDS_skip,mg_of X G b16.1⟩
  by_cases c_side:k = "side"
  ·subst c_side;cases e;exact ⟨_,et_DEEDS_side,mg_of X G b14.1⟩
  by_cases c_dot:k = "dot"
  ·subst c_dot;cases e;exact ⟨_,et_DEEDS_dot,mg_of X G b17.1⟩
  by_cases c_left:k = "left"
  ·subst c_left;cases e;exact ⟨_,et_DEEDS_left,mg_of X G b18.1⟩
  by_cases c_right:k = "right"
  ·subst c_right;cases e;exact ⟨_,et_DEEDS_right,mg_of X G b20.1⟩
  by_cases c_round:k = "round"
  ·subst c_round;cases e;exact ⟨_,et_DEEDS_round,mg_of X G b19.1⟩
  by_cases c_mirror:k = "mirror"
  ·subst c_mirror;cases e;exact ⟨_,et_DEEDS_mirror,mg_of X G b21.1⟩
  by_cases c_grow:k = "grow"
  ·subst c_grow;cases e;exact ⟨_,et_DEEDS_grow,mg_of X G b22.1⟩
  by_cases c_quarter:k = "quarter"
  ·subst c_quarter;cases e;exact ⟨_,et_DEEDS_quarter,mg_of X G b23.1⟩
  by_cases c_half:k = "half"
  ·subst c_half;cases e;exact ⟨_,et_DEEDS_half,mg_of X G b24.1⟩
  by_cases c_arc:k = "arc"
  ·subst c_arc;cases e;exact ⟨_,et_DEEDS_arc,mg_of X G b25.1⟩
  simp only [List.lookup,beq_eq_false_iff_ne.mpr c_go,beq_eq_false_iff_ne.mpr c_skip,beq_eq_false_iff_ne.mpr c_side,beq_eq_false_iff_ne.mpr c_dot,beq_eq_false_iff_ne.mpr c_left,beq_eq_false_iff_ne.mpr c_right,beq_eq_false_iff_ne.mpr c_round,beq_eq_false_iff_ne.mpr c_mirror,beq_eq_false_iff_ne.mpr c_grow,beq_eq_false_iff_ne.mpr c_quarter,beq_eq_false_iff_ne.mpr c_half,beq_eq_false_iff_ne.mpr c_arc] at e;cases e⟩
 have uF:aEd w K mg "NUMBERS" aG7 aGK:=by
  refine ⟨_,_,_,mg_of X G at_NUMBERS,am_NUMBERS,lt_NUMBERS,kt_NUMBERS,?_,?_⟩
  ·intro k n e
   unfold aG7 at e
   by_cases c_go:k = "go"
   ·subst c_go;cases e;exact ⟨_,et_NUMBERS_go⟩
   by_cases c_skip:k = "skip"
   ·subst c_skip;cases e;exact ⟨_,et_NUMBERS_skip⟩
   by_cases c_side:k = "side"
   ·subst c_side;cases e;exact ⟨_,et_NUMBERS_side⟩
   by_cases c_dot:k = "dot"
   ·subst c_dot;cases e;exact ⟨_,et_NUMBERS_dot⟩
   by_cases c_left:k = "left"
   ·subst c_left;cases e;exact ⟨_,et_NUMBERS_left⟩
   by_cases c_right:k = "right"
   ·subst c_right;cases e;exact ⟨_,et_NUMBERS_right⟩
   by_cases c_round:k = "round"
   ·subst c_round;cases e;exact ⟨_,et_NUMBERS_round⟩
   by_cases c_mirror:k = "mirror"
   ·subst c_mirror;cases e;exact ⟨_,et_NUMBERS_mirror⟩
   by_cases c_grow:k = "grow"
   ·subst c_grow;cases e;exact ⟨_,et_NUMBERS_grow⟩
   by_cases c_quarter:k = "quarter"
   ·subst c_quarter;cases e;exact ⟨_,et_NUMBERS_quarter⟩
   by_cases c_half:k = "half"
   ·subst c_half;cases e;exact ⟨_,et_NUMBERS_half⟩
   by_cases c_arc:k = "arc"
   ·subst c_arc;cases e;exact ⟨_,et_NUMBERS_arc⟩
   simp only [List.lookup,beq_eq_false_iff_ne.mpr c_go,beq_eq_false_iff_ne.mpr c_skip,beq_eq_false_iff_ne.mpr c_side,beq_eq_false_iff_ne.mpr c_dot,beq_eq_false_iff_ne.mpr c_left,beq_eq_false_iff_ne.mpr c_right,beq_eq_false_iff_ne.mpr c_round,beq_eq_false_iff_ne.mpr c_mirror,beq_eq_false_iff_ne.mpr c_grow,beq_eq_false_iff_ne.mpr c_quarter,beq_eq_false_iff_ne.mpr c_half,beq_eq_false_iff_ne.mpr c_arc] at e;cases e
  ·intro k hk
   unfold aGK at hk
   simp only [mem_cons,not_mem_nil,or_false] at hk
   rcases hk with rfl | rfl | rfl | rfl | rfl | rfl | rfl
   ·exact en_NUMBERS_0
   ·exact en_NUMBERS_1
   ·exact en_NUMBERS_2
   ·exact en_NUMBERS_3
   ·exact en_NUMBERS_4
   ·exact en_NUMBERS_5
   ·exact en_NUMBERS_6
 have f_NoRow:vR K C_NoRow "row":=⟨fa_NoRow,fc_NoRow,fm_NoRow,fn_NoRow⟩
 have f_NoText:vR K C_NoText "line":=⟨fa_NoText,fc_NoText,fm_NoText,fn_NoText⟩
 have aBf:aAV K C_NoRow:=⟨ex0_NoRow,ex1_NoRow,ex2_NoRow,ex3_NoRow,ex4_NoRow,ex5_NoRow,ex6_NoRow⟩
 have xT:aAV K C_NoText:=⟨ex0_NoText,ex1_NoText,ex2_NoText,ex3_NoText,ex4_NoText,ex5_NoText,ex6_NoText⟩
 have tR:aE4 K mg "TooMuch" C_TooMuch:=⟨mg_of X G ac_TooMuch,xc_TooMuch⟩
 have kL:fG K mg "LEAST_CHANGE" (.tup [.int 3,.int 4]):=⟨_,.ref GLEAST_CHANGE,mg_of X G ag_LEAST_CHANGE,rfl,fun H=>(cI (xs:=[.int (3),.int (4)]) (.inr ⟨_,_,_,lGLEAST_CHANGE,rfl,rfl,by show (2:Nat)<=sizeLine;decide,(.cons ⟨_,rfl⟩ (.cons ⟨_,rfl⟩ .nil))⟩) (bJ bU (bJ bU cP)))⟩
 have bG:fG K mg "MIDDLE" tE:=⟨_,.ref GMIDDLE,mg_of X G ag_MIDDLE,rfl,fun H=>(cI (xs:=[.ref GMIDDLE_0,.ref GMIDDLE_1]) (.inr ⟨_,_,_,lGMIDDLE,rfl,rfl,by show (2:Nat)<=sizeLine;decide,(.cons rfl (.cons rfl .nil))⟩) (bJ (cI (xs:=[.int (0),.int (1)]) (.inr ⟨_,_,_,lGMIDDLE_0,rfl,rfl,by show (2:Nat)<=sizeLine;decide,(.cons ⟨_,rfl⟩ (.cons ⟨_,rfl⟩ .nil))⟩) (bJ bU (bJ bU cP))) (bJ (cI (xs:=[.int (0),.int (1)]) (.inr ⟨_,_,_,lGMIDDLE_1,rfl,rfl,by show (2:Nat)<=sizeLine;decide,(.cons ⟨_,rfl⟩ (.cons ⟨_,rfl⟩ .nil))⟩) (bJ bU (bJ bU cP))) cP)))⟩
 have mM:fG K mg "MOST_AGAIN" (.int 12):=⟨_,.int 12,mg_of X G ag_MOST_AGAIN,⟨_,rfl⟩,fun H=>bU⟩
 have lB:fG K mg "MOST_BLOCKS" (.int 4):=⟨_,.int 4,mg_of X G ag_MOST_BLOCKS,⟨_,rfl⟩,fun H=>bU⟩
 have iM:fG K mg "MOST_IN_A_ROUND" (.int 300):=⟨_,.int 300,mg_of X G ag_MOST_IN_A_ROUND,⟨_,rfl⟩,fun H=>bU⟩
 have iB:fG K mg "MOST_IN_GROW" (.int 12):=⟨_,.int 12,mg_of X G ag_MOST_IN_GROW,⟨_,rfl⟩,fun H=>bU⟩
 have hW:fG K mg "MOST_ROWS" (.int 60):=⟨_,.int 60,mg_of X G ag_MOST_ROWS,⟨_,rfl⟩,fun H=>bU⟩
 have dR:fG K mg "NOTHING" aCD:=⟨_,.ref GNOTHING,mg_of X G ag_NOTHING,rfl,fun H=>(cI (xs:=[.int (0),.int (1)]) (.inr ⟨_,_,_,lGNOTHING,rfl,rfl,by show (2:Nat)<=sizeLine;decide,(.cons ⟨_,rfl⟩ (.cons ⟨_,rfl⟩ .nil))⟩) (bJ bU (bJ bU cP)))⟩
 have kD:fG K mg "ONE" aDx:=⟨_,.ref GONE,mg_of X G ag_ONE,rfl,fun H=>(cI (xs:=[.int (1),.int (1)]) (.inr ⟨_,_,_,lGONE,rfl,rfl,by show (2:Nat)<=sizeLine;decide,(.cons ⟨_,rfl⟩ (.cons ⟨_,rfl⟩ .nil))⟩) (bJ bU (bJ bU cP)))⟩
 refine ⟨fnOf "law" "law" (mV sZ) (eY sZ) (aH sZ) .none kV64 dc64 pm64 an64 cd64 ct64,fun s v=>.of_eq rfl,fun base _ _=>?_⟩
 have gH:jZ l.prog w K mg base "NoRow" C_NoRow "row":=by
  obtain ⟨fI,fdI,i1,i2,FI⟩:=in_NoRow
  exact ⟨mg_of X G ac_NoRow,kc_NoRow,ob_NoRow,fI,fdI,"self","row",i1,i2,aD9 FI yX f_NoRow rfl (by first | exact Or.inl rfl | exact Or.inr (Or.inl rfl) | exact Or.inr (Or.inr rfl)) (by first | exact Or.inl rfl | exact Or.inr (Or.inl rfl) | exact Or.inr (Or.inr rfl)) (by decide) (by decide) (by decide) (by decide) (fun _=>rfl) 0,FI.binds (ps:=["self","row"]) fun _ _ _ _ _ _ us hl=>by obtain ⟨_,_,rfl⟩:=us2 hl;rfl⟩
 have iC:jZ l.prog w K mg base "NoText" C_NoText "line":=by
  obtain ⟨fI,fdI,i1,i2,FI⟩:=in_NoText
  exact ⟨mg_of X G ac_NoText,kc_NoText,ob_NoText,fI,fdI,"self","line",i1,i2,aD9 FI xD f_NoText rfl (by first | exact Or.inl rfl | exact Or.inr (Or.inl rfl) | exact Or.inr (Or.inr rfl)) (by first | exact Or.inl rfl | exact Or.inr (Or.inl rfl) | exact Or.inr (Or.inr rfl)) (by decide) (by decide) (by decide) (by decide) (fun _=>rfl) 0,FI.binds (ps:=["self","line"]) fun _ _ _ _ _ _ us hl=>by obtain ⟨_,_,rfl⟩:=us2 hl;rfl⟩
 have bB:=oE (P:=l.prog) (w:=w) (base:=base) H0 lZ
 have aDe:=aFj H1 bB
 have h_times:=aEV H2 bB
 have w_times:=aEB H2 bB
 have aBB:=aE7 (P:=l.prog) (w:=w) (base:=base) H3
 have gQ:=sP (P:=l.prog) (w:=w) (base:=base) H4
 have aCV:=aFh (P:=l.prog) (w:=w) (base:=base) H5
 have jP:=wX H6 gQ
 have uD:=aBT H7 jP aCV
 have aAM:=aE5 (P:=l.prog) (w:=w) (base:=base) H8 bG kD
 have bY:=zD (P:=l.prog) (w:=w) (base:=base) H9 lZ
 have w_law_ratio:=zN (P:=l.prog) (w:=w) (base:=base) H9 lZ
 have iN:=aBp H10 bY
 have eO:=zL H11 bY
 have w_law_times:=zT H11 w_law_ratio
 have fE:=zS H12 bY
 have bM:=aAN (P:=l.prog) (w:=w) (base:=base) H13 kD
 have hZ:=zB H14 bG bM
 have tP:=aCr H15 dR hZ
 have pE:=zQ H16 dR bM
 have rL:=aAs H17 bG aAM
 have pF:=zA H18 bG bM
 have mW:=xU H19 bG bM
 have nG:=yB H20 bG bM
 have lA:=vV (P:=l.prog) (w:=w) (base:=base) H21 bG kD
 have oP:=zU (P:=l.prog) (w:=w) (base:=base) H22 bG
 have kC:=uH H23 bG dR bM
 have oH:=zO H24 bG dR aDe bM
 have rN:=aBj H25 bG bM
 have tY:=aBF H26 aAD tP hZ pE rL pF mW nG lA oP kC oH rN
 have bT:=vX (P:=l.prog) (w:=w) (base:=base) H27
 have w_rows_within:=vT (P:=l.prog) (w:=w) (base:=base) H27
 have fK:=sJ H28 bT
 have uL:=aBE (P:=l.prog) (w:=w) (base:=base) H29 lZ aAz
 have tL:=aCE H30 fE bY iN eO aG5
 have oJ:=zR H31 kA fE bY tL
 have dD:=sQ H32 cY bT
 have eZ:=uG H33 hW dD
 have x_not_too_long:=uA H33 tR hW dD
 have rA:=aAZ (P:=l.prog) (w:=w) (base:=base) H34 iB
 have gW:=aBo (P:=l.prog) (w:=w) (base:=base) H35 cJ kA aC2
 have dJ:=wW H36 bB
 have lE:=vS H37 cJ cV cY gW dJ
 have bD:=qT (P:=l.prog) (w:=w) (base:=base) H38 uF
 have gZ:=zP (P:=l.prog) (w:=w) (base:=base) H39 cJ cV qG cY
 have uN:=aCA H40 bG uD
 have eK:=uI H41 cY aHn gZ bD lE rA uN
 have gR:=aA9 H42 cJ cV cY mM gZ gW
 have gS:=aAF (P:=l.prog) (w:=w) (base:=base) H43 cY lB
 have rX:=aEP H44 bT tY
 have fC:=tU (P:=l.prog) (w:=w) (base:=base) H45
 have yS:=aDa H46 fC
 have jD:=zH H47 kD w_times yS
 have gA:=zF H48 iM kD kL fK rX jD aBB
 have cU:=lR H49 eK gR gS w_rows_within gA 8 (by decide)
 have fQ:=tQ H49 gH eK gR gS w_rows_within gA 8 (by decide)
 have dB:=yP H50 cU eZ
 have mR:=xE H50 gH fQ cU eZ
 have cF:=aAu (P:=l.prog) (w:=w) (base:=base) H51 kA
 have w_whole_of:=aAt (P:=l.prog) (w:=w) (base:=base) H51 kA
 have dM:=vO H52 cF dJ
 have w_fraction_of:=wA H52 cF w_whole_of dJ
 have jS:=aB5 H53 cV cY cF dM bD
 have w_head_of:=aCJ H53 cV cY cF w_whole_of dM w_fraction_of bD
 have hJ:=aCP H54 hU cV cY jS bD
 have uM:=aB4 H54 iC hU cV cY jS w_head_of bD
 have lF:=vU (P:=l.prog) (w:=w) (base:=base) H55
 have jT:=aA6 H56 bT lF
 have uB:=aCG H57 jT
 have aDk:=aGL H58 hJ dB
 have aBx:=aGm H58 iC gH uM hJ mR dB
 have iJ:=pZ (P:=l.prog) (w:=w) (base:=base) H59 kA qG
 have qR:=aBv H60 qG oJ iJ
 have kF:=aAO (P:=l.prog) (w:=w) (base:=base) H61
 have kI:=aAQ H62 iC gH xT aBf f_NoText f_NoRow fH gM fR aDk aBx
 have iU:=vP (P:=l.prog) (w:=w) (base:=base) H63 cY
 exact aI5 (P:=l.prog) (w:=w) (base:=base) F64 cY iU uL qR kF kI uB dB
end Lw
def PySem.W.Fast.tw9867979427625161025:Unit:=()
def PySem.W.Fast.tw6115182421995863746:Unit:=()
def PySem.W.Fast.tw17639861731061779459:Unit:=()
def PySem.W.Fast.tw16118006047354855299:Unit:=()
def PySem.W.Fast.tw16339211064488885541:Unit:=()
def PySem.W.Fast.tw483221165152135527:Unit:=()
def PySem.W.Fast.tw706282780592576904:Unit:=()
def PySem.W.Fast.tw13682678403077384202:Unit:=()
def PySem.W.Fast.tw16157398761208949450:Unit:=()
def PySem.W.Fast.tw15148497212663778731:Unit:=()
def PySem.W.Fast.tw5666447298185457131:Unit:=()
def PySem.W.Fast.tw9718627302411424363:Unit:=()
def PySem.W.Fast.tw8538191364834575597:Unit:=()
def PySem.W.Fast.tw7433582722210796045:Unit:=()
def PySem.W.Fast.tw4397253293710349166:Unit:=()
def PySem.W.Fast.tw11674790798360656655:Unit:=()
def PySem.W.Fast.tw15849513306732479760:Unit:=()
def PySem.W.Fast.tw15141446998131114386:Unit:=()
def PySem.W.Fast.tw18230821109690372245:Unit:=()
def PySem.W.Fast.tw12453378650418539733:Unit:=()
def PySem.W.Fast.tw2742794307783574712:Unit:=()
def PySem.W.Fast.tw12928960323811372856:Unit:=()
def PySem.W.Fast.tw7880966123007094425:Unit:=()
def PySem.W.Fast.tw7723175799746289274:Unit:=()
def PySem.W.Fast.tw4589695636977629149:Unit:=()
def PySem.W.Fast.tw6989926519436024222:Unit:=()
def PySem.W.Fast.tw3315577762456743615:Unit:=()
def PySem.W.Fast.tw4271468962496134406:Unit:=()
def PySem.W.Fast.tw3131674058208050135:Unit:=()
def PySem.W.Fast.tw14887703624643975112:Unit:=()
def PySem.W.Fast.tw4606822531562587878:Unit:=()
def PySem.W.Fast.tw1909407813311081764:Unit:=()
def PySem.W.Fast.tw6896600381993481614:Unit:=()
def PySem.W.Fast.tw1158882437309001678:Unit:=()
def PySem.W.Fast.tw9298192642297353400:Unit:=()
def PySem.W.Fast.tw5775223454951904520:Unit:=()
def PySem.W.Fast.tw2236785474556779988:Unit:=()
def PySem.W.Fast.tw11132342612621628715:Unit:=()
def PySem.W.Fast.tw1857194141433681908:Unit:=()
def PySem.W.Fast.tw2245366641227674391:Unit:=()
def PySem.W.Fast.tw12358909617777731255:Unit:=()
def PySem.W.Fast.tw2580919445440721350:Unit:=()
def PySem.W.Fast.tw16222307863242638494:Unit:=()
def PySem.W.Fast.tw13542452539860957957:Unit:=()
def PySem.W.Fast.tw17536800208474181878:Unit:=()
def PySem.W.Fast.tw8020748750223229138:Unit:=()
def PySem.W.Fast.tw9101310144303707530:Unit:=()
def PySem.W.Fast.tw11289096165696876766:Unit:=()
def PySem.W.Fast.tw1288232792460725189:Unit:=()
def PySem.W.Fast.tw11387758626867615050:Unit:=()
def PySem.W.Fast.tw8411438399279039645:Unit:=()
def PySem.W.Fast.tw6218753795944311267:Unit:=()
def PySem.W.Fast.tw13271408572326319282:Unit:=()
def PySem.W.Fast.tw15115096413075042579:Unit:=()
def PySem.W.Fast.tw14037477446886639263:Unit:=()
def PySem.W.Fast.tw11701878658717105973:Unit:=()
def PySem.W.Fast.tw1086369514218910421:Unit:=()
def PySem.W.Fast.tw15840973201419151147:Unit:=()
def PySem.W.Fast.tw2197646972643315844:Unit:=()
def PySem.W.Fast.tw15182132207284245669:Unit:=()
def PySem.W.Fast.tw4462909203761812910:Unit:=()
def PySem.W.Fast.tw12067483599864671456:Unit:=()
def PySem.W.Fast.tw2321151894623200969:Unit:=()
def PySem.W.Fast.tw8190323567887883648:Unit:=()
def PySem.W.Fast.tw5034612289753721940:Unit:=()
def PySem.W.Fast.tw16959726090741295185:Unit:=()
def PySem.W.Fast.tw7217591800750552305:Unit:=()
def PySem.W.Fast.tw12889593980661678932:Unit:=()
def PySem.W.Fast.tw11804691813330409303:Unit:=()
def PySem.W.Fast.tw15211186130467863378:Unit:=()
def PySem.W.Fast.tw5590338998093122305:Unit:=()
def PySem.W.Fast.tw14710397061165096903:Unit:=()
def PySem.W.Fast.tw17876600347081747810:Unit:=()
def PySem.W.Fast.tw7472898329948089488:Unit:=()
def PySem.W.Fast.tw6289433232381606212:Unit:=()
def PySem.W.Fast.tw14950122466012855084:Unit:=()
def PySem.W.Fast.tw16587261745392918623:Unit:=()
def PySem.W.Fast.tw17117438195837128427:Unit:=()
def PySem.W.Fast.tw3826455794711559020:Unit:=()
def PySem.W.Fast.tw9094932518243273109:Unit:=()
open PySem PySem.W PyProof.Rows
set_option maxRecDepth 100000 in
set_option maxHeartbeats 0 in
theorem PySem.Challenge.cw_arcmill_k26_whole_texts_by_lines_holds : PySem.Challenge.rw_arcmill_k26_whole_texts_by_lines.Holds := by
 w_on;o_law;k_head;(case hw=>w_witness2)
 k_fill
 refine Dd.walk_ofD (l:=PySem.Challenge.rw_arcmill_k26_whole_texts_by_lines) (n:=63) (k:=151) (x:="_law_script") (sp:=Lw.sp_law) rfl (by decide) rfl ⟨rfl,by decide,by decide⟩ (fun w h Y=>PySem.W.kIn_of Y) ?F Lw.law_here
 case F =>
  intro w mg fa h KX G hmg
  refine' Lw.all_mk KX G hmg ?b0 ?b1 ?b2 ?b3 ?b4 ?b5 ?b6 ?b7 ?b8 ?b9 ?b10 ?b11 ?b12 ?b13 ?b14 ?b15 ?b16 ?b17 ?b18 ?b19 ?b20 ?b21 ?b22 ?b23 ?b24 ?b25 ?b26 ?b27 ?b28 ?b29 ?b30 ?b31 ?b32 ?b33 ?b34 ?b35 ?b36 ?b37 ?b38 ?b39 ?b40 ?b41 ?b42 ?b43 ?b44 ?b45 ?b46 ?b47 ?b48 ?b49 ?b50 ?b51 ?b52 ?b53 ?b54 ?b55 ?b56 ?b57 ?b58 ?b59 ?b60 ?b61 ?b62 ?b63 ?a64 ?l64 ?c64 ?k64 ?z_abs ?z_all ?z_bool ?z_enumerate ?z_int ?z_isinstance ?z_len ?z_min ?z_range ?z_str ?z_tuple ?at_NUMBERS ?am_NUMBERS ?lt_NUMBERS ?kt_NUMBERS ?et_NUMBERS_go ?et_NUMBERS_skip ?et_NUMBERS_side ?et_NUMBERS_dot ?et_NUMBERS_left ?et_NUMBERS_right ?et_NUMBERS_round ?et_NUMBERS_mirror ?et_NUMBERS_grow ?et_NUMBERS_quarter ?et_NUMBERS_half ?et_NUMBERS_arc ?en_NUMBERS_0 ?en_NUMBERS_1 ?en_NUMBERS_2 ?en_NUMBERS_3 ?en_NUMBERS_4 ?en_NUMBERS_5 ?en_NUMBERS_6 ?at_DEEDS ?lt_DEEDS ?kt_DEEDS ?et_DEEDS_go ?et_DEEDS_skip ?et_DEEDS_side ?et_DEEDS_dot ?et_DEEDS_left ?et_DEEDS_right ?et_DEEDS_round ?et_DEEDS_mirror ?et_DEEDS_grow ?et_DEEDS_quarter ?et_DEEDS_half ?et_DEEDS_arc ?ag_LEAST_CHANGE ?lGLEAST_CHANGE ?ag_MIDDLE ?lGMIDDLE ?lGMIDDLE_0 ?lGMIDDLE_1 ?ag_MOST_AGAIN ?ag_MOST_BLOCKS ?ag_MOST_IN_A_ROUND ?ag_MOST_IN_GROW ?ag_MOST_ROWS ?ag_NOTHING ?lGNOTHING ?ag_ONE ?lGONE ?ac_NoRow ?kc_NoRow ?ob_NoRow ?in_NoRow ?fa_NoRow ?fc_NoRow ?fm_NoRow ?fn_NoRow ?ac_NoText ?kc_NoText ?ob_NoText ?in_NoText ?fa_NoText ?fc_NoText ?fm_NoText ?fn_NoText ?ac_TooMuch ?xc_TooMuch ?ex0_NoRow ?ex1_NoRow ?ex2_NoRow ?ex3_NoRow ?ex4_NoRow ?ex5_NoRow ?ex6_NoRow ?ex0_NoText ?ex1_NoText ?ex2_NoText ?ex3_NoText ?ex4_NoText ?ex5_NoText ?ex6_NoText ?gM ?fR ?fH
  (case b0 | b1 | b2 | b3 | b4 | b5 | b6 | b7 | b8 | b9 | b10 | b11 | b12 | b13 | b14 | b15 | b16 | b17 | b18 | b19 | b20 | b21 | b22 | b23 | b24 | b25 | b26 | b27 | b28 | b29 | b30 | b31 | b32 | b33 | b34 | b35 | b36 | b37 | b38 | b39 | b40 | b41 | b42 | b43 | b44 | b45 | b46 | b47 | b48 | b49 | b50 | b51 | b52 | b53 | b54 | b55 | b56 | b57 | b58 | b59 | b60 | b61 | b62 | b63 =>exact ⟨by k_is,_,L2.fun_mk (by k_is) (by k_is) (by k_is)⟩)
  (case a64 | l64 | c64 | k64 | z_abs | z_all | z_bool | z_enumerate | z_int | z_isinstance | z_len | z_min | z_range | z_str | z_tuple | at_NUMBERS =>k_is)
  (case am_NUMBERS=>decide)
  (case lt_NUMBERS=>k_is)
  (case kt_NUMBERS=>k_keys)
  (case et_NUMBERS_go | et_NUMBERS_skip | et_NUMBERS_side | et_NUMBERS_dot | et_NUMBERS_left | et_NUMBERS_right | et_NUMBERS_round | et_NUMBERS_mirror | et_NUMBERS_grow | et_NUMBERS_quarter | et_NUMBERS_half | et_NUMBERS_arc | en_NUMBERS_0 | en_NUMBERS_1 | en_NUMBERS_2 | en_NUMBERS_3 | en_NUMBERS_4 | en_NUMBERS_5 | en_NUMBERS_6 | at_DEEDS | lt_DEEDS =>k_is)
  (case kt_DEEDS=>k_keys)
  (case et_DEEDS_go | et_DEEDS_skip | et_DEEDS_side | et_DEEDS_dot | et_DEEDS_left | et_DEEDS_right | et_DEEDS_round | et_DEEDS_mirror | et_DEEDS_grow | et_DEEDS_quarter | et_DEEDS_half | et_DEEDS_arc | ag_LEAST_CHANGE | lGLEAST_CHANGE | ag_MIDDLE | lGMIDDLE | lGMIDDLE_0 | lGMIDDLE_1 | ag_MOST_AGAIN | ag_MOST_BLOCKS | ag_MOST_IN_A_ROUND | ag_MOST_IN_GROW | ag_MOST_ROWS | ag_NOTHING | lGNOTHING | ag_ONE | lGONE | ac_NoRow | kc_NoRow =>k_is)
  (case ob_NoRow=>exact ⟨_,_,_,_,_,_,_,_,_,_,_,_,_,_,_,_,by k_is,by (unfold Dd.bmV;k_exc),_,by k_is,rfl⟩)
  (case in_NoRow=>exact ⟨_,_,by k_is,by k_is,L2.fun_mk (by k_is) (by k_is) (by k_is)⟩)
  (case fa_NoRow=>k_is)
  (case fc_NoRow=>exact ⟨_,by k_is,rfl,rfl⟩)
  (case fm_NoRow | fn_NoRow | ac_NoText | kc_NoText =>k_is)
  (case ob_NoText=>exact ⟨_,_,_,_,_,_,_,_,_,_,_,_,_,_,_,_,by k_is,by (unfold Dd.bmV;k_exc),_,by k_is,rfl⟩)
  (case in_NoText=>exact ⟨_,_,by k_is,by k_is,L2.fun_mk (by k_is) (by k_is) (by k_is)⟩)
  (case fa_NoText=>k_is)
  (case fc_NoText=>exact ⟨_,by k_is,rfl,rfl⟩)
  (case fm_NoText | fn_NoText | ac_TooMuch =>k_is)
  (case xc_TooMuch=>unfold Dd.bmV;k_exc)
  (case ex0_NoRow | ex1_NoRow | ex2_NoRow | ex3_NoRow | ex4_NoRow | ex5_NoRow | ex6_NoRow | ex0_NoText | ex1_NoText | ex2_NoText | ex3_NoText | ex4_NoText | ex5_NoText | ex6_NoText =>k_is)
  (case gM=>kts_exm)
  (case fR=>kts_exm)
  (case fH=>kts_exm)
